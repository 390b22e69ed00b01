import PyProof.Rows.All
import Wide.All
import OpenK.AllK
import Wide.FinOn
import PyProof.EqAt
import PyProof.EqKinds
import PyProof.TupleCall
import KE.BitLaws
import PyProof.DictTruth
import PyProof.TupleKey
import PyProof.MinMaxWalk
import PyProof.WalkInts
import PyProof.ZipIter
import PyFlatLaws
import Open.SpecLaws
import KE.OsHead
import KE.SpHead
import KE.OsShapes
import KE.OsGo
import PySem.Challenge.RW_ordersknown_s01_answers
set_option Elab.async false
set_option linter.all false
set_option maxRecDepth 100000
set_option maxHeartbeats 2000000
local macro_rules
 |`(lay_quick $_:ident*)=>do
  let t:=`PySem.Challenge
  let c:=t.str "cw_ordersknown_s01_answers_holds"
  let mut n:=("heap_1 heap_8 heap_779 tree_9 tree_19 tree_82 tree_126 tree_156 tree_214 tree_301 tree_382 tree_434 tree_507 tree_551 tree_637 tree_693 tree_711 tree_736 tree_776 view_1".splitOn " ").map c.str++[t.str "pw_ordersknown_s01_answers"]
  for k in [0:780] do n:=c.str s!"o_{k}"::n
  let a<-n.mapM λc=>do
   let i:=Lean.mkIdent ((`_root_.PySem.W.Fast).str s!"tw{c.hash}")
   `(theorem $i:ident : True:=⟨⟩)
  return Lean.mkNullNode a.toArray
lay_quick x
abbrev Fg:=PySem.W.Frag
namespace L2
open PySem PySem.Spec PyProof.Rows
abbrev Key:=Sum Int Str
def keyIs:Key->Value->Bool
 |.inl k,v=>Value.isInt k v
 |.inr x,v=>Value.isStrOf x v
def keyH (w:World):Key->Int
 |.inl k=>hashInt k
 |.inr x=>hashStr w x
theorem keyIs_shape:∀{k:Key} {v:Value},keyIs k v=true->(∃i t,k=Sum.inl i/\v=Value.int i t)\/(∃x t,k=Sum.inr x/\v=Value.str x t)
 |.inl i,v,h=>by
  obtain⟨t,e⟩:=Value.isInt_shape (k:=i) (v:=v) h
  exact .inl ⟨i,t,rfl,e⟩
 |.inr x,v,h=>by
  obtain⟨t,e⟩:=Value.isStrOf_shape (x:=x) (v:=v) h
  exact .inr ⟨x,t,rfl,e⟩
theorem keyIs_int (i:Int)(t:Tok):keyIs (.inl i) (.int i t)=true:=by simp[keyIs,Value.isInt]
theorem keyIs_str (x:Str)(t:Tok):keyIs (.inr x) (.str x t)=true:=by simp[keyIs,Value.isStrOf]
theorem key_ll (a b:Int):decide ((Sum.inl a:Key)=Sum.inl b)=(a==b):=by
 by_cases e:a=b
 ·subst e;simp
 ·have h:¬(Sum.inl a:Key)=Sum.inl b:=λq=>e (Sum.inl.inj q)
  rw[decide_eq_false h]
  exact(beq_eq_false_iff_ne.mpr e).symm
theorem key_rr (a b:Str):decide ((Sum.inr a:Key)=Sum.inr b)=decide (a=b):=by
 by_cases e:a=b
 ·subst e;simp
 ·have h:¬(Sum.inr a:Key)=Sum.inr b:=λq=>e (Sum.inr.inj q)
  rw[decide_eq_false h,decide_eq_false e]
theorem key_lr (a:Int)(b:Str):decide ((Sum.inl a:Key)=Sum.inr b)=false:=decide_eq_false (λq=>nomatch q)
theorem key_rl (a:Str)(b:Int):decide ((Sum.inr a:Key)=Sum.inl b)=false:=decide_eq_false (λq=>nomatch q)
def mixKind (prog:Program)(w:World):PySem.KeyKind prog w Key where
 is:=keyIs
 hash:=keyH w
 inj:=λv a b ha hb=>by
  rcases keyIs_shape ha with ⟨i,t,rfl,rfl⟩|⟨x,t,rfl,rfl⟩
  ·rcases keyIs_shape hb with ⟨j,u,rfl,e⟩|⟨y,u,rfl,e⟩
   ·injection e with e1 _;rw[e1]
   ·exact nomatch e
  ·rcases keyIs_shape hb with ⟨j,u,rfl,e⟩|⟨y,u,rfl,e⟩
   ·exact nomatch e
   ·injection e with e1 _;rw[e1]
 byValue:=λk v h=>by
  rcases keyIs_shape h with ⟨i,t,rfl,rfl⟩|⟨x,t,rfl,rfl⟩<;>rfl
 pyHash:=λhv h=>by
  rcases keyIs_shape hv with ⟨i,t,rfl,rfl⟩|⟨x,t,rfl,rfl⟩
  ·exact wpAny_pyHash_int h
  ·exact wpAny_pyHash_str h
 eqBool:=λhu hv h=>by
  rcases keyIs_shape hu with ⟨i,t,rfl,rfl⟩|⟨x,t,rfl,rfl⟩
  ·rcases keyIs_shape hv with ⟨j,u,rfl,rfl⟩|⟨y,u,rfl,rfl⟩
   ·rw[key_ll]at h;exact wpAny_eqBool_int h
   ·rw[key_lr]at h;exact SeqAt.EqAt.int_str i t y u _ _ _ _ h
  ·rcases keyIs_shape hv with ⟨j,u,rfl,rfl⟩|⟨y,u,rfl,rfl⟩
   ·rw[key_rl]at h;exact SeqAt.EqAt.str_int x t j u _ _ _ _ h
   ·rw[key_rr]at h;exact wpAny_eqBool_str h
 «strs»:=λk x t v h=>by
  rcases keyIs_shape h with ⟨i,u,rfl,e⟩|⟨y,u,rfl,e⟩
  ·exact nomatch e
  ·injection e with e1 _
   subst e1
   cases v<;>rfl
theorem mixKind_int (prog:Program)(w:World)(i:Int)(t:Tok):(mixKind prog w).is (.inl i) (.int i t)=true:=keyIs_int i t
theorem mixKind_str (prog:Program)(w:World)(x:Str)(t:Tok):(mixKind prog w).is (.inr x) (.str x t)=true:=keyIs_str x t
end L2
namespace L2
open PySem PySem.Spec PyProof.Rows
inductive V where
 |non|bl (b:Bool)|int (i:Int)|str (x:Str)|byt (b:Array UInt8)|flt (b:UInt64)|ref (a:Addr)|ty (n:String)
 deriving DecidableEq
def RelV:V->Value->Prop
 |.non,u=>u=Value.none
 |.bl b,u=>u=Value.bool b
 |.int i,u=>∃t,u=Value.int i t
 |.str x,u=>∃t,u=Value.str x t
 |.byt b,u=>∃t,u=Value.bytes b t
 |.flt b,u=>∃t,u=Value.float b t
 |.ref a,u=>u=Value.ref a
 |.ty n,u=>u=Value.type n
abbrev Vals:List V->List Value->Prop:=Paired RelV
theorem Vals.length {xs:List V}{us:List Value}(r:Vals xs us):xs.length=us.length:=Paired.length r
theorem Vals.get:∀{xs:List V} {us:List Value} {i:Nat} {x:V},Vals xs us->xs[i]?=some x->∃u,us[i]?=some u/\RelV x u
 |_,_,_,_,.nil,e=>by simp at e
 |_,_,0,_,.cons r _,e=>by simp at e;subst e;exact⟨_,rfl,r⟩
 |_,_,i+1,x,.cons _ t,e=>by
  obtain⟨u,h1,h2⟩:=Vals.get (i:=i) (x:=x) t (by simpa using e)
  exact⟨u,by simpa using h1,h2⟩
theorem Vals.append:∀{xs ys:List V} {us ws:List Value},Vals xs us->Vals ys ws->Vals (xs++ys) (us++ws)
 |_,_,_,_,.nil,s=>s
 |_,_,_,_,.cons r t,s=>.cons r (Vals.append t s)
theorem Vals.take:∀{xs:List V} {us:List Value} (n:Nat),Vals xs us->Vals (xs.take n) (us.take n)
 |_,_,0,_=>.nil
 |_,_,_+1,.nil=>.nil
 |_,_,n+1,.cons r t=>.cons r (Vals.take n t)
theorem Vals.drop:∀{xs:List V} {us:List Value} (n:Nat),Vals xs us->Vals (xs.drop n) (us.drop n)
 |_,_,0,r=>r
 |_,_,_+1,.nil=>.nil
 |_,_,n+1,.cons _ t=>Vals.drop n t
def RelO:Option V->Option Value->Prop
 |some v,some u=>RelV v u
 |none,none=>True
 |_,_=>False
def KV {κ:Type}:List (κ×V)->List (κ×Value)->Prop:=Paired λ(p:κ×V) (q:κ×Value)=>p.1=q.1/\RelV p.2 q.2
def kV:Key->V
 |.inl i=>.int i
 |.inr x=>.str x
inductive HO where
  |lst (xs:List V)
  |tup (xs:List V)
  |dK (kvs:List (Key×V))|dT (kvs:List (List Key×V))
  |set (S:Int->Bool) (n:Nat)
  |ins (C dx:Addr) (fs:List (Str×V))
  |own (x:Addr)
  |xd (fs:List (Str×V))
  |met (f x:Addr)
  |rng (lo hi:Int)
  |frz (o:Obj) (u:HO)
  |tbl (ps:Array Value)
  |ext (φ:Heap->Prop)
abbrev Hp:=Addr->Option HO
def upd (H:Hp)(a:Addr)(o:HO):Hp:=λb=>if b=a then some o else H b
theorem upd_same {H:Hp}{a:Addr}{o:HO}:upd H a o a=some o:=by unfold upd;rw[if_pos rfl]
theorem upd_ne {H:Hp}{a b:Addr}{o:HO}(h:b≠a):upd H a o b=H b:=by unfold upd;rw[if_neg h]
theorem ne_of {H:Hp}{a b:Addr}{o u:HO}(h:H a=some o)(h':H b=some u)(d:o≠u):a≠b:=by
 intro e;subst e;rw[h]at h';exact d (Option.some.inj h')
theorem ne_of_none {H:Hp}{a b:Addr}{o:HO}(h:H a=some o)(h':H b=none):a≠b:=by
 intro e;subst e;rw[h]at h';cases h'
section
variable (P:Program)(w:World)
def ObjOk (H:Hp)(h:Heap)(a:Addr):HO->Prop
 |.lst xs=>xs.length<=sizeLine/\∃(its:List Value) (n:Nat),Vals xs its/\h.get? a=some {cls:=.type "list",data:=.seq its.toArray n}
 |.tup xs=>xs.length<=sizeLine/\∃its:List Value,Vals xs its/\IsTup h a its.toArray
 |.dK kvs=>kvs.length<=sizeLine/\(a==sysModules)=false/\∃vs,KV kvs vs/\h.DictOf (mixKind P w) a vs
 |.dT kvs=>kvs.length<=sizeLine/\(a==sysModules)=false/\∃xs:List (List Key×Addr×Value),
   Paired (λ(p:List Key×V) (q:List Key×Addr×Value)=>p.1=q.1/\H q.2.1=some (.tup (p.1.map kV))/\RelV p.2 q.2.2) kvs xs/\
   ∃o es ep,h.get? a=some o/\o.ExactDict/\o.data=.dict es ep/\es.toList=xs.map (entryOfKey (tupleKind (mixKind P w)))/\(xs.map (·.1)).Nodup
 |.set S n=>h.SetOf (intKind P w) a S n
 |.ins C dx fs=>H dx=some (.own a)/\fs.length<=1000/\dx≠a/\h.get? a=some (PySem.W.instObj C dx)/\
   ∃mA,h.Ns1 dx mA/\(∀f,RelO (fs.lookup f) (mA f))/\PySem.Within mA (fs.map (·.1))
 |.own _=>∃o,h.get? a=some o
 |.xd fs=>∃mA,h.Ns1 a mA/\∀f,RelO (fs.lookup f) (mA f)
 |.rng lo hi=>∃t u v,h.get? a=some {cls:=.type "range",data:=.fields #[.int lo t,.int hi u,.int 1 v]}
 |.frz o u=>h.get? a=some o/\ObjOk H h a u
 |.tbl ps=>h.get? a=some {cls:=.none,data:=.fields ps}
 |.met f x=>h.get? a=some (PySem.W.methodObj (.ref f) (.ref x))
 |.ext φ=>φ h/\(∃o,h.get? a=some o)/\∀h1 h2:Heap,φ h1->(∀o,h1.get? a=some o->h2.get? a=some o)->φ h2
def HOk (H:Hp)(h:Heap):Prop:=∀a o,H a=some o->ObjOk P w H h a o
end
section
variable {P:Program}{w:World}{H H':Hp}{h h':Heap}{a:Addr}{o:HO}
theorem ObjOk.lt (x:ObjOk P w H h a o):a<h.objs.size:=by
 cases o with
 |lst xs=>obtain⟨_,_,_,_,e⟩:=x;exact Heap.lt_size e
 |tup xs=>obtain⟨_,_,_,p⟩:=x;exact p.lt
 |dK kvs=>obtain⟨_,_,_,_,o,_,_,e,_⟩:=x;exact Heap.lt_size e
 |dT kvs=>obtain⟨_,_,_,_,o,_,_,e,_⟩:=x;exact Heap.lt_size e
 |set S n=>obtain⟨o,_,_,_,e,_⟩:=x;exact Heap.lt_size e
 |ins C dx fs=>obtain⟨_,_,_,e,_⟩:=x;exact Heap.lt_size e
 |own y=>obtain⟨_,e⟩:=x;exact Heap.lt_size e
 |xd fs=>obtain⟨_,⟨_,_,_,e,_⟩,_⟩:=x;exact Heap.lt_size e
 |rng lo hi=>obtain⟨_,_,_,e⟩:=x;exact Heap.lt_size e
 |frz ob u=>obtain⟨e,_⟩:=x;exact Heap.lt_size e
 |tbl ps=>exact Heap.lt_size (show h.get? a=some _ from x)
 |met f y=>exact Heap.lt_size (show h.get? a=some _ from x)
 |ext φ=>obtain⟨_,⟨_,e⟩,_⟩:=x;exact Heap.lt_size e
theorem Paired.mapP {α β:Type}{F G:α->β->Prop}:∀{l₁:List α} {l₂:List β},Paired F l₁ l₂->(∀a b,F a b->G a b)->Paired G l₁ l₂
 |_,_,.nil,_=>.nil
 |_,_,.cons r t,f=>.cons (f _ _ r) (Paired.mapP t f)
theorem ObjOk.stay (x:ObjOk P w H h a o)(k:∀b u,(b=a\/H b=some (.own a))->h.get? b=some u->h'.get? b=some u)
  (ho:∀b,H b=some (.own a)->H' b=some (.own a)) (ht:∀b xs,H b=some (.tup xs)->H' b=some (.tup xs)):ObjOk P w H' h' a o:=by
 induction o with
 |lst xs=>obtain⟨z,its,n,r,e⟩:=x;exact⟨z,its,n,r,k _ _ (.inl rfl) e⟩
 |tup xs=>obtain⟨z,its,r,ob,e,c⟩:=x;exact⟨z,its,r,ob,k _ _ (.inl rfl) e,c⟩
 |dK kvs=>obtain⟨z,y,vs,r,ob,es,ep,e,c⟩:=x;exact⟨z,y,vs,r,ob,es,ep,k _ _ (.inl rfl) e,c⟩
 |dT kvs=>
  obtain⟨z,y,xs,r,ob,es,ep,e,c⟩:=x
  exact⟨z,y,xs,Paired.mapP r λp q z=>⟨z.1,ht _ _ z.2.1,z.2.2⟩,ob,es,ep,k _ _ (.inl rfl) e,c⟩
 |set S n=>obtain⟨ob,es,ep,t,e,c⟩:=x;exact⟨ob,es,ep,t,k _ _ (.inl rfl) e,c⟩
 |ins C dx fs=>
  obtain⟨d,z,ne,e,mA,⟨od,es,ep,e2,c⟩,r⟩:=x
  exact⟨ho _ d,z,ne,k _ _ (.inl rfl) e,mA,⟨od,es,ep,k _ _ (.inr d) e2,c⟩,r⟩
 |own y=>obtain⟨ob,e⟩:=x;exact⟨ob,k _ _ (.inl rfl) e⟩
 |xd fs=>obtain⟨mA,⟨od,es,ep,e,c⟩,r⟩:=x;exact⟨mA,⟨od,es,ep,k _ _ (.inl rfl) e,c⟩,r⟩
 |rng lo hi=>obtain⟨t,u,v,e⟩:=x;exact⟨t,u,v,k _ _ (.inl rfl) e⟩
 |frz ob u ih=>obtain⟨e,q⟩:=x;exact⟨k _ _ (.inl rfl) e,ih q⟩
 |tbl ps=>
  have e:h.get? a=some {cls:=.none,data:=.fields ps}:=x
  show h'.get? a=some {cls:=.none,data:=.fields ps}
  exact k a _ (.inl rfl) e
 |met f y=>
  have e:h.get? a=some (PySem.W.methodObj (.ref f) (.ref y)):=x
  show h'.get? a=some (PySem.W.methodObj (.ref f) (.ref y))
  exact k a _ (.inl rfl) e
 |ext φ=>obtain⟨p,⟨o,e⟩,st⟩:=x;exact⟨st _ _ p λo q=>k _ _ (.inl rfl) q,⟨o,k _ _ (.inl rfl) e⟩,st⟩
theorem HOk.lt (x:HOk P w H h)(e:H a=some o):a<h.objs.size:=(x a o e).lt
theorem HOk.fresh (x:HOk P w H h)(e:h.objs.size<=a):H a=none:=by
 cases q:H a with
 |none=>rfl
 |some u=>exact absurd (Nat.lt_of_lt_of_le (x.lt q) e) (Nat.lt_irrefl _)
theorem HOk.kept (x:HOk P w H h)(k:∀b u,h.get? b=some u->h'.get? b=some u):HOk P w H h':=λa o e=>
 (x a o e).stay (λb u _ q=>k b u q) (λ_ q=>q) λ_ _ q=>q
theorem HOk.laid (x:HOk P w H h)(k:∀b u,h.get? b=some u->h'.get? b=some u)(hp:h.objs.size<=a)(new:ObjOk P w (upd H a o) h' a o):HOk P w (upd H a o) h':=λb u e=>by
 have hn:=x.fresh hp
 by_cases hb:b=a
 ·subst hb;rw[upd_same]at e;cases e;exact new
 ·rw[upd_ne hb]at e
  exact(x b u e).stay (λc v _ q=>k c v q) (λc q=>by rw[upd_ne (ne_of_none q hn)];exact q) λc xs q=>by rw[upd_ne (ne_of_none q hn)];exact q
end
def Rd (H:Hp)(a:Addr)(u:HO):Prop:=H a=some u\/∃o,H a=some (.frz o u)
theorem Rd.ok {P:Program}{w:World}{H:Hp}{h:Heap}{a:Addr}{u:HO}(r:Rd H a u)(x:HOk P w H h):ObjOk P w H h a u:=by
 rcases r with r|⟨o,r⟩
 ·exact x a u r
 ·obtain⟨_,q⟩:=x a _ r
  exact q
def Mut:Option HO->Prop
 |some (.lst _)=>True
 |some (.dK _)=>True
 |some (.dT _)=>True
 |some (.set _ _)=>True
 |some (.ins _ _ _)=>True
 |some (.ext _)=>True
 |_=>False
section
variable {P:Program}{w:World}{H:Hp}{h h':Heap}{x e:Addr}{o':HO}
theorem HOk.write (ok:HOk P w H h)(mu:Mut (H x))(he:e=x\/H e=some (.own x))(k:∀b u,b≠e->h.get? b=some u->h'.get? b=some u)(heo:∃u,h'.get? e=some u)
  (new:ObjOk P w (upd H x o') h' x o'):HOk P w (upd H x o') h':=λb u q=>by
 have nown:∀c y,H c=some (.own y)->c≠x:=λc y r z=>by subst z;rw[r]at mu;exact mu
 have ntup:∀c xs,H c=some (.tup xs)->c≠x:=λc xs r z=>by subst z;rw[r]at mu;exact mu
 by_cases hb:b=x
 ·subst hb;rw[upd_same]at q;cases q;exact new
 ·rw[upd_ne hb]at q
  by_cases hbe:b=e
  ·have q':H b=some (.own x):=by
    rcases he with z|z
    ·exact absurd (hbe.trans z) hb
    ·rw[hbe];exact z
   rw[q]at q';cases q'
   obtain⟨v,hv⟩:=heo
   exact⟨v,by rw[hbe];exact hv⟩
  ·refine(ok b u q).stay (λc v hc r=>k c v ?_ r) (λc r=>by rw[upd_ne (nown c b r)];exact r) λc xs r=>by rw[upd_ne (ntup c xs r)];exact r
   rcases hc with rfl|hc
   ·exact hbe
   ·rintro rfl
    rcases he with z|z
    ·exact nown c b hc z
    ·rw[hc]at z;cases z;exact hb rfl
end
structure Un (fs ex:List Addr)(H H':Hp)(h h':Heap):Prop where
 keep:∀b o,h.get? b=some o->H b=none->b∉fs->b∉ex->h'.get? b=some o
 slot:∀b o,h.get? b=some o->H b=none->b∈fs->b∉ex->∃sl,h'.get? b=some {o with slots:=sl}
 free:∀b o,h.get? b=some o->H b=none->b∉ex->H' b=none
 there:∀b o,h.get? b=some o->b∉ex->∃o',h'.get? b=some o'
 tups:∀b xs,H b=some (.tup xs)->H' b=some (.tup xs)
 frzs:∀b o u,H b=some (.frz o u)->H' b=some (.frz o u)
 tbls:∀b ps,H b=some (.tbl ps)->∃more,H' b=some (.tbl (ps++more))
section
variable {fs fs' ex ex':List Addr}{H H1 H2:Hp}{h h1 h2 h':Heap}{a x e:Addr}{o:HO}
theorem Un.any (u:Un fs ex H H1 h h1){b:Addr}{ob:Obj}(q:h.get? b=some ob)(n:H b=none)(hx:b∉ex):∃sl,h1.get? b=some {ob with slots:=sl}:=by
 by_cases hb:b∈fs
 ·exact u.slot b ob q n hb hx
 ·exact⟨ob.slots,u.keep b ob q n hb hx⟩
theorem Un.kept (k:∀b u,h.get? b=some u->h'.get? b=some u):Un fs ex H H h h':=
 ⟨λb ob q _ _ _=>k b ob q,λb ob q _ _ _=>⟨ob.slots,k b ob q⟩,λ_ _ _ n _=>n,λb ob q _=>⟨ob,k b ob q⟩,λ_ _ q=>q,λ_ _ _ q=>q,λ_ ps q=>⟨#[],by rw[q];simp⟩⟩
theorem Un.refl:Un fs ex H H h h:=Un.kept λ_ _ q=>q
theorem Un.laid (k:∀b u,h.get? b=some u->h'.get? b=some u)(hp:h.objs.size<=a)(hn:H a=none):Un fs ex H (upd H a o) h h' where
 keep:=λb u q _ _ _=>k b u q
 slot:=λb u q _ _ _=>⟨u.slots,k b u q⟩
 free:=λb u q n _=>by rw[upd_ne (Nat.ne_of_lt (Nat.lt_of_lt_of_le (Heap.lt_size q) hp))];exact n
 there:=λb u q _=>⟨u,k b u q⟩
 tups:=λb xs q=>by rw[upd_ne (ne_of_none q hn)];exact q
 frzs:=λb u xs q=>by rw[upd_ne (ne_of_none q hn)];exact q
 tbls:=λb ps q=>⟨#[],by rw[upd_ne (ne_of_none q hn),q];simp⟩
theorem Un.write (mu:Mut (H x))(he:e=x\/H e=some (.own x))(k:∀b u,b≠e->h.get? b=some u->h'.get? b=some u)(heo:∃u,h'.get? e=some u):Un fs ex H (upd H x o) h h':=by
 have hx:∀b,H b=none->b≠x:=λb n z=>by subst z;rw[n]at mu;exact mu
 have hb:∀b,H b=none->b≠e:=λb n z=>by
  subst z
  rcases he with r|r
  ·exact hx b n r
  ·rw[n]at r;cases r
 have hm:∀b u,H b=some u->¬Mut (some u)->b≠x:=λb u q nm z=>by subst z;rw[q]at mu;exact nm mu
 refine⟨λb u q n _ _=>k b u (hb b n) q,λb u q n _ _=>⟨u.slots,k b u (hb b n) q⟩,λb u q n _=>by rw[upd_ne (hx b n)];exact n,λb u q _=>?_,
  λb xs q=>by rw[upd_ne (hm b _ q λz=>z)];exact q,λb u xs q=>by rw[upd_ne (hm b _ q λz=>z)];exact q,λb ps q=>⟨#[],by rw[upd_ne (hm b _ q λz=>z),q];simp⟩⟩
 by_cases hbe:b=e
 ·subst hbe;exact heo
 ·exact⟨u,k b u hbe q⟩
end
def trk (h:Heap)(H:Hp):List Addr:=(List.range h.objs.size).filter λa=>(H a).isSome
def hidT (h:Heap)(H:Hp):Heap:=PySem.W.hideAll h (trk h H)
theorem hidT_size (h:Heap)(H:Hp):(hidT h H).objs.size=h.objs.size:=PySem.W.hideAll_size _ _
theorem hidT_get {h:Heap}{H:Hp}{b:Addr}{o:Obj}(e:h.get? b=some o)(n:H b=none):(hidT h H).get? b=some o:=
 PySem.W.hideAll_get _ e λhm=>by
  have q:(H b).isSome=true:=(List.mem_filter.mp hm).2
  rw[n]at q;simp at q
theorem of_hidT {h:Heap}{H:Hp}{b:Addr}{o:Obj}(e:(hidT h H).get? b=some o):h.get? b=some o/\H b=none:=by
 have e':h.get? b=some o:=PySem.W.of_hideAll (trk h H) e
 refine⟨e',?_⟩
 cases q:H b with
 |none=>rfl
 |some x=>
  have hm:b∈trk h H:=List.mem_filter.mpr ⟨List.mem_range.mpr (Heap.lt_size e'),by simp[q]⟩
  have z:(hidT h H).get? b=none:=PySem.W.hideAll_none (trk h H) hm
  rw[z]at e;cases e
end L2
namespace L2
open PySem PySem.Spec PyProof.Rows
structure Mod (K:Fg)(mg:Str->Option Value)(base:Heap):Prop where
 kin:K.In base
 glob:base.Ns mainGlobals mg
 blt:∃mb,base.Ns builtinsNs mb/\∀x:Str,x≠"__name__"->mb x=bootBuiltins x
 nolimit:base.NoLimit
structure Cx where
 prog:Program
 w:World
 K:Fg
 mg:Str->Option Value
 base:Heap
 A:Around
 N:List Str
 s_0:Shared
 H_0:Hp
 env:Env
 outer:List Env
 stack:List Env
 ex:List Addr
 fn:Str->Bool
 calm:Bool
 pn:List (Addr×Obj)
 xe:Value->Shared->Prop
def frs (l:List Env):List Addr:=l.filterMap (·.frame)
abbrev Cx.fs (X:Cx):List Addr:=frs X.outer
def Vis (sc:Scope)(x:Str):Prop:=sc.names.lookup x=some .local\/sc.names.lookup x=some .cell\/sc.names.lookup x=some .free
def Loc (sc:Scope)(x:Str):Prop:=sc.names.lookup x=some .local\/sc.names.lookup x=some .cell
def Look (env:Env)(h:Heap)(m:Str->Option Value)(x:Str)(u:Value):Prop:=
 (env.kindOf x=some .local/\m x=some u)\/((env.kindOf x=some .cell\/env.kindOf x=some .free)/\∃c,env.cells.lookup x=some c/\h.IsCell c (some u))
structure Cx.Ok (X:Cx):Prop where
 mod:Mod X.K X.mg X.base
 kind:X.env.scope.kind=.function
 glob:X.env.globals=mainGlobals
 blt:X.env.builtins=builtinsNs
 above:X.s_0.heap.objs.size<=X.env.locals
 inj:∀x y c,X.env.cells.lookup x=some c->X.env.cells.lookup y=some c->x=y
 has:∀x,(X.env.kindOf x=some .cell\/X.env.kindOf x=some .free)->∃c,X.env.cells.lookup x=some c
 cab:∀x c,X.fn x=true->X.env.cells.lookup x=some c->X.s_0.heap.objs.size<=c
 hd:X.calm=true->X.A.handled=none
 frames:X.A.frames=some X.stack
 stk:X.stack=X.outer\/(X.stack=X.env::X.outer/\X.env.frame=some X.env.locals)
 exf:∀b∈X.ex,b≠X.env.locals/\∀x c,X.env.cells.lookup x=some c->c≠b
 bs:∀b o,X.base.get? b=some o->X.s_0.heap.get? b=some o/\X.H_0 b=none
 bsz:X.base.objs.size<=X.s_0.heap.objs.size
 noex:∀b o,X.base.get? b=some o->b∉X.ex
 exfs:∀b∈X.ex,b∉X.fs
 funs:X.s_0.heap.FunFrames X.base X.outer
 frf:∀b∈X.fs,X.H_0 b=none
structure Inv (X:Cx)(pins:List (Addr×Obj))(Z:List (Option V))(H:Hp)(s:Shared):Prop where
 ok:X.Ok
 os:s.os=X.s_0.os
 bare:AllBare s.gens
 base:Un X.fs X.ex X.H_0 H X.s_0.heap s.heap
 loc:∃m,s.heap.Ns X.env.locals m/\∀(i:Nat) (x:Str) (v:V),X.N[i]?=some x->Z[i]?=some (some v)->Vis X.env.scope x->∃u,RelV v u/\Look X.env s.heap m x u
 cell:∀x c,X.env.cells.lookup x=some c->∃v,s.heap.IsCell c v
 free:H X.env.locals=none
 freeC:∀x c,X.env.cells.lookup x=some c->H c=none
 pin:∀p∈X.pn++pins,s.heap.get? p.1=some p.2/\H p.1=none/\p.1≠X.env.locals/\p.1∉X.fs/\∀v,p.2.data≠ .cell v
 hok:HOk X.prog X.w H s.heap
 len:Z.length=X.N.length
section
variable {X:Cx}{pins:List (Addr×Obj)}{Z:List (Option V)}{H H':Hp}{s:Shared}{h':Heap}
theorem Cx.Ok.nofr (ok:X.Ok){b:Addr}{o:Obj}(e:X.base.get? b=some o):b∉X.fs:=λhb=>by
 have:=(ok.funs.mem hb).1
 rw[e]at this;cases this
theorem Inv.bs (I:Inv X pins Z H s):∀b o,X.base.get? b=some o->s.heap.get? b=some o/\H b=none:=λb o e=>
 ⟨I.base.keep b o (I.ok.bs b o e).1 (I.ok.bs b o e).2 (I.ok.nofr e) (I.ok.noex b o e),I.base.free b o (I.ok.bs b o e).1 (I.ok.bs b o e).2 (I.ok.noex b o e)⟩
theorem Inv.bk (I:Inv X pins Z H s):∀b o,X.base.get? b=some o->s.heap.get? b=some o:=λb o e=>(I.bs b o e).1
theorem Inv.mod (I:Inv X pins Z H s):Mod X.K X.mg X.base:=I.ok.mod
theorem Inv.kIn (I:Inv X pins Z H s):X.K.In s.heap:=I.ok.mod.kin.keeps I.bk
theorem Inv.lt (I:Inv X pins Z H s):X.env.locals<s.heap.objs.size:=let⟨_,hn,_⟩:=I.loc;hn.lt
theorem Inv.sz (I:Inv X pins Z H s):X.s_0.heap.objs.size<=s.heap.objs.size:=Nat.le_trans I.ok.above (Nat.le_of_lt I.lt)
theorem Inv.nofs (I:Inv X pins Z H s){a:Addr}(h:s.heap.objs.size<=a):a∉X.fs:=λhb=>by
 obtain⟨_,o,ho,_⟩:=I.ok.funs.mem hb
 exact absurd (Nat.lt_of_lt_of_le (Heap.lt_size ho) (Nat.le_trans I.sz h)) (Nat.lt_irrefl _)
theorem Inv.cne (I:Inv X pins Z H s):∀x c,X.env.cells.lookup x=some c->c≠X.env.locals:=λx c e z=>by
 obtain⟨v,o,ho,hd⟩:=I.cell x c e
 obtain⟨m,⟨o',es,ep,ho',hd',_⟩,_⟩:=I.loc
 rw[z,ho']at ho;cases ho;rw[hd']at hd;cases hd
theorem Inv.funs (I:Inv X pins Z H s):s.heap.FunFrames X.base X.outer:=by
 have all:∀(l:List Env),(∀b∈frs l,b∈X.fs)->X.s_0.heap.FunFrames X.base l->s.heap.FunFrames X.base l:=by
  intro l
  induction l with
  |nil=>intro _ _;trivial
  |cons env r ih=>
   intro hs hl
   obtain⟨hk,⟨L,o,hf,hn,ho,hd⟩,hr⟩:=hl
   have hL:L∈X.fs:=hs L (by unfold frs;rw[List.filterMap_cons,hf];exact List.mem_cons_self)
   obtain⟨sl,e⟩:=I.base.slot L o ho (I.ok.frf L hL) hL λz=>I.ok.exfs L z hL
   exact⟨hk,⟨L,_,hf,hn,e,hd⟩,ih (λb hb=>hs b (by unfold frs;rw[List.filterMap_cons,hf];exact List.mem_cons_of_mem _ hb)) hr⟩
 exact all X.outer (λ_ hb=>hb) I.ok.funs
theorem Inv.stack (I:Inv X pins Z H s):s.heap.FunFrames X.base X.stack:=by
 rcases I.ok.stk with e|⟨e,hf⟩
 ·rw[e];exact I.funs
 ·rw[e]
  obtain⟨m,hn,_⟩:=I.loc
  refine .cons (by rw[I.ok.kind];decide) hf hn ?_ I.funs
  exact Heap.get?_none_of_le (Nat.le_trans I.ok.bsz I.ok.above)
theorem Inv.stkSub (I:Inv X pins Z H s):∀b∈frs X.stack,b∈X.env.locals::X.fs:=λb hb=>by
 rcases I.ok.stk with e|⟨e,hf⟩
 ·rw[e]at hb;exact List.mem_cons_of_mem _ hb
 ·rw[e]at hb
  unfold frs at hb
  rw[List.filterMap_cons,hf]at hb
  exact hb
theorem Inv.stkFree (I:Inv X pins Z H s):∀b∈frs X.stack,H b=none:=λb hb=>by
 rcases List.mem_cons.mp (I.stkSub b hb)with e|hb
 ·rw[e];exact I.free
 ·obtain⟨_,o,ho,_⟩:=I.ok.funs.mem hb
  exact I.base.free b o ho (I.ok.frf b hb) λz=>I.ok.exfs b z hb
theorem Inv.step {g':Array GenState}{t':Nat}{d':Drawn}{ch:List Addr}(I:Inv X pins Z H s)
  (hch:∀b∈ch,(b∈X.ex\/X.s_0.heap.objs.size<=b)/\b≠X.env.locals/\(∀x c,X.env.cells.lookup x=some c->c≠b)/\∀p∈X.pn++pins,p.1≠b)
  (keep:∀b o,b≠X.env.locals->b∉X.fs->b∉ch->s.heap.get? b=some o->H b=none->h'.get? b=some o)
  (slot:∀b o,b≠X.env.locals->b∈X.fs->b∉ch->s.heap.get? b=some o->H b=none->∃sl,h'.get? b=some {o with slots:=sl}) (free:∀b o,b∉ch->s.heap.get? b=some o->H b=none->H' b=none)
  (there:∀b o,b∉ch->s.heap.get? b=some o->∃o',h'.get? b=some o')
  (tups:∀b xs,H b=some (.tup xs)->H' b=some (.tup xs)) (frzs:∀b o u,H b=some (.frz o u)->H' b=some (.frz o u)) (tbls:∀b ps,H b=some (.tbl ps)->∃more,H' b=some (.tbl (ps++more)))
  (ns:∀m,s.heap.Ns X.env.locals m->h'.Ns X.env.locals m) (hok:HOk X.prog X.w H' h') (hg:AllBare g'):
  Inv X pins Z H' {s with heap:=h',gens:=g',drawn:=d',toks:=t'}:=by
 have neL:∀b o,X.s_0.heap.get? b=some o->b≠X.env.locals:=λb o e=>Nat.ne_of_lt (Nat.lt_of_lt_of_le (Heap.lt_size e) I.ok.above)
 have neC:∀b o,X.s_0.heap.get? b=some o->b∉X.ex->b∉ch:=λb o e hx hb=>by
  rcases(hch b hb).1 with z|z
  ·exact hx z
  ·exact absurd (Nat.lt_of_lt_of_le (Heap.lt_size e) z) (Nat.lt_irrefl _)
 have cellK:∀x c,X.env.cells.lookup x=some c->∀v,s.heap.IsCell c v->h'.IsCell c v:=λx c e v ⟨o,ho,hd⟩=>by
  have nch:c∉ch:=λz=>(hch c z).2.2.1 x c e rfl
  by_cases hc:c∈X.fs
  ·obtain⟨sl,q⟩:=slot c o (I.cne x c e) hc nch ho (I.freeC x c e)
   exact⟨_,q,hd⟩
  ·exact⟨o,keep c o (I.cne x c e) hc nch ho (I.freeC x c e),hd⟩
 refine⟨I.ok,I.os,hg,⟨λb o e n hb hx=>?_,λb o e n hb hx=>?_,λb o e n hx=>?_,λb o e hx=>?_,λb xs e=>tups b xs (I.base.tups b xs e),λb o xs e=>frzs b o xs (I.base.frzs b o xs e),λb ps e=>?_⟩,?_,λx c e=>?_,?_,λx c e=>?_,λp hp=>?_,hok,I.len⟩
 ·exact keep b o (neL b o e) hb (neC b o e hx) (I.base.keep b o e n hb hx) (I.base.free b o e n hx)
 ·obtain⟨sl,e1⟩:=I.base.slot b o e n hb hx
  obtain⟨sl',e2⟩:=slot b _ (neL b o e) hb (neC b o e hx) e1 (I.base.free b o e n hx)
  exact⟨sl',e2⟩
 ·obtain⟨o',e1⟩:=I.base.there b o e hx
  exact free b o' (neC b o e hx) e1 (I.base.free b o e n hx)
 ·obtain⟨o',e1⟩:=I.base.there b o e hx
  exact there b o' (neC b o e hx) e1
 ·obtain⟨m1,e1⟩:=I.base.tbls b ps e
  obtain⟨m2,e2⟩:=tbls b _ e1
  exact⟨m1++m2,by rw[e2,Array.append_assoc]⟩
 ·obtain⟨m,hn,hl⟩:=I.loc
  refine⟨m,ns m hn,λi x v e1 e2 e3=>?_⟩
  obtain⟨u,r,l⟩:=hl i x v e1 e2 e3
  refine⟨u,r,?_⟩
  rcases l with l|⟨k,c,e,z⟩
  ·exact .inl l
  ·exact .inr ⟨k,c,e,cellK x c e _ z⟩
 ·obtain⟨v,z⟩:=I.cell x c e
  exact⟨v,cellK x c e v z⟩
 ·obtain⟨m,⟨o,_,_,ho,_⟩,_⟩:=I.loc
  exact free _ o (λz=>(hch _ z).2.1 rfl) ho I.free
 ·obtain⟨v,o,ho,hd⟩:=I.cell x c e
  exact free c o (λz=>(hch c z).2.2.1 x c e rfl) ho (I.freeC x c e)
 ·obtain⟨e,n,ne,nf,d⟩:=I.pin p hp
  have nch:p.1∉ch:=λz=>(hch p.1 z).2.2.2 p hp rfl
  exact⟨keep p.1 p.2 ne nf nch e n,free p.1 p.2 nch e n,ne,nf,d⟩
theorem Inv.un {t':Nat}(I:Inv X pins Z H s)(u:Un X.fs [] H H' s.heap h')(hok:HOk X.prog X.w H' h'):Inv X pins Z H' {s with heap:=h',toks:=t'}:=by
 obtain⟨m,⟨o,es,ep,ho,r⟩,_⟩:=id I.loc
 obtain⟨sl,hL⟩:=u.any ho I.free (by simp)
 exact I.step (g':=s.gens) (d':=s.drawn) (ch:=[]) (λ_ z=>nomatch z) (λb o _ hb _ e n=>u.keep b o e n hb (by simp)) (λb o _ hb _ e n=>u.slot b o e n hb (by simp)) (λb o _ e n=>u.free b o e n (by simp)) (λb o _ e=>u.there b o e (by simp)) u.tups u.frzs u.tbls (λm' hm=>by
  obtain⟨o',es',ep',ho',r'⟩:=hm
  rw[ho]at ho';cases ho'
  exact⟨_,es',ep',hL,r'⟩) hok I.bare
theorem Inv.call {g':Array GenState}{t':Nat}{d':Drawn}{ch:List Addr}(I:Inv X pins Z H s)(u:Un (frs X.stack) ch H H' s.heap h')(hok:HOk X.prog X.w H' h')(hg:AllBare g')
  (hch:∀b∈ch,(b∈X.ex\/X.s_0.heap.objs.size<=b)/\b≠X.env.locals/\(∀x c,X.env.cells.lookup x=some c->c≠b)/\∀p∈X.pn++pins,p.1≠b):
  Inv X pins Z H' {s with heap:=h',gens:=g',drawn:=d',toks:=t'}:=by
 obtain⟨m,⟨o,es,ep,ho,r⟩,_⟩:=id I.loc
 obtain⟨sl,hL⟩:=u.any ho I.free λz=>(hch _ z).2.1 rfl
 exact I.step (ch:=ch) hch (λb o hL hb hc e n=>u.keep b o e n (λz=>(List.mem_cons.mp (I.stkSub b z)).elim hL hb) hc) (λb o _ _ hc e n=>u.any e n hc) (λb o hc e n=>u.free b o e n hc) (λb o hc e=>u.there b o e hc) u.tups u.frzs u.tbls (λm' hm=>by
  obtain⟨o',es',ep',ho',r'⟩:=hm
  rw[ho]at ho';cases ho'
  exact⟨_,es',ep',hL,r'⟩) hok hg
theorem Inv.turned {t':Nat}{it:Addr}(I:Inv X pins Z H s)(k:∀b o,b≠it->s.heap.get? b=some o->h'.get? b=some o)(hn:H it=none)(hL:it≠X.env.locals)
  (h1:it∈X.ex\/X.s_0.heap.objs.size<=it) (h2:∀x c,X.env.cells.lookup x=some c->c≠it) (h3:∀p∈X.pn++pins,p.1≠it):Inv X pins Z H {s with heap:=h',toks:=t'}:=by
 have nit:∀b u,H b=some u->b≠it:=λb u e z=>by rw[z,hn]at e;cases e
 refine I.step (g':=s.gens) (d':=s.drawn) (ch:=[it]) (λb hb=>?_) (λb o _ _ hc e _=>k b o (λz=>hc (by simp[z])) e) (λb o _ _ hc e _=>⟨o.slots,k b o (λz=>hc (by simp[z])) e⟩) (λ_ _ _ _ n=>n)
  (λb o hc e=>⟨o,k b o (λz=>hc (by simp[z])) e⟩) (λ_ _ e=>e) (λ_ _ _ e=>e) (λb ps e=>⟨#[],by rw[e];simp⟩) (λm hm=>?_) (λb u e=>?_) I.bare
 ·have e:b=it:=by simpa using hb
  subst e
  exact⟨h1,hL,h2,h3⟩
 ·obtain⟨o,es,ep,ho,r⟩:=hm
  exact⟨o,es,ep,k _ o (Ne.symm hL) ho,r⟩
 ·refine(I.hok b u e).stay (λc v hc q=>k c v ?_ q) (λ_ q=>q) λ_ _ q=>q
  rcases hc with z|z
  ·rw[z];exact nit b u e
  ·exact nit c _ z
theorem Inv.tok (I:Inv X pins Z H s)(t:Nat):Inv X pins Z H {s with toks:=t}:=I.un (h':=s.heap) (t':=t) Un.refl I.hok
theorem Inv.kept {t':Nat}(I:Inv X pins Z H s)(k:∀b u,s.heap.get? b=some u->h'.get? b=some u):Inv X pins Z H {s with heap:=h',toks:=t'}:=I.un (Un.kept k) (I.hok.kept k)
theorem Inv.laid {a:Addr}{o:HO}{t':Nat}(I:Inv X pins Z H s)(k:∀b u,s.heap.get? b=some u->h'.get? b=some u)(hp:s.heap.objs.size<=a)(new:ObjOk X.prog X.w (upd H a o) h' a o):
  Inv X pins Z (upd H a o) {s with heap:=h',toks:=t'}:=I.un (Un.laid k hp (I.hok.fresh hp)) (I.hok.laid k hp new)
theorem Inv.write {x e:Addr}{o:HO}{t':Nat}(I:Inv X pins Z H s)(mu:Mut (H x))(he:e=x\/H e=some (.own x))(k:∀b u,b≠e->s.heap.get? b=some u->h'.get? b=some u)(heo:∃u,h'.get? e=some u)
  (new:ObjOk X.prog X.w (upd H x o) h' x o):Inv X pins Z (upd H x o) {s with heap:=h',toks:=t'}:=I.un (Un.write mu he k heo) (I.hok.write mu he k heo new)
theorem Inv.weak {Z':List (Option V)}(I:Inv X pins Z H s)(hl:Z'.length=Z.length)(w:∀(i:Nat) v,Z'[i]?=some (some v)->Z[i]?=some (some v)):Inv X pins Z' H s:=
 ⟨I.ok,I.os,I.bare,I.base,let⟨m,hn,hl'⟩:=I.loc;⟨m,hn,λi x v e1 e2 e3=>hl' i x v e1 (w i v e2) e3⟩,I.cell,I.free,I.freeC,I.pin,I.hok,hl.trans I.len⟩
theorem Inv.pins_of {pins':List (Addr×Obj)}(I:Inv X pins Z H s)(h:∀p∈pins',s.heap.get? p.1=some p.2/\H p.1=none/\p.1≠X.env.locals/\p.1∉X.fs/\∀v,p.2.data≠ .cell v):Inv X pins' Z H s:=
 ⟨I.ok,I.os,I.bare,I.base,I.loc,I.cell,I.free,I.freeC,λp hp=>(List.mem_append.mp hp).elim (λz=>I.pin p (List.mem_append_left _ z)) (h p),I.hok,I.len⟩
theorem nodup_ix {N:List Str}(hN:N.Nodup){i j:Nat}{x:Str}(a:N[i]?=some x)(b:N[j]?=some x):i=j:=by
 obtain⟨h1,e1⟩:=List.getElem?_eq_some_iff.mp a
 obtain⟨h2,e2⟩:=List.getElem?_eq_some_iff.mp b
 exact(List.getElem_inj hN).mp (e1.trans e2.symm)
theorem store_ok2 {M:Model}{A:Around}{E:Value->Shared->Prop}{i:Nat}{x:Str}{v:V}{u:Value}{Q:Unit->Shared->Prop}(I:Inv X pins Z H s)(hN:X.N.Nodup)(hi:X.N[i]?=some x)(hx:Loc X.env.scope x)(r:RelV v u)
  (h:∀s',Inv X pins (Z.set i (some v)) H s'->(∃a,Heap.SameBut a s.heap s'.heap/\(a=X.env.locals\/X.env.cells.lookup x=some a))->Q () s') (hf:X.fn x=true\/X.env.scope.names.lookup x=some .local:=by first|exact .inl rfl|exact .inr rfl|assumption):wpAny M A (storeName X.env x u) Q E s:=by
 obtain⟨m,hn,hl⟩:=id I.loc
 have hcls:(X.env.scope.kind==.class||(X.env.scope.kind==.module&&X.env.locals !=X.env.globals))=false:=by rw[I.ok.kind];rfl
 have hiZ:i<Z.length:=by rw[I.len];exact(List.getElem?_eq_some_iff.mp hi).1
 have cne:=I.cne
 have tracked:∀{a:Addr} {h':Heap},(∃o,s.heap.get? a=some o/\H a=none)->Heap.SameBut a s.heap h'->HOk X.prog X.w H h':=λ{a h'} ha hs b ob e=>by
  obtain⟨_,_,hfree⟩:=ha
  refine(I.hok b ob e).stay (λc w' hc q=>(hs.2 c ?_).trans q) (λ_ q=>q) λ_ _ q=>q
  rintro rfl
  rcases hc with rfl|hc
  ·rw[hfree]at e;cases e
  ·rw[hfree]at hc;cases hc
 rcases hx with hk|hk
 ·refine wpAny_storeName_local hk hn (λh' hn' hs=>?_) hcls
  obtain⟨oL,_,_,hoL,_⟩:=id hn
  refine h _ ⟨I.ok,I.os,I.bare,⟨λb o e n hb hx=>?_,λb o e n hb hx=>?_,I.base.free,λb o e hx=>?_,I.base.tups,I.base.frzs,I.base.tbls⟩,⟨_,hn',λj y v' e1 e2 e3=>?_⟩,λy c e=>?_,I.free,I.freeC,λp hp=>?_,tracked ⟨oL,hoL,I.free⟩ hs,by simpa using I.len⟩ ⟨_,hs,.inl rfl⟩
  ·exact(hs.2 b (Nat.ne_of_lt (Nat.lt_of_lt_of_le (Heap.lt_size e) I.ok.above))).trans (I.base.keep b o e n hb hx)
  ·obtain⟨sl,e1⟩:=I.base.slot b o e n hb hx
   exact⟨sl,(hs.2 b (Nat.ne_of_lt (Nat.lt_of_lt_of_le (Heap.lt_size e) I.ok.above))).trans e1⟩
  ·obtain⟨o',e1⟩:=I.base.there b o e hx
   exact⟨o',(hs.2 b (Nat.ne_of_lt (Nat.lt_of_lt_of_le (Heap.lt_size e) I.ok.above))).trans e1⟩
  ·by_cases hj:j=i
   ·subst hj
    rw[hi]at e1;cases e1
    rw[List.getElem?_set_self hiZ]at e2
    cases e2
    exact⟨u,r,.inl ⟨hk,by simp⟩⟩
   ·rw[List.getElem?_set_ne (Ne.symm hj)]at e2
    obtain⟨u',r',q⟩:=hl j y v' e1 e2 e3
    refine⟨u',r',?_⟩
    rcases q with ⟨k,e⟩|⟨k,c,e,z⟩
    ·refine .inl ⟨k,?_⟩
     have:y≠x:=λe=>hj (nodup_ix hN e1 (e▸hi))
     simp[this,e]
    ·exact .inr ⟨k,c,e,z.sameBut hs (cne y c e)⟩
  ·obtain⟨w',z⟩:=I.cell y c e
   exact⟨w',z.sameBut hs (cne y c e)⟩
  ·obtain⟨e,n,ne,nf,d⟩:=I.pin p hp
   exact⟨(hs.2 p.1 ne).trans e,n,ne,nf,d⟩
 ·have hfn:X.fn x=true:=by
   rcases hf with z|z
   ·exact z
   ·rw[z]at hk;cases hk
  obtain⟨c,hc⟩:=I.ok.has x (.inl hk)
  obtain⟨w',z⟩:=I.cell x c hc
  refine wpAny_storeName_cell I.ok.kind hk hc z (λh' hc' hs=>?_)
  obtain⟨oc,hoc,hocd⟩:=id z
  refine h {s with heap:=h'} ⟨I.ok,I.os,I.bare,⟨λb o e n hb hx=>?_,λb o e n hb hx=>?_,I.base.free,λb o e hx=>?_,I.base.tups,I.base.frzs,I.base.tbls⟩,⟨m,hn.sameBut hs (Ne.symm (cne x c hc)),λj y v' e1 e2 e3=>?_⟩,λy c' e=>?_,I.free,I.freeC,λp hp=>?_,tracked ⟨oc,hoc,I.freeC x c hc⟩ hs,by simpa using I.len⟩ ⟨c,hs,.inr hc⟩
  ·exact(hs.2 b (Nat.ne_of_lt (Nat.lt_of_lt_of_le (Heap.lt_size e) (I.ok.cab x c hfn hc)))).trans (I.base.keep b o e n hb hx)
  ·obtain⟨sl,e1⟩:=I.base.slot b o e n hb hx
   exact⟨sl,(hs.2 b (Nat.ne_of_lt (Nat.lt_of_lt_of_le (Heap.lt_size e) (I.ok.cab x c hfn hc)))).trans e1⟩
  ·obtain⟨o',e1⟩:=I.base.there b o e hx
   exact⟨o',(hs.2 b (Nat.ne_of_lt (Nat.lt_of_lt_of_le (Heap.lt_size e) (I.ok.cab x c hfn hc)))).trans e1⟩
  ·by_cases hj:j=i
   ·subst hj
    rw[hi]at e1;cases e1
    rw[List.getElem?_set_self hiZ]at e2
    cases e2
    exact⟨u,r,.inr ⟨.inl hk,c,hc,hc'⟩⟩
   ·rw[List.getElem?_set_ne (Ne.symm hj)]at e2
    obtain⟨u',r',q⟩:=hl j y v' e1 e2 e3
    refine⟨u',r',?_⟩
    rcases q with q|⟨k,c',e,z'⟩
    ·exact .inl q
    ·refine .inr ⟨k,c',e,z'.sameBut hs ?_⟩
     rintro rfl
     exact hj (nodup_ix hN e1 (I.ok.inj _ _ _ e hc▸hi))
  ·by_cases hcc:c'=c
   ·subst hcc;exact⟨_,hc'⟩
   ·obtain⟨w2,z2⟩:=I.cell y c' e
    exact⟨w2,z2.sameBut hs hcc⟩
  ·obtain⟨e,n,ne,nf,d⟩:=I.pin p hp
   refine⟨(hs.2 p.1 ?_).trans e,n,ne,nf,d⟩
   intro q
   rw[q,hoc]at e
   have q':oc=p.2:=Option.some.inj e
   exact d w' (by rw[<-q'];exact hocd)
theorem store_ok {M:Model}{A:Around}{E:Value->Shared->Prop}{i:Nat}{x:Str}{v:V}{u:Value}{Q:Unit->Shared->Prop}(I:Inv X pins Z H s)(hN:X.N.Nodup)(hi:X.N[i]?=some x)(hx:Loc X.env.scope x)(r:RelV v u)
  (h:∀s',Inv X pins (Z.set i (some v)) H s'->Q () s') (hf:X.fn x=true\/X.env.scope.names.lookup x=some .local:=by first|exact .inl rfl|exact .inr rfl|assumption):wpAny M A (storeName X.env x u) Q E s:=
 store_ok2 I hN hi hx r (λs' I' _=>h s' I') hf
theorem Inv.call' {s':Shared}{ch:List Addr}(I:Inv X pins Z H s)(ho:s'.os=s.os)(u:Un (frs X.stack) ch H H' s.heap s'.heap)(hok:HOk X.prog X.w H' s'.heap)(hg:AllBare s'.gens)
  (hch:∀b∈ch,(b∈X.ex\/X.s_0.heap.objs.size<=b)/\b≠X.env.locals/\(∀x c,X.env.cells.lookup x=some c->c≠b)/\∀p∈X.pn++pins,p.1≠b):Inv X pins Z H' s':=by
 obtain⟨h',g',d',t',o'⟩:=s'
 have e:o'=s.os:=ho
 subst e
 exact I.call (g':=g') (t':=t') (d':=d') u hok hg hch
end
abbrev XK:=Value->Option Addr->Hp->Prop
abbrev St:=List (Option V)
abbrev VK:=V->Hp->Prop
abbrev TE:=St->Hp->VK->Prop
abbrev TT:=St->Hp->(Bool->Hp->Prop)->Prop
abbrev TA:=St->Hp->(List V->Hp->Prop)->Prop
structure Ends where
 nx:St->Hp->Prop
 rt:VK
 bk:St->Hp->Prop:=λ_ _=>False
 ct:St->Hp->Prop:=λ_ _=>False
abbrev TS:=Ends->St->Hp->Prop
def EP (X:Cx)(pins:List (Addr×Obj))(Z:St)(Q:VK)(u:Value)(s':Shared):Prop:=∃v H',Inv X pins Z H' s'/\RelV v u/\Q v H'
def TP (X:Cx)(pins:List (Addr×Obj))(Z:St)(Q:Bool->Hp->Prop)(b:Bool)(s':Shared):Prop:=∃H',Inv X pins Z H' s'/\Q b H'
def AP (X:Cx)(pins:List (Addr×Obj))(Z:St)(Q:List V->Hp->Prop)(us:List Value)(s':Shared):Prop:=∃vs H',Inv X pins Z H' s'/\Vals vs us/\Q vs H'
def SP (X:Cx)(pins:List (Addr×Obj))(D:Ends)(f:Flow)(s':Shared):Prop:=
 match f with
 |.next=>∃Z' H',Inv X pins Z' H' s'/\D.nx Z' H'
 |.brk=>∃Z' H',Inv X pins Z' H' s'/\D.bk Z' H'
 |.cont=>∃Z' H',Inv X pins Z' H' s'/\D.ct Z' H'
 |.ret u=>∃v Z' H',Inv X pins Z' H' s'/\RelV v u/\D.rt v H'
def PE (X:Cx)(e:Expr)(t:TE):Prop:=
 ∀(pins:List (Addr×Obj)) (s:Shared) (Z:St) (H:Hp) (Q:VK),Inv X pins Z H s->t Z H Q->wpAny (model X.prog X.w) X.A (eval e X.env) (EP X pins Z Q) X.xe s
def PT (X:Cx)(e:Expr)(t:TT):Prop:=
 ∀(pins:List (Addr×Obj)) (s:Shared) (Z:St) (H:Hp) (Q:Bool->Hp->Prop),Inv X pins Z H s->t Z H Q->wpAny (model X.prog X.w) X.A (isTrue e X.env (eval e X.env)) (TP X pins Z Q) X.xe s
def PW (X:Cx)(e:Expr)(t:TT):Prop:=
 ∀(whole:Sem Value) (pins:List (Addr×Obj)) (s:Shared) (Z:St) (H:Hp) (Q:Bool->Hp->Prop),Inv X pins Z H s->t Z H Q->wpAny (model X.prog X.w) X.A (isTrue e X.env whole) (TP X pins Z Q) X.xe s
def PA (X:Cx)(es:List Expr)(t:TA):Prop:=
 ∀(pos:Pos) (pins:List (Addr×Obj)) (s:Shared) (Z:St) (H:Hp) (Q:List V->Hp->Prop),Inv X pins Z H s->t Z H Q->wpAny (model X.prog X.w) X.A (spliced (backTo pos (starEach es X.env))) (AP X pins Z Q) X.xe s
def PS (X:Cx)(st:Stmt)(t:TS):Prop:=
 ∀(pins:List (Addr×Obj)) (s:Shared) (Z:St) (H:Hp) (D:Ends),Inv X pins Z H s->t D Z H->wpAny (model X.prog X.w) X.A (exec st X.env) (SP X pins D) X.xe s
def PSs (X:Cx)(st:List Stmt)(t:TS):Prop:=
 ∀(pins:List (Addr×Obj)) (s:Shared) (Z:St) (H:Hp) (D:Ends),Inv X pins Z H s->t D Z H->wpAny (model X.prog X.w) X.A (execs st X.env) (SP X pins D) X.xe s
theorem thn {α:Type}{t:Sem α}{Q Q':α->Shared->Prop}{M:Model}{A:Around}{E:Value->Shared->Prop}{s:Shared}(h:wpAny M A t Q E s)(hQ:∀a s,Q a s->Q' a s):wpAny M A t Q' E s:=wpAny_mono h hQ λ_ _ x=>x
end L2
namespace L2
open PySem PySem.Spec PyProof.Rows
section
variable {X:Cx}
def tVar (i:Nat):TE:=λZ H Q=>∃v,Z[i]?=some (some v)/\Q v H
def tC (v:V):TE:=λ_ H Q=>Q v H
theorem pe_var {i:Nat}{x:Str}{pos:Pos}(hN:X.N[i]?=some x)(hv:Vis X.env.scope x)(hd:(x==("__debug__":Str))=false:=by decide)(hcd:(x==("__classdict__":Str))=false:=by decide):PE X (.Name x pos) (tVar i):=by
 intro pins s Z H Q I h
 obtain⟨v,e,h⟩:=h
 obtain⟨m,hn,hl⟩:=I.loc
 obtain⟨u,r,l⟩:=hl i x v hN e hv
 have fin:EP X pins Z Q u s:=⟨v,H,I,r,h⟩
 rcases l with ⟨hk,hm⟩|⟨hk,c,hc,hcell⟩
 ·exact wpAny_Name (wpAny_loadName_local I.ok.kind hk hn hm fin) hd
 ·rcases hk with hk|hk
  ·exact wpAny_Name (wpAny_loadName_cell I.ok.kind hk hc hcell fin) hd
  ·exact wpAny_Name (wpAny_loadName_free I.ok.kind hk hc hcell fin hcd) hd
theorem pe_int {i j pos}:PE X (.Constant (.int i) j pos) (tC (.int i)):=λ_ _ _ H _ I h=>wpAny_Constant_int ⟨.int i,H,I.tok _,⟨_,rfl⟩,h⟩
theorem pe_bl {b j pos}:PE X (.Constant (.bool b) j pos) (tC (.bl b)):=λ_ _ _ H _ I h=>Constant_bool ⟨.bl b,H,I,rfl,h⟩
def Gl (X:Cx)(x:Str):Prop:=X.env.kindOf x=some .globalImplicit
theorem ld_glob {E:Value->Shared->Prop}{pins:List (Addr×Obj)}{s:Shared}{Z:St}{H:Hp}{x:Str}{u:Value}{pos:Pos}{Q:Value->Shared->Prop}(I:Inv X pins Z H s)(hg:Gl X x)(hm:X.mg x=some u)(h:Q u s)
  (hd:(x==("__debug__":Str))=false:=by decide):wpAny (model X.prog X.w) X.A (eval (.Name x pos) X.env) Q E s:=
 Calls.Name_function_global I.ok.kind hg (Calls.loadGlobal_global (by rw[I.ok.glob];exact I.mod.glob.keeps I.bk) hm h) hd
theorem ld_blt {E:Value->Shared->Prop}{pins:List (Addr×Obj)}{s:Shared}{Z:St}{H:Hp}{x:Str}{u:Value}{pos:Pos}{Q:Value->Shared->Prop}(I:Inv X pins Z H s)(hg:Gl X x)(hm:X.mg x=none)(hv:bootBuiltins x=some u)(h:Q u s)
  (hn:x≠"__name__":=by decide) (hd:(x==("__debug__":Str))=false:=by decide):wpAny (model X.prog X.w) X.A (eval (.Name x pos) X.env) Q E s:=by
 obtain⟨mb,h1,h2⟩:=I.mod.blt
 exact Calls.Name_function_global I.ok.kind hg (Calls.loadGlobal_builtin (by rw[I.ok.glob];exact I.mod.glob.keeps I.bk) hm (by rw[I.ok.blt];exact h1.keeps I.bk) ((h2 x hn).trans hv) h) hd
theorem pe_glob {x:Str}{v:V}{u:Value}{pos:Pos}(hg:Gl X x)(hm:X.mg x=some u)(r:RelV v u)(hd:(x==("__debug__":Str))=false:=by decide):PE X (.Name x pos) (tC v):=
 λ_ _ _ H _ I h=>ld_glob I hg hm ⟨v,H,I,r,h⟩ hd
variable {a b:Expr}{ta tb:TE}{pos:Pos}
def PC (X:Cx)(op:CmpOp)(a b:Expr)(t:TE):Prop:=
 ∀(pins:List (Addr×Obj)) (s:Shared) (Z:St) (H:Hp) (Q:VK),Inv X pins Z H s->t Z H Q->
  wpAny (model X.prog X.w) X.A (eval a X.env) (λv s₁=>wpAny (model X.prog X.w) X.A (eval b X.env) (λu s₂=>wpAny (model X.prog X.w) X.A (compareOp op v u) (EP X pins Z Q) X.xe s₂) X.xe s₁) X.xe s
def tB (t:TE):TT:=λZ H Q=>t Z H λx H1=>∃c,x=.bl c/\Q c H1
theorem pe_cmp {op:CmpOp}{t:TE}(h:PC X op a b t)(h1:behindInMarks op b=false:=by first|exact nobehind _ (by decide) (by decide)|rfl):PE X (.Compare a [op] [b] pos) t:=λpins s Z H Q I hw=>wpAny_Compare1 (h pins s Z H Q I hw) h1
theorem pt_cmp {op:CmpOp}{t:TE}(h:PC X op a b t)(h1:behindInMarks op b=false:=by first|exact nobehind _ (by decide) (by decide)|rfl):PT X (.Compare a [op] [b] pos) (tB t):=by
 intro pins s Z H Q I hw
 refine wpAny_isTrue_Compare1 (thn (h pins s Z H _ I hw) λv s1 h1=>thn h1 λu s2 h2=>thn h2 λc s3 ⟨x,H1,I1,r1,q1⟩=>?_) h1
 obtain⟨d,rfl,q⟩:=q1
 cases r1
 exact wpAny_truthy_bool ⟨H1,I1,q⟩
theorem pt_val {e:Expr}{t:TE}(h:PE X e t)(he:∀whole,isTrue e X.env whole=(do let v<-whole;standAt e.pos;holding [v] (truthy v)):=by intro _;rfl):PT X e (tB t):=by
 intro pins s Z H Q I hw
 refine isTrue_plain (thn (h pins s Z H _ I hw) λv s1 ⟨x,H1,I1,r1,q1⟩=>?_) (he _)
 obtain⟨d,rfl,q⟩:=q1
 cases r1
 exact wpAny_truthy_bool ⟨H1,I1,q⟩
variable {tA tB':TT}{rest:List Expr}
def tAnd (t u:TT):TT:=λZ H Q=>t Z H λc H1=>if c=true then u Z H1 Q else Q false H1
def tOr (t u:TT):TT:=λZ H Q=>t Z H λc H1=>if c=true then Q true H1 else u Z H1 Q
def tNot (t:TT):TT:=λZ H Q=>t Z H λc H1=>Q (!c) H1
theorem pw_and1 (ha:PT X a tA):PW X (.BoolOp .And [a] pos) tA:=by
 intro wh pins s Z H Q I h
 refine isTrue_and (thn (ha pins s Z H Q I h) λc s1 e=>?_)
 cases c with
 |true=>exact isTrue_and_nil e
 |false=>exact e
theorem pw_or1 (ha:PT X a tA):PW X (.BoolOp .Or [a] pos) tA:=by
 intro wh pins s Z H Q I h
 refine isTrue_or (thn (ha pins s Z H Q I h) λc s1 e=>?_)
 cases c with
 |false=>exact isTrue_or_nil e
 |true=>exact e
theorem pw_and (ha:PT X a tA)(hb:PW X (.BoolOp .And (b::rest) pos) tB'):PW X (.BoolOp .And (a::b::rest) pos) (tAnd tA tB'):=by
 intro wh pins s Z H Q I h
 refine isTrue_and (thn (ha pins s Z H _ I h) λc s1 ⟨H1,I1,q1⟩=>?_)
 cases c with
 |true=>exact hb wh pins s1 Z H1 Q I1 q1
 |false=>exact⟨H1,I1,q1⟩
theorem pw_or (ha:PT X a tA)(hb:PW X (.BoolOp .Or (b::rest) pos) tB'):PW X (.BoolOp .Or (a::b::rest) pos) (tOr tA tB'):=by
 intro wh pins s Z H Q I h
 refine isTrue_or (thn (ha pins s Z H _ I h) λc s1 ⟨H1,I1,q1⟩=>?_)
 cases c with
 |true=>exact⟨H1,I1,q1⟩
 |false=>exact hb wh pins s1 Z H1 Q I1 q1
theorem pt_not (ha:PT X a tA):PT X (.UnaryOp .Not a pos) (tNot tA):=by
 intro pins s Z H Q I h
 exact isTrue_not (ha pins s Z H (λc H1=>Q (!c) H1) I h)
def tAndV (ta tb:TE):TE:=λZ H Q=>ta Z H λx H1=>∃c,x=.bl c/\if c=true then tb Z H1 Q else Q (.bl false) H1
def tOrV (ta tb:TE):TE:=λZ H Q=>ta Z H λx H1=>∃c,x=.bl c/\if c=true then Q (.bl true) H1 else tb Z H1 Q
def tNotV (ta:TE):TE:=λZ H Q=>ta Z H λx H1=>∃c,x=.bl c/\Q (.bl (!c)) H1
theorem pe_one {op}{t:TE}(h:PE X a t):PE X (.BoolOp op [a] pos) t:=λpins s Z H Q I hw=>BoolOp_one (h pins s Z H Q I hw)
theorem pe_and (ha:PE X a ta)(hb:PE X (.BoolOp .And (b::rest) pos) tb):PE X (.BoolOp .And (a::b::rest) pos) (tAndV ta tb):=by
 intro pins s Z H Q I h
 refine BoolOp_and (thn (ha pins s Z H _ I h) λv s1 ⟨x,H1,I1,r1,q1⟩=>?_)
 obtain⟨c,rfl,q1⟩:=q1
 cases r1
 refine wpAny_truthy_bool ?_
 cases c with
 |true=>exact hb pins s1 Z H1 Q I1 q1
 |false=>exact⟨.bl false,H1,I1,rfl,q1⟩
theorem pe_or (ha:PE X a ta)(hb:PE X (.BoolOp .Or (b::rest) pos) tb):PE X (.BoolOp .Or (a::b::rest) pos) (tOrV ta tb):=by
 intro pins s Z H Q I h
 refine BoolOp_or (thn (ha pins s Z H _ I h) λv s1 ⟨x,H1,I1,r1,q1⟩=>?_)
 obtain⟨c,rfl,q1⟩:=q1
 cases r1
 refine wpAny_truthy_bool ?_
 cases c with
 |false=>exact hb pins s1 Z H1 Q I1 q1
 |true=>exact⟨.bl true,H1,I1,rfl,q1⟩
theorem pe_not (ha:PE X a ta):PE X (.UnaryOp .Not a pos) (tNotV ta):=by
 intro pins s Z H Q I h
 refine UnaryOp_ (thn (ha pins s Z H _ I h) λv s1 ⟨x,H1,I1,r1,q1⟩=>?_)
 obtain⟨c,rfl,q1⟩:=q1
 cases r1
 exact not_of (wpAny_truthy_bool ⟨.bl (!c),H1,I1,rfl,q1⟩)
def tIf (t:TT)(ta tb:TE):TE:=λZ H Q=>t Z H λc H1=>if c=true then ta Z H1 Q else tb Z H1 Q
theorem pe_ifExp {c:Expr}(hc:PT X c tA)(ha:PE X a ta)(hb:PE X b tb):PE X (.IfExp c a b pos) (tIf tA ta tb):=by
 intro pins s Z H Q I h
 refine wpAny_IfExp (thn (hc pins s Z H _ I h) λd s1 ⟨H1,I1,q1⟩=>?_)
 cases d with
 |true=>exact ha pins s1 Z H1 Q I1 q1
 |false=>exact hb pins s1 Z H1 Q I1 q1
end
end L2
namespace L2
open PySem PySem.Spec PyProof.Rows
def SqL (K:Fg)(H:Hp)(a:Addr)(xs:List V):Prop:=
 Rd H a (.lst xs)\/
  ∃(o:Obj) (its:Array Value) (n:Nat),K.lookup a=some o/\o.cls=.type "list"/\o.dict=none/\o.data=.seq its n/\its.size<=sizeLine/\Vals xs its.toList
def SqT (K:Fg)(H:Hp)(a:Addr)(xs:List V):Prop:=
 Rd H a (.tup xs)\/
  ∃(o:Obj) (its:Array Value) (n:Nat),K.lookup a=some o/\o.cls=.type "tuple"/\o.data=.seq its n/\its.size<=sizeLine/\Vals xs its.toList
def absV:Value->Option V
 |.none=>some .non
 |.bool b=>some (.bl b)
 |.int i _=>some (.int i)
 |.str x _=>some (.str x)
 |.bytes b _=>some (.byt b)
 |.float b _=>some (.flt b)
 |.ref a=>some (.ref a)
 |.type n=>some (.ty n)
 |_=>none
theorem RelV.abs {x:V}{u:Value}(r:RelV x u):absV u=some x:=by
 cases x with
 |non=>cases r;rfl
 |bl _=>cases r;rfl
 |int _=>obtain⟨t,rfl⟩:=r;rfl
 |str _=>obtain⟨t,rfl⟩:=r;rfl
 |byt _=>obtain⟨t,rfl⟩:=r;rfl
 |flt _=>obtain⟨t,rfl⟩:=r;rfl
 |ref _=>cases r;rfl
 |ty _=>cases r;rfl
theorem RelV.inj {x y:V}{u:Value}(r:RelV x u)(q:RelV y u):x=y:=Option.some.inj (r.abs.symm.trans q.abs)
theorem Vals.inj:∀{xs ys:List V} {us:List Value},Vals xs us->Vals ys us->xs=ys
 |_,_,_,.nil,.nil=>rfl
 |_,_,_,.cons r t,.cons r' t'=>by rw[r.inj r',Vals.inj t t']
section
variable {X:Cx}{pins:List (Addr×Obj)}{Z:St}{H:Hp}{s:Shared}{a:Addr}{xs ys:List V}
theorem SqL.of {K:Fg}(h:H a=some (.lst xs)):SqL K H a xs:=.inl (.inl h)
theorem SqT.of {K:Fg}(h:H a=some (.tup xs)):SqT K H a xs:=.inl (.inl h)
theorem Inv.list (I:Inv X pins Z H s)(h:SqL X.K H a xs):∃its:List Value,Vals xs its/\PlainL s.heap a its.toArray/\xs.length<=sizeLine:=by
 rcases h with h|⟨o,its,n,hk,hc,hd,hs,hz,r⟩
 ·obtain⟨z,its,n,r,e⟩:=h.ok I.hok
  exact⟨its,r,⟨_,n,e,rfl,rfl,rfl⟩,z⟩
 ·refine⟨its.toList,r,⟨o,n,I.kIn a o hk,hc,hd,by simpa using hs⟩,?_⟩
  have e:=r.length
  simp only[Array.length_toList]at e
  omega
theorem Inv.tuple (I:Inv X pins Z H s)(h:SqT X.K H a xs):∃its:List Value,Vals xs its/\IsTup s.heap a its.toArray/\xs.length<=sizeLine:=by
 rcases h with h|⟨o,its,n,hk,hc,hs,hz,r⟩
 ·obtain⟨z,its,r,p⟩:=h.ok I.hok
  exact⟨its,r,p,z⟩
 ·refine⟨its.toList,r,⟨o,I.kIn a o hk,hc,n,by simpa using hs⟩,?_⟩
  have e:=r.length
  simp only[Array.length_toList]at e
  omega
theorem Inv.list_inj (I:Inv X pins Z H s)(h:SqL X.K H a xs)(h':SqL X.K H a ys):xs=ys:=by
 obtain⟨its,r,⟨o,n,e,_,_,d⟩,_⟩:=I.list h
 obtain⟨its',r',⟨o',n',e',_,_,d'⟩,_⟩:=I.list h'
 rw[e]at e';cases e'
 rw[d]at d'
 injection d' with d1 _
 have:its=its':=by simpa using congrArg Array.toList d1
 subst this
 exact r.inj r'
theorem Inv.tuple_inj (I:Inv X pins Z H s)(h:SqT X.K H a xs)(h':SqT X.K H a ys):xs=ys:=by
 obtain⟨its,r,⟨o,e,_,n,d⟩,_⟩:=I.tuple h
 obtain⟨its',r',⟨o',e',_,n',d'⟩,_⟩:=I.tuple h'
 rw[e]at e';cases e'
 rw[d]at d'
 injection d' with d1 _
 have:its=its':=by simpa using congrArg Array.toList d1
 subst this
 exact r.inj r'
end
abbrev Cx.wish (X:Cx)(E:Value->Shared->Prop):Cx:={X with xe:=E}
abbrev Cx.nox (X:Cx):Cx:=X.wish λ_ _=>False
theorem Cx.Ok.wish {X:Cx}(ok:X.Ok)(E:Value->Shared->Prop):(X.wish E).Ok:=
 ⟨ok.mod,ok.kind,ok.glob,ok.blt,ok.above,ok.inj,ok.has,ok.cab,ok.hd,ok.frames,ok.stk,ok.exf,ok.bs,ok.bsz,ok.noex,ok.exfs,ok.funs,ok.frf⟩
theorem Cx.Ok.unwish {X:Cx}{E:Value->Shared->Prop}(ok:(X.wish E).Ok):X.Ok:=
 ⟨ok.mod,ok.kind,ok.glob,ok.blt,ok.above,ok.inj,ok.has,ok.cab,ok.hd,ok.frames,ok.stk,ok.exf,ok.bs,ok.bsz,ok.noex,ok.exfs,ok.funs,ok.frf⟩
section
variable {X:Cx}{pins:List (Addr×Obj)}{Z:St}{H:Hp}{s:Shared}{E:Value->Shared->Prop}
theorem Inv.wish (I:Inv X pins Z H s)(E:Value->Shared->Prop):Inv (X.wish E) pins Z H s:=⟨I.ok.wish E,I.os,I.bare,I.base,I.loc,I.cell,I.free,I.freeC,I.pin,I.hok,I.len⟩
theorem Inv.unwish (I:Inv (X.wish E) pins Z H s):Inv X pins Z H s:=⟨I.ok.unwish,I.os,I.bare,I.base,I.loc,I.cell,I.free,I.freeC,I.pin,I.hok,I.len⟩
theorem SP.unwish {D:Ends}{f:Flow}{s':Shared}(h:SP (X.wish E) pins D f s'):SP X pins D f s':=by
 cases f with
 |next=>obtain⟨Z',H',I,q⟩:=h;exact⟨Z',H',I.unwish,q⟩
 |brk=>obtain⟨Z',H',I,q⟩:=h;exact⟨Z',H',I.unwish,q⟩
 |cont=>obtain⟨Z',H',I,q⟩:=h;exact⟨Z',H',I.unwish,q⟩
 |ret u=>obtain⟨v,Z',H',I,r,q⟩:=h;exact⟨v,Z',H',I.unwish,r,q⟩
theorem PSs.nox {st:List Stmt}{t:TS}(h:PSs X.nox st t):PSs X st t:=λpins s Z H D I hw=>
 wpAny_mono (h pins s Z H D (I.wish _) hw) (λ_ _ q=>q.unwish) λ_ _ z=>False.elim z
end
section
variable {X:Cx}{st:Stmt}{rest:List Stmt}{t u:TS}{e:Expr}{te:TE}{pos:Pos}
def tNext:TS:=λD Z H=>D.nx Z H
def tSeq (t u:TS):TS:=λD Z H=>t {D with nx:=u D} Z H
theorem pss_nil:PSs X [] tNext:=λ_ _ Z H _ I h=>wpAny_execs_nil ⟨Z,H,I,h⟩
theorem pss_cons (h1:PS X st t)(h2:PSs X rest u):PSs X (st::rest) (tSeq t u):=by
 intro pins s Z H D I h
 refine wpAny_execs_cons (thn (h1 pins s Z H {D with nx:=u D} I h) λf s1 q=>?_)
 cases f with
 |next=>
  obtain⟨Z',H',I',q⟩:=q
  exact h2 pins s1 Z' H' D I' q
 |ret v=>exact q
 |brk=>exact q
 |cont=>exact q
theorem pss_one (h1:PS X st t):PSs X [st] t:=by
 intro pins s Z H D I h
 refine wpAny_execs_cons (thn (h1 pins s Z H D I h) λf s1 q=>?_)
 cases f with
 |next=>exact wpAny_execs_nil q
 |ret v=>exact q
 |brk=>exact q
 |cont=>exact q
theorem Inv.quiet {pins:List (Addr×Obj)}{Z:St}{H:Hp}{s:Shared}(I:Inv X pins Z H s):interactive X.env=false:=by simp[interactive,I.ok.kind]
def tDrop (te:TE):TS:=λD Z H=>te Z H λ_ H1=>D.nx Z H1
theorem ps_expr (he:PE X e te)(hs:swapsWith e none pos.line X.env=pure false:=by rfl):PS X (.Expr e pos) (tDrop te):=by
 intro pins s Z H D I h
 exact wpAny_Expr_any (thn (he pins s Z H _ I h) λv s1 ⟨x,H1,I1,r1,q1⟩=>⟨Z,H1,I1,q1⟩) I.quiet hs
def tRet (te:TE):TS:=λD Z H=>te Z H D.rt
theorem ps_ret (he:PE X e te):PS X (.Return (some e) pos) (tRet te):=by
 intro pins s Z H D I h
 exact wpAny_Return_some (thn (he pins s Z H _ I h) λv s1 ⟨x,H1,I1,r1,q1⟩=>⟨x,Z,H1,I1,r1,q1⟩)
def tIfS (c:TT)(t u:TS):TS:=λD Z H=>c Z H λb H1=>if b=true then t D Z H1 else u D Z H1
theorem ps_if {c:Expr}{a b:List Stmt}{tc:TT}(hc:PT X c tc)(ha:PSs X a t)(hb:PSs X b u):PS X (.If c a b pos) (tIfS tc t u):=by
 intro pins s Z H D I h
 refine wpAny_If (thn (hc pins s Z H _ I h) λd s1 ⟨H1,I1,q1⟩=>?_)
 cases d with
 |true=>exact ha pins s1 Z H1 D I1 q1
 |false=>exact hb pins s1 Z H1 D I1 q1
end
abbrev TG:=V->St->Hp->(St->Hp->Prop)->Prop
abbrev TGs:=List V->St->Hp->(St->Hp->Prop)->Prop
def PG (X:Cx)(target:Expr)(t:TG):Prop:=
 ∀(pins:List (Addr×Obj)) (s:Shared) (Z:St) (H:Hp) (v:V) (u:Value) (Q:St->Hp->Prop),Inv X pins Z H s->RelV v u->t v Z H Q->
  wpAny (model X.prog X.w) X.A (assign target X.env u) (λ_ s'=>∃Z' H',Inv X pins Z' H' s'/\Q Z' H') X.xe s
def PGs (X:Cx)(ts:List Expr)(t:TGs):Prop:=
 ∀(pins:List (Addr×Obj)) (s:Shared) (Z:St) (H:Hp) (vs:List V) (us:List Value) (Q:St->Hp->Prop),Inv X pins Z H s->Vals vs us->t vs Z H Q->
  wpAny (model X.prog X.w) X.A (assignInOrder ((assignEach ts X.env).map (·.2)) us) (λ_ s'=>∃Z' H',Inv X pins Z' H' s'/\Q Z' H') X.xe s
abbrev TIp:=V->V->Hp->VK->Prop
def PIp (X:Cx)(op:Operator)(t:TIp):Prop:=
 ∀(pins:List (Addr×Obj)) (s:Shared) (Z:St) (H:Hp) (x y:V) (v u:Value) (Q:VK),Inv X pins Z H s->RelV x v->RelV y u->t x y H Q->
  wpAny (model X.prog X.w) X.A (inplaceOp op v u) (EP X pins Z Q) X.xe s
section
variable {X:Cx}{pos:Pos}
def gName (i:Nat):TG:=λv Z H Q=>Q (Z.set i (some v)) H
theorem pg_name {i:Nat}{x:Str}(hN:X.N.Nodup)(hi:X.N[i]?=some x)(hx:Loc X.env.scope x)(hf:X.fn x=true\/X.env.scope.names.lookup x=some .local:=by first|exact .inl rfl|exact .inr rfl|assumption):PG X (.Name x pos) (gName i):=by
 intro pins s Z H v u Q I r h
 exact wpAny_assign_Name (store_ok I hN hi hx r (λs' I'=>⟨_,H,I',h⟩) hf)
def gNil:TGs:=λvs Z H Q=>vs=[]/\Q Z H
def gCons (t:TG)(u:TGs):TGs:=λvs Z H Q=>∃v r,vs=v::r/\t v Z H λZ' H'=>u r Z' H' Q
theorem pgs_nil:PGs X [] gNil:=by
 intro pins s Z H vs us Q I r h
 obtain⟨e,h⟩:=h
 subst e
 cases r
 exact assignInOrder_nil ⟨Z,H,I,h⟩
theorem pgs_cons {e:Expr}{es:List Expr}{t:TG}{u:TGs}(h1:PG X e t)(h2:PGs X es u)
  (hs:(assignEach (e::es) X.env).map (·.2)=assign e X.env::(assignEach es X.env).map (·.2):=by rfl):PGs X (e::es) (gCons t u):=by
 intro pins s Z H vs us Q I r h
 obtain⟨v,vr,e1,h⟩:=h
 subst e1
 cases r with
 |cons r rr=>
  rw[hs]
  refine assignInOrder_cons (thn (h1 pins s Z H _ _ _ I r h) λ_ s1 ⟨Z1,H1,I1,q1⟩=>?_)
  exact h2 pins s1 Z1 H1 _ _ Q I1 rr q1
def gTup (K:Fg)(n:Nat)(t:TGs):TG:=λv Z H Q=>∃a xs,v=.ref a/\SqT K H a xs/\xs.length=n/\t xs Z H Q
theorem pg_tup {es:List Expr}{k:Nat}{t:TGs}{n:Nat}(hc:X.calm=true)(h:PGs X es t)
  (hn:(assignEach es X.env).length=n:=by rfl) (hst:(assignEach es X.env).findIdx? (·.1)=none:=by rfl):PG X (.Tuple es k pos) (gTup X.K n t):=by
 intro pins s Z H v u Q I r hw
 obtain⟨a,xs,e1,hq,hl,hw⟩:=hw
 subst e1
 cases r
 obtain⟨its,rv,ht,hz⟩:=I.tuple hq
 refine assign_Tuple_tuple (I.ok.hd hc) ht (by simp[hn,<-hl,rv.length]) hst λh' hx=>?_
 have I1:Inv X pins Z H {s with heap:=h'}:=I.kept (t':=s.toks) λb o e=>hx b o (Nat.ne_of_lt (Heap.lt_size e)) e
 exact h pins _ Z H xs _ Q I1 (by simpa using rv) hw
def tAsg (te:TE)(g:TG):TS:=λD Z H=>te Z H λx H1=>g x Z H1 D.nx
theorem ps_set {i:Nat}{x:Str}{e:Expr}{te:TE}{pos':Pos}(hN:X.N.Nodup)(hi:X.N[i]?=some x)(hx:Loc X.env.scope x)(he:PE X e te)(hs:swapsWith e (some (.Name x pos')) pos.line X.env=pure false:=by rfl)(hf:X.fn x=true\/X.env.scope.names.lookup x=some .local:=by first|exact .inl rfl|exact .inr rfl|assumption):
  PS X (.Assign [.Name x pos'] e pos) (tAsg te (gName i)):=by
 intro pins s Z H D I h
 refine wpAny_Assign_Name (thn (he pins s Z H _ I h) λv s1 ⟨y,H1,I1,r1,q1⟩=>?_) hs
 exact store_ok I1 hN hi hx r1 (λs2 I2=>⟨_,H1,I2,q1⟩) hf
def tAug (i:Nat)(te:TE)(ti:TIp):TS:=λD Z H=>∃x,Z[i]?=some (some x)/\te Z H λy H1=>ti x y H1 λz H2=>D.nx (Z.set i (some z)) H2
theorem ps_aug {i:Nat}{x:Str}{e:Expr}{te:TE}{op:Operator}{ti:TIp}{pos':Pos}(hN:X.N.Nodup)(hi:X.N[i]?=some x)(hx:Loc X.env.scope x)(he:PE X e te)(ho:PIp X op ti)(hf:X.fn x=true\/X.env.scope.names.lookup x=some .local:=by first|exact .inl rfl|exact .inr rfl|assumption):
  PS X (.AugAssign (.Name x pos') op e pos) (tAug i te ti):=by
 intro pins s Z H D I h
 obtain⟨v,e1,h⟩:=h
 obtain⟨m,hn,hl⟩:=I.loc
 have vis:Vis X.env.scope x:=by rcases hx with k|k;exact .inl k;exact .inr (.inl k)
 obtain⟨u,r,l⟩:=hl i x v hi e1 vis
 refine wpAny_AugAssign_Name ?_
 have go:wpAny (model X.prog X.w) X.A (eval e X.env) (λw s₂=>wpAny (model X.prog X.w) X.A (inplaceOp op u w) (λr s₃=>wpAny (model X.prog X.w) X.A (storeName X.env x r) (λ_=>SP X pins D .next) X.xe s₃) X.xe s₂) X.xe s:=by
  refine thn (he pins s Z H _ I h) λw s1 ⟨y,H1,I1,r1,q1⟩=>?_
  refine thn (ho pins s1 Z H1 v y u w _ I1 r r1 q1) λz s2 ⟨zv,H2,I2,r2,q2⟩=>?_
  exact store_ok I2 hN hi hx r2 (λs3 I3=>⟨_,H2,I3,q2⟩) hf
 rcases l with ⟨hk,hm⟩|⟨hk,c,hc,hcell⟩
 ·exact wpAny_loadName_local I.ok.kind hk hn hm go
 ·rcases hk with hk|hk
  ·exact wpAny_loadName_cell I.ok.kind hk hc hcell go
  ·rcases hx with k|k
   ·have:X.env.scope.names.lookup x=some .free:=hk
    rw[k]at this;cases this
   ·have:X.env.scope.names.lookup x=some .free:=hk
    rw[k]at this;cases this
def ipI (f:Int->Int->Int):TIp:=λx y H Q=>∃i j,x=.int i/\y=.int j/\Q (.int (f i j)) H
theorem ip_add:PIp X .Add (ipI λi j=>i+j):=by
 intro pins s Z H x y v u Q I r1 r2 h
 obtain⟨i,j,e1,e2,q⟩:=h
 subst e1;subst e2
 obtain⟨t,rfl⟩:=r1
 obtain⟨t',rfl⟩:=r2
 exact iadd_int ⟨.int _,H,I.tok _,⟨_,rfl⟩,q⟩
end
section
variable {X:Cx}{pos:Pos}
def tWhile (c:TT)(tb:TS):TS:=λD Z H=>∃W:Nat->St->Hp->Prop,(∃m,W m Z H)/\∀m Z H,W m Z H->
 c Z H λb H1=>if b=true then∃N:St->Hp->Prop,(∀Z' H',N Z' H'->∃m',m'<m/\W m' Z' H')/\tb {D with nx:=N,ct:=N,bk:=D.nx} Z H1 else D.nx Z H1
theorem ps_while {c:Expr}{body:List Stmt}{tc:TT}{tb:TS}(hp:PassesOwn (model X.prog X.w) X.A X.env X.xe)(hc:PT X c tc)(hb:PSs X body tb):PS X (.While c body [] pos) (tWhile tc tb):=by
 intro pins s Z H D I h
 obtain⟨W,⟨m0,w0⟩,turn⟩:=h
 refine wpAny_While (codeAny_whileLoop (λn s'=>∃Z' H',Inv X pins Z' H' s'/\W n Z' H') ?_ m0 ⟨Z,H,I,w0⟩)
 rintro n s1 ⟨Z1,H1,I1,w1⟩
 refine wpAny_passesOwn hp (thn (hc pins s1 Z1 H1 _ I1 (turn n Z1 H1 w1)) λb s2 ⟨H2,I2,q2⟩=>?_)
 cases b with
 |true=>
  obtain⟨N,hN,q2⟩:=q2
  rw[if_pos rfl]
  refine wpAny_passesOwn hp (thn (hb pins s2 Z1 H2 _ I2 q2) λf s3 q3=>?_)
  cases f with
  |next=>
   obtain⟨Z3,H3,I3,n3⟩:=q3
   obtain⟨m',hm,w3⟩:=hN Z3 H3 n3
   exact⟨m',hm,Z3,H3,I3,w3⟩
  |cont=>
   obtain⟨Z3,H3,I3,n3⟩:=q3
   obtain⟨m',hm,w3⟩:=hN Z3 H3 n3
   exact⟨m',hm,Z3,H3,I3,w3⟩
  |brk=>exact q3
  |ret v=>exact q3
 |false=>
  rw[if_neg Bool.false_ne_true]
  exact wpAny_execs_nil ⟨Z1,H2,I2,q2⟩
end
structure It where
 go:Nat->Hp->Prop
 yld:Nat->Hp->V->Hp->Prop
 stop:Nat->Hp->Prop
def FpOk (X:Cx)(pins:List (Addr×Obj))(H:Hp)(b:Addr):Prop:=
 H b=none/\b≠X.env.locals/\b∉X.fs/\(b∈X.ex\/X.s_0.heap.objs.size<=b)/\(∀x c,X.env.cells.lookup x=some c->c≠b)/\∀p∈X.pn++pins,p.1≠b
theorem Inv.fpOk {X:Cx}{pins:List (Addr×Obj)}{Z:St}{H H':Hp}{s:Shared}{b:Addr}(I:Inv X pins Z H s)(hb:s.heap.objs.size<=b)(hn:H' b=none):FpOk X pins H' b:=by
 refine⟨hn,Nat.ne_of_gt (Nat.lt_of_lt_of_le I.lt hb),I.nofs hb,.inr (Nat.le_trans I.sz hb),λx c e z=>?_,λp hp z=>?_⟩
 ·obtain⟨v,q⟩:=I.cell x c e
  exact absurd (Nat.lt_of_lt_of_le q.lt (by rw[z];exact hb)) (Nat.lt_irrefl _)
 ·exact absurd (Nat.lt_of_lt_of_le (Heap.lt_size (I.pin p hp).1) (by rw[z];exact hb)) (Nat.lt_irrefl _)
structure Turn (P:Program)(w:World)(K:Fg)(tg:Expr)(J:It)(fp:List Addr)(it:Addr)(tn:Nat->Heap->Prop):Prop where
 mem:it∈fp
 obj:∀i h,tn i h->∀b∈fp,∃o,h.get? b=some o/\∀v,o.data≠ .cell v
 keep:∀i h h',tn i h->(∀b∈fp,∀o,h.get? b=some o->h'.get? b=some o)->tn i h'
 item:∀(X:Cx),X.prog=P->X.w=w->X.K=K->X.calm=true->∀(i:Nat) (pins:List (Addr×Obj)) (s:Shared) (Z:St) (H:Hp) (E:Value->Shared->Prop),Inv X pins Z H s->(∀b∈fp,FpOk X pins H b)->tn i s.heap->J.go i H->
  wpAny (model P w) X.A (pyNext (.ref it)) (λr s1=>∃u,r=some u/\
   wpAny (model P w) X.A (letOwnedTupleGo tg (.ref it) u) (λ_ s2=>∃x H',Inv X pins Z H' s2/\RelV x u/\J.yld i H x H'/\tn (i+1) s2.heap/\∀b∈fp,H' b=none) E s1) E s
 done:∀(X:Cx),X.prog=P->X.w=w->X.K=K->X.calm=true->∀(i:Nat) (pins:List (Addr×Obj)) (s:Shared) (Z:St) (H:Hp) (E:Value->Shared->Prop),Inv X pins Z H s->(∀b∈fp,FpOk X pins H b)->tn i s.heap->J.stop i H->
  wpAny (model P w) X.A (pyNext (.ref it)) (λr s1=>r=none/\Inv X pins Z H s1) E s
 self:∀(A:Around) (i:Nat) (s:Shared) (Q:Value->Shared->Prop) (E:Value->Shared->Prop),tn i s.heap->Q (.ref it) s->wpAny (model P w) A (pyIter (.ref it)) Q E s
abbrev TI:=St->Hp->(It->Hp->Prop)->Prop
def PIE (X:Cx)(pins:List (Addr×Obj))(Z:St)(tg:Expr)(R:It->Hp->Prop)(itv:Value)(s2:Shared):Prop:=
 ∃(it:Addr) (fp:List Addr) (tn:Nat->Heap->Prop) (J:It) (H':Hp),itv=.ref it/\Inv X pins Z H' s2/\Turn X.prog X.w X.K tg J fp it tn/\tn 0 s2.heap/\(∀b∈fp,FpOk X pins H' b)/\R J H'
def PI (X:Cx)(tg iter:Expr)(wi:TI):Prop:=
 ∀(pins:List (Addr×Obj)) (s:Shared) (Z:St) (H:Hp) (R:It->Hp->Prop),Inv X pins Z H s->wi Z H R->
  wpAny (model X.prog X.w) X.A (eval iter X.env) (λv s1=>wpAny (model X.prog X.w) X.A (pyIter v) (PIE X pins Z tg R) X.xe s1) X.xe s
theorem go_of {M:Model}{A:Around}{E:Value->Shared->Prop}{s:Shared}{tg:Expr}{it:Addr}{u:Value}{o:Obj}{n:String}{vs:Array Value}{Q:Unit->Shared->Prop}(ho:s.heap.get? it=some o)(hc:o.cls=.type n)(hd:o.data=.fields vs)
  (hn:["enumerate","zip","dict_itemiterator","dict_reverseitemiterator","odict_iterator","itertools.zip_longest","itertools.pairwise"].contains n=false) (hQ:Q () s):wpAny M A (letOwnedTupleGo tg (.ref it) u) Q E s:=by
 unfold letOwnedTupleGo
 cases tg<;>first
  |exact wpAny_pure hQ
  |(cases u<;>first
    |exact wpAny_pure hQ
    |(refine wpAny_bind (wpAny_load ho ?_)
      rw[hc,hd]
      show wpAny M A (if(["enumerate","zip","dict_itemiterator","dict_reverseitemiterator","odict_iterator","itertools.zip_longest","itertools.pairwise"].contains n&&vs[0]?==some (rawInt _))=true then _ else _) Q E s
      rw[if_neg (by intro h;rw[hn,Bool.false_and]at h;cases h)]
      exact wpAny_pure hQ))
def Itl (K:Fg)(a:Addr):It:=
 ⟨λi H=>∃xs x,SqL K H a xs/\xs[i]?=some x,λi H x H'=>H'=H/\∀xs,SqL K H a xs->xs[i]?=some x,λi H=>∃xs,SqL K H a xs/\xs.length<=i⟩
def Itr (lo:Int)(n:Nat):It:=⟨λi _=>i<n,λi H x H'=>H'=H/\x=.int (lo+i),λi _=>n<=i⟩
theorem turn_list {P:Program}{w:World}{K:Fg}{tg:Expr}(a it:Addr):Turn P w K tg (Itl K a) [it] it (λi h=>h.IsListIter it a i) where
 mem:=by simp
 obj:=λi h st b hb=>by
  have e:b=it:=by simpa using hb
  subst e
  obtain⟨o,e,c,d⟩:=st
  exact⟨o,e,λv z=>by rw[d]at z;cases z⟩
 keep:=λi h h' st k=>st.at λo e=>k it (by simp) o e
 item:=by
  intro X hP hw hK hc i pins s Z H E I hf st hg
  subst hP hw hK
  obtain⟨xs,x,hq,hx⟩:=hg
  obtain⟨its,rv,p,hz⟩:=I.list hq
  obtain⟨u,hu,ru⟩:=rv.get hx
  obtain⟨f0,f1,f2,f3,f4,f5⟩:=hf it (by simp)
  refine wpAny_pyNext_list_item st p.isList (x:=u) (by simpa using hu) λh' st' sb=>?_
  have I1:Inv X pins Z H {s with heap:=h'}:=I.turned (t':=s.toks) (λb o hb e=>(sb.2 b hb).trans e) f0 f1 f3 f4 f5
  obtain⟨o,e,c,d⟩:=id st'
  exact⟨u,rfl,go_of (s:={s with heap:=h'}) e c d (by decide) ⟨x,H,I1,ru,⟨rfl,λys hy=>by rw[I.list_inj hy hq];exact hx⟩,st',λb hb=>(hf b hb).1⟩⟩
 done:=by
  intro X hP hw hK hc i pins s Z H E I hf st hg
  subst hP hw hK
  obtain⟨xs,hq,hx⟩:=hg
  obtain⟨its,rv,p,hz⟩:=I.list hq
  obtain⟨f0,f1,f2,f3,f4,f5⟩:=hf it (by simp)
  have hl:=rv.length
  exact wpAny_pyNext_list_end (I.ok.hd hc) st p.isList (by simp;omega) λh' eb=>⟨rfl,I.turned (t':=s.toks) (λb o hb e=>eb b o hb e) f0 f1 f3 f4 f5⟩
 self:=λ_ _ _ _ _ st h=>wpAny_pyIter_listiter st h
theorem turn_range {P:Program}{w:World}{K:Fg}{tg:Expr}(it:Addr)(lo:Int)(n:Nat):Turn P w K tg (Itr lo n) [it] it (λi h=>IsRangeIter h it (lo+(i:Nat)*1) ((n:Int)-(i:Nat)) 1) where
 mem:=by simp
 obj:=λi h st b hb=>by
  have e:b=it:=by simpa using hb
  subst e
  exact⟨_,st,λv z=>by
   have z':Data.fields _=Data.cell v:=z
   cases z'⟩
 keep:=λi h h' st k=>k it (by simp) _ st
 item:=by
  intro X hP hw hK hc i pins s Z H E I hf st hg
  subst hP hw hK
  obtain⟨f0,f1,f2,f3,f4,f5⟩:=hf it (by simp)
  have W:=Walks.range (prog:=X.prog) (w:=X.w) (I.ok.hd hc) it lo 1 n
  refine W.item i s _ _ hg st λv h' tk hv st' kk=>?_
  obtain⟨t,rfl⟩:=hv
  have I1:Inv X pins Z H {s with heap:=h',toks:=tk}:=I.turned (λb o hb e=>kk b o (by simpa using hb) e) f0 f1 f3 f4 f5
  refine⟨_,rfl,go_of (s:={s with heap:=h',toks:=tk}) (n:="range_iterator") st' rfl rfl (by decide) ⟨.int (lo+i),H,I1,⟨t,?_⟩,⟨rfl,rfl⟩,st',λb hb=>(hf b hb).1⟩⟩
  rw[Int.mul_one]
 done:=by
  intro X hP hw hK hc i pins s Z H E I hf st hg
  subst hP hw hK
  obtain⟨f0,f1,f2,f3,f4,f5⟩:=hf it (by simp)
  exact wpAny_pyNext_range_end (I.ok.hd hc) st (by have:n<=i:=hg;omega) λh' eb=>⟨rfl,I.turned (t':=s.toks) (λb o hb e=>eb b o hb e) f0 f1 f3 f4 f5⟩
 self:=λ_ _ _ _ _ st h=>wpAny_pyIter_rangeiter st h
end L2
namespace L2
open PySem PySem.Spec PyProof.Rows
section
variable {X:Cx}{tg:Expr}
def iList (K:Fg)(tl:TE):TI:=λZ H R=>tl Z H λx H1=>∃a,x=.ref a/\(∃xs,SqL K H1 a xs)/\R (Itl K a) H1
theorem pi_list {l:Expr}{tl:TE}(hl:PE X l tl):PI X tg l (iList X.K tl):=by
 intro pins s Z H R I h
 refine thn (hl pins s Z H _ I h) λv s1 ⟨x,H1,I1,r1,q1⟩=>?_
 obtain⟨a,e,⟨xs,hq⟩,q⟩:=q1
 subst e
 cases r1
 obtain⟨its,rv,p,hz⟩:=I1.list hq
 refine wpAny_pyIter_list p.isList ?_
 refine⟨s1.heap.objs.size,[s1.heap.objs.size],_,_,H1,rfl,I1.kept (t':=s1.toks) λb o e=>Heap.get?_push_of_some _ e,turn_list a _,⟨_,Heap.get?_push_size _ rfl,rfl,rfl⟩,λb hb=>?_,q⟩
 have e:b=s1.heap.objs.size:=by simpa using hb
 subst e
 exact I1.fpOk (Nat.le_refl _) (I1.hok.fresh (Nat.le_refl _))
theorem range_it {pins:List (Addr×Obj)}{Z:St}{H:Hp}{s:Shared}{R:It->Hp->Prop}{E:Value->Shared->Prop}{lo hi:Int}{t u v:Tok}{tk:Nat}(I:Inv X pins Z H s)(h1: -(2^62)<=lo)(h2:lo<2^62)(h3: -(2^62)<=hi)(h4:hi<2^62)
  (q:R (Itr lo (hi-lo).toNat) H):wpAny (model X.prog X.w) X.A (pyIter (.ref s.heap.objs.size)) (PIE X pins Z tg R) E {s with heap:=s.heap.push {cls:=.type "range",data:=.fields #[.int lo t,.int hi u,.int 1 v]},toks:=tk}:=by
 refine wpAny_pyIter_range (IsRange.new ..) (small_one h1 h2 h3 h4) ?_
 have I1:Inv X pins Z H {s with heap:=s.heap.push {cls:=.type "range",data:=.fields #[.int lo t,.int hi u,.int 1 v]},toks:=tk}:=I.kept λb o e=>Heap.get?_push_of_some _ e
 refine⟨(s.heap.push {cls:=.type "range",data:=.fields #[.int lo t,.int hi u,.int 1 v]}).objs.size,[(s.heap.push {cls:=.type "range",data:=.fields #[.int lo t,.int hi u,.int 1 v]}).objs.size],_,_,H,rfl,
  I1.kept (t':=tk) λb o e=>Heap.get?_push_of_some _ e,turn_range _ lo (hi-lo).toNat,?_,λb hb=>?_,q⟩
 ·have e1:lo+((0:Nat):Int)*1=lo:=by simp
  have e2:(((hi-lo).toNat:Nat):Int)-((0:Nat):Int)=Builtin.Range.rangeSize lo hi 1:=by rw[rangeSize_one];split<;>omega
  show IsRangeIter _ _ (lo+((0:Nat):Int)*1) ((((hi-lo).toNat:Nat):Int)-((0:Nat):Int)) 1
  rw[e1,e2]
  exact Heap.get?_push_size _ rfl
 ·have e:b=(s.heap.push {cls:=.type "range",data:=.fields #[.int lo t,.int hi u,.int 1 v]}).objs.size:=by simpa using hb
  subst e
  exact I1.fpOk (Nat.le_refl _) (I1.hok.fresh (Nat.le_refl _))
def iRng1 (ta:TA):TI:=λZ H R=>ta Z H λvs H1=>∃j:Int,vs=[.int j]/\ -(2^62)<=j/\j<2^62/\R (Itr 0 j.toNat) H1
theorem pi_range1 {a:Expr}{ta:TA}{p pos:Pos}(hg:Gl X "range")(hm:X.mg "range"=none)(ha:PA X [a] ta)(hs:starEach [a] X.env=[(false,eval a X.env)]:=by rfl):PI X tg (.Call (.Name "range" p) [a] [] pos) (iRng1 ta):=by
 intro pins s Z H R I h
 refine Call_ (ld_blt I hg hm boot_range (PyProof.Rows.callWith_type1 (thn (ha pos pins s Z H _ I h) λus s1 ⟨vs,H1,I1,r1,q1⟩=>?_) hs rfl))
 obtain⟨j,e,q1,q2,q⟩:=q1
 subst e
 cases r1 with
 |cons r rr=>
  cases rr
  obtain⟨t,rfl⟩:=r
  exact call_range_1 (range_it I1 (by omega) (by omega) q1 q2 (by simpa using q))
def tFor (wi:TI)(g:TG)(tb:TS):TS:=λD Z H=>wi Z H λJ H1=>∃W:Nat->Nat->St->Hp->Prop,(∃m,W 0 m Z H1)/\∀i m Z H,W i m Z H->
 (J.stop i H/\D.nx Z H)\/(J.go i H/\∃N:St->Hp->Prop,(∀Z' H',N Z' H'->∃m',m'<m/\W (i+1) m' Z' H')/\∀x H',J.yld i H x H'->g x Z H' λZ2 H2=>tb {D with nx:=N,ct:=N,bk:=D.nx} Z2 H2)
def pinsAt (fp:List Addr)(h:Heap):List (Addr×Obj):=fp.filterMap λb=>(h.get? b).map λo=>(b,o)
theorem mem_pinsAt {fp:List Addr}{h:Heap}{b:Addr}{o:Obj}(hb:b∈fp)(e:h.get? b=some o):(b,o)∈pinsAt fp h:=List.mem_filterMap.mpr ⟨b,hb,by rw[e];rfl⟩
theorem of_pinsAt {fp:List Addr}{h:Heap}{p:Addr×Obj}(hp:p∈pinsAt fp h):p.1∈fp/\h.get? p.1=some p.2:=by
 obtain⟨b,hb,e⟩:=List.mem_filterMap.mp hp
 cases q:h.get? b with
 |none=>rw[q]at e;cases e
 |some o=>
  rw[q]at e
  have e':(b,o)=p:=Option.some.inj e
  subst e'
  exact⟨hb,q⟩
theorem Inv.pinned {pins:List (Addr×Obj)}{Z:St}{H:Hp}{s:Shared}{fp:List Addr}(I:Inv X pins Z H s)(hf:∀b∈fp,FpOk X pins H b)(ho:∀b∈fp,∃o,s.heap.get? b=some o/\∀v,o.data≠ .cell v):Inv X (pins++pinsAt fp s.heap) Z H s:=
 I.pins_of λp hp=>(List.mem_append.mp hp).elim (λz=>I.pin p (List.mem_append_right _ z)) λz=>by
  obtain⟨hb,e⟩:=of_pinsAt z
  obtain⟨f0,f1,f2,_⟩:=hf p.1 hb
  obtain⟨o,e',d⟩:=ho p.1 hb
  rw[e]at e';cases e'
  exact⟨e,f0,f1,f2,d⟩
theorem Inv.unpinned {pins pl:List (Addr×Obj)}{Z:St}{H:Hp}{s:Shared}(I:Inv X (pins++pl) Z H s):Inv X pins Z H s:=I.pins_of λp hp=>I.pin p (List.mem_append_right _ (List.mem_append_left _ hp))
theorem ps_for {iter:Expr}{body:List Stmt}{wi:TI}{g:TG}{tb:TS}{pos:Pos}(hp:PassesOwn (model X.prog X.w) X.A X.env X.xe)(hc:X.calm=true)(hi:PI X tg iter wi)(hg:PG X tg g)(hb:PSs X body tb)
  (hs:∀x,foldedSetIterable iter X.env x=pure x:=by intro _;rfl):PS X (.For tg iter body [] pos) (tFor wi g tb):=by
 intro pins s Z H D I h
 refine wpAny_For (thn (hi pins s Z H _ I h) λv s1 h1=>thn h1 λitv s2 h2=>?_) hs
 obtain⟨it,fp,tn,J,H2,e,I2,T,st2,f2,W,⟨m0,w0⟩,turn⟩:=h2
 subst e
 have stat:∀{H':Hp},(∀b∈fp,H' b=none)->∀b∈fp,FpOk X pins H' b:=λhn b hb=>⟨hn b hb,(f2 b hb).2⟩
 refine codeAny_forLoop_any (λn s'=>∃i Z' H',Inv X pins Z' H' s'/\tn i s'.heap/\(∀b∈fp,H' b=none)/\W i n Z' H') ?_ m0 ⟨0,Z,H2,I2,st2,λb hb=>(f2 b hb).1,w0⟩
 rintro n s3 ⟨i,Z3,H3,I3,st3,fr3,w3⟩
 rcases turn i n Z3 H3 w3 with ⟨stop,qn⟩|⟨go,N,hN,step⟩
 ·refine wpAny_passesOwn hp (thn (T.done X rfl rfl rfl hc i pins s3 Z3 H3 X.xe I3 (stat fr3) st3 stop) λr s4 ⟨hr,I4⟩=>?_)
  subst hr
  exact wpAny_execs_nil ⟨Z3,H3,I4,qn⟩
 ·refine wpAny_passesOwn hp (thn (T.item X rfl rfl rfl hc i pins s3 Z3 H3 X.xe I3 (stat fr3) st3 go) λr s4 ⟨u,hr,h4⟩=>?_)
  subst hr
  refine wpAny_passesOwn hp (thn h4 λ_ s5 ⟨x,H5,I5,r5,y5,st5,fr5⟩=>?_)
  have I5':=I5.pinned (stat fr5) (T.obj _ _ st5)
  refine wpAny_passesOwn hp (thn (hg _ s5 Z3 H5 x u _ I5' r5 (step x H5 y5)) λ_ s6 ⟨Z6,H6,I6,q6⟩=>?_)
  refine wpAny_passesOwn hp (thn (hb _ s6 Z6 H6 _ I6 q6) λf s7 q7=>?_)
  have again:∀{Z7:St} {H7:Hp},Inv X (pins++pinsAt fp s5.heap) Z7 H7 s7->N Z7 H7->∃m,m<n/\∃i Z' H',Inv X pins Z' H' s7/\tn i s7.heap/\(∀b∈fp,H' b=none)/\W i m Z' H':=λ{Z7 H7} I7 n7=>by
   obtain⟨m',hm,w7⟩:=hN Z7 H7 n7
   refine⟨m',hm,i+1,Z7,H7,I7.unpinned,T.keep _ _ _ st5 λb hb o e=>(I7.pin (b,o) (List.mem_append_right _ (List.mem_append_right _ (mem_pinsAt hb e)))).1,λb hb=>?_,w7⟩
   obtain⟨o,e,d⟩:=T.obj _ _ st5 b hb
   exact(I7.pin (b,o) (List.mem_append_right _ (List.mem_append_right _ (mem_pinsAt hb e)))).2.1
  cases f with
  |next=>obtain⟨Z7,H7,I7,n7⟩:=q7;exact again I7 n7
  |cont=>obtain⟨Z7,H7,I7,n7⟩:=q7;exact again I7 n7
  |brk=>obtain⟨Z7,H7,I7,q7⟩:=q7;exact⟨Z7,H7,I7.unpinned,q7⟩
  |ret v=>obtain⟨x7,Z7,H7,I7,r7,q7⟩:=q7;exact⟨x7,Z7,H7,I7.unpinned,r7,q7⟩
end
theorem for_list {K:Fg}{a:Addr}{xs:List V}{g:TG}{tb:TS}{D:Ends}{Z:St}{H:Hp}(Pv:Nat->St->Hp->Prop)(h0:Pv 0 Z H)(hl:∀i Z H,i<=xs.length->Pv i Z H->SqL K H a xs)
  (hs:∀i x Z H,xs[i]?=some x->Pv i Z H->g x Z H λZ2 H2=>tb {D with nx:=Pv (i+1),ct:=Pv (i+1),bk:=D.nx} Z2 H2) (hd:∀Z H,Pv xs.length Z H->D.nx Z H):
  ∃W:Nat->Nat->St->Hp->Prop,(∃m,W 0 m Z H)/\∀i m Z H,W i m Z H->
   ((Itl K a).stop i H/\D.nx Z H)\/((Itl K a).go i H/\∃N:St->Hp->Prop,(∀Z' H',N Z' H'->∃m',m'<m/\W (i+1) m' Z' H')/\∀x H',(Itl K a).yld i H x H'->g x Z H' λZ2 H2=>tb {D with nx:=N,ct:=N,bk:=D.nx} Z2 H2):=by
 refine⟨λi m Z H=>m=xs.length-i/\i<=xs.length/\Pv i Z H,⟨xs.length,by simp,Nat.zero_le _,h0⟩,?_⟩
 rintro i m Z H ⟨rfl,hi,p⟩
 have q:=hl i Z H hi p
 by_cases hlt:i<xs.length
 ·refine .inr ⟨⟨xs,xs[i],q,by simp[hlt]⟩,Pv (i+1),λZ' H' p'=>⟨xs.length-(i+1),by omega,rfl,hlt,p'⟩,λx H' y=>?_⟩
  obtain⟨e,y⟩:=y
  subst e
  exact hs i x Z _ (y xs q) p
 ·have e:i=xs.length:=by omega
  subst e
  exact .inl ⟨⟨xs,q,Nat.le_refl _⟩,hd Z H p⟩
end L2
namespace L2
open PySem PySem.Spec PyProof.Rows
abbrev R2:=V->V->Hp->VK->Prop
def OpR (X:Cx)(f:Value->Value->Sem Value)(r:R2):Prop:=
 ∀(pins:List (Addr×Obj)) (s:Shared) (Z:St) (H:Hp) (x y:V) (v u:Value) (Q:VK),Inv X pins Z H s->RelV x v->RelV y u->r x y H Q->
  wpAny (model X.prog X.w) X.A (f v u) (EP X pins Z Q) X.xe s
def CallR (X:Cx)(f:Value)(r:List V->Hp->VK->Prop):Prop:=
 ∀(pins:List (Addr×Obj)) (s:Shared) (Z:St) (H:Hp) (xs:List V) (us:List Value) (Q:VK),Inv X pins Z H s->Vals xs us->r xs H Q->
  wpAny (model X.prog X.w) X.A (call f us) (EP X pins Z Q) X.xe s
def tOp (r:R2)(ta tb:TE):TE:=λZ H Q=>ta Z H λx H1=>tb Z H1 λy H2=>r x y H2 Q
def rI0 (g:Int->Int->V):R2:=λx y H Q=>∃i j,x=.int i/\y=.int j/\Q (g i j) H
section
variable {X:Cx}{a b c:Expr}{ta tb tc:TE}{pos:Pos}
theorem binT (ha:PE X a ta)(hb:PE X b tb){pins:List (Addr×Obj)}{s:Shared}{Z:St}{H:Hp}{R:V->V->Hp->Prop}(I:Inv X pins Z H s)
  (h:ta Z H λx H1=>tb Z H1 λy H2=>R x y H2) {Q:Value->Shared->Prop} {f:Value->Value->Sem Value}
  (hf:∀v u s2 x y H2,Inv X pins Z H2 s2->RelV x v->RelV y u->R x y H2->wpAny (model X.prog X.w) X.A (f v u) Q X.xe s2):
  wpAny (model X.prog X.w) X.A (eval a X.env) (λv s₁=>wpAny (model X.prog X.w) X.A (eval b X.env) (λu s₂=>wpAny (model X.prog X.w) X.A (f v u) Q X.xe s₂) X.xe s₁) X.xe s:=by
 refine thn (ha pins s Z H _ I h) λv s1 ⟨x,H1,I1,r1,q1⟩=>?_
 refine thn (hb pins s1 Z H1 _ I1 q1) λu s2 ⟨y,H2,I2,r2,q2⟩=>?_
 exact hf v u s2 x y H2 I2 r1 r2 q2
theorem pe_op {op:Operator}{r:R2}(ho:OpR X (binaryOp op) r)(ha:PE X a ta)(hb:PE X b tb):PE X (.BinOp a op b pos) (tOp r ta tb):=by
 intro pins s Z H Q I h
 exact wpAny_BinOp (binT ha hb I h λv u s2 x y H2 I2 rx ry q=>ho pins s2 Z H2 x y v u Q I2 rx ry q)
theorem opI0 {f:Value->Value->Sem Value}{g:Int->Int->Int}
  (rule:∀(i j:Int) (t u:Tok) (s:Shared) (Q:Value->Shared->Prop) (E:Value->Shared->Prop),Q (.int (g i j) s.toks) {s with toks:=s.toks+1}->wpAny (model X.prog X.w) X.A (f (.int i t) (.int j u)) Q E s):
  OpR X f (rI0 λi j=>.int (g i j)):=by
 intro pins s Z H x y v u Q I rx ry h
 obtain⟨i,j,rfl,rfl,q⟩:=h
 obtain⟨t,rfl⟩:=rx
 obtain⟨t',rfl⟩:=ry
 exact rule i j t t' s _ _ ⟨.int (g i j),H,I.tok _,⟨_,rfl⟩,q⟩
theorem opB0 {f:Value->Value->Sem Value}{g:Int->Int->Bool}
  (rule:∀(i j:Int) (t u:Tok) (s:Shared) (Q:Value->Shared->Prop) (E:Value->Shared->Prop),Q (.bool (g i j)) s->wpAny (model X.prog X.w) X.A (f (.int i t) (.int j u)) Q E s):
  OpR X f (rI0 λi j=>.bl (g i j)):=by
 intro pins s Z H x y v u Q I rx ry h
 obtain⟨i,j,rfl,rfl,q⟩:=h
 obtain⟨t,rfl⟩:=rx
 obtain⟨t',rfl⟩:=ry
 exact rule i j t t' s _ _ ⟨.bl (g i j),H,I,rfl,q⟩
theorem op_add:OpR X (binaryOp .Add) (rI0 λi j=>.int (i+j)):=opI0 λ_ _ _ _ _ _ _ q=>add_int q
theorem op_sub:OpR X (binaryOp .Sub) (rI0 λi j=>.int (i-j)):=opI0 λ_ _ _ _ _ _ _ q=>sub_int q
end
def scal:V->V->Bool
 |.non,.non=>true|.non,.int _=>true|.int _,.non=>true|.non,.bl _=>true|.bl _,.non=>true|.non,.str _=>true|.str _,.non=>true
 |.int _,.int _=>true|.bl _,.bl _=>true|.str _,.str _=>true|.byt _,.byt _=>true
 |.int _,.str _=>true|.str _,.int _=>true|.bl _,.str _=>true|.str _,.bl _=>true
 |_,_=>false
def rEq:R2:=λx y H Q=>scal x y=true/\Q (.bl (decide (x=y))) H
def rNe:R2:=λx y H Q=>scal x y=true/\Q (.bl (!decide (x=y))) H
theorem dec_int {i j:Int}:decide (V.int i=V.int j)=(i==j):=by
 rw[Bool.eq_iff_iff]
 simp
theorem dec_bl {i j:Bool}:decide (V.bl i=V.bl j)=(i==j):=by
 rw[Bool.eq_iff_iff]
 simp
theorem dec_str {i j:Str}:decide (V.str i=V.str j)=(i==j):=by
 rw[Bool.eq_iff_iff]
 simp
theorem dec_byt {i j:Array UInt8}:decide (V.byt i=V.byt j)=(i.toList==j.toList):=by
 rw[Bool.eq_iff_iff]
 cases i
 cases j
 simp
section
variable {X:Cx}{a b c:Expr}{ta tb tc:TE}{pos:Pos}
theorem fin_bl {pins:List (Addr×Obj)}{Z:St}{H:Hp}{s:Shared}{Q:VK}{k k':Bool}(I:Inv X pins Z H s)(q:Q (.bl k) H)(e:k=k'):EP X pins Z Q (.bool k') s:=by
 subst e
 exact⟨.bl k,H,I,rfl,q⟩
theorem op_eq:OpR X (compareOp .Eq) rEq:=by
 intro pins s Z H x y v u Q I rx ry h
 obtain⟨hs,q⟩:=h
 cases x with
 |non=>
  cases rx
  cases y with
  |non=>cases ry;exact PySem.EqNone.eq_none_none (fin_bl I q (by simp))
  |bl j=>cases ry;exact PySem.EqNone.eq_none_bool (fin_bl I q (by simp))
  |int j=>obtain⟨t',rfl⟩:=ry;exact PySem.EqNone.eq_none_int (fin_bl I q (by simp))
  |str j=>obtain⟨t',rfl⟩:=ry;exact PySem.EqNone.eq_none_str (fin_bl I q (by simp))
  |_=>exact absurd (show false=true from hs) Bool.false_ne_true
 |bl i=>
  cases rx
  cases y with
  |non=>cases ry;exact PySem.EqNone.eq_bool_none (fin_bl I q (by simp))
  |bl j=>cases ry;exact eq_bool (fin_bl I q dec_bl)
  |str j=>obtain⟨t',rfl⟩:=ry;exact PySem.EqMixed.eq_bool_str (fin_bl I q (by simp))
  |_=>exact absurd (show false=true from hs) Bool.false_ne_true
 |int i=>
  obtain⟨t,rfl⟩:=rx
  cases y with
  |non=>cases ry;exact PySem.EqNone.eq_int_none (fin_bl I q (by simp))
  |int j=>obtain⟨t',rfl⟩:=ry;exact eq_int (fin_bl I q dec_int)
  |str j=>obtain⟨t',rfl⟩:=ry;exact PySem.EqMixed.eq_int_str (fin_bl I q (by simp))
  |_=>exact absurd (show false=true from hs) Bool.false_ne_true
 |str i=>
  obtain⟨t,rfl⟩:=rx
  cases y with
  |non=>cases ry;exact PySem.EqNone.eq_str_none (fin_bl I q (by simp))
  |bl j=>cases ry;exact PySem.EqMixed.eq_str_bool (fin_bl I q (by simp))
  |int j=>obtain⟨t',rfl⟩:=ry;exact PySem.EqMixed.eq_str_int (fin_bl I q (by simp))
  |str j=>obtain⟨t',rfl⟩:=ry;exact eq_str (fin_bl I q dec_str)
  |_=>exact absurd (show false=true from hs) Bool.false_ne_true
 |byt i=>
  obtain⟨t,rfl⟩:=rx
  cases y with
  |byt j=>obtain⟨t',rfl⟩:=ry;exact PySem.W.eq_bytes (fin_bl I q dec_byt)
  |_=>exact absurd (show false=true from hs) Bool.false_ne_true
 |_=>cases y<;>exact absurd (show false=true from hs) Bool.false_ne_true
theorem op_ne:OpR X (compareOp .NotEq) rNe:=by
 intro pins s Z H x y v u Q I rx ry h
 obtain⟨hs,q⟩:=h
 cases x with
 |non=>
  cases rx
  cases y with
  |non=>cases ry;exact PySem.EqNone.ne_none_none (fin_bl I q (by simp))
  |bl j=>cases ry;exact PySem.EqNone.ne_none_bool (fin_bl I q (by simp))
  |int j=>obtain⟨t',rfl⟩:=ry;exact PySem.EqNone.ne_none_int (fin_bl I q (by simp))
  |str j=>obtain⟨t',rfl⟩:=ry;exact PySem.EqNone.ne_none_str (fin_bl I q (by simp))
  |_=>exact absurd (show false=true from hs) Bool.false_ne_true
 |bl i=>
  cases rx
  cases y with
  |non=>cases ry;exact PySem.EqNone.ne_bool_none (fin_bl I q (by simp))
  |bl j=>cases ry;exact ne_bool (fin_bl I q (congrArg not dec_bl))
  |str j=>obtain⟨t',rfl⟩:=ry;exact PySem.EqMixed.ne_bool_str (fin_bl I q (by simp))
  |_=>exact absurd (show false=true from hs) Bool.false_ne_true
 |int i=>
  obtain⟨t,rfl⟩:=rx
  cases y with
  |non=>cases ry;exact PySem.EqNone.ne_int_none (fin_bl I q (by simp))
  |int j=>obtain⟨t',rfl⟩:=ry;exact ne_int (fin_bl I q (congrArg not dec_int))
  |str j=>obtain⟨t',rfl⟩:=ry;exact PySem.EqMixed.ne_int_str (fin_bl I q (by simp))
  |_=>exact absurd (show false=true from hs) Bool.false_ne_true
 |str i=>
  obtain⟨t,rfl⟩:=rx
  cases y with
  |non=>cases ry;exact PySem.EqNone.ne_str_none (fin_bl I q (by simp))
  |bl j=>cases ry;exact PySem.EqMixed.ne_str_bool (fin_bl I q (by simp))
  |int j=>obtain⟨t',rfl⟩:=ry;exact PySem.EqMixed.ne_str_int (fin_bl I q (by simp))
  |str j=>obtain⟨t',rfl⟩:=ry;exact ne_str (fin_bl I q (congrArg not dec_str))
  |_=>exact absurd (show false=true from hs) Bool.false_ne_true
 |byt i=>
  obtain⟨t,rfl⟩:=rx
  cases y with
  |byt j=>obtain⟨t',rfl⟩:=ry;exact PySem.W.ne_bytes (fin_bl I q (congrArg not dec_byt))
  |_=>exact absurd (show false=true from hs) Bool.false_ne_true
 |_=>cases y<;>exact absurd (show false=true from hs) Bool.false_ne_true
theorem op_lt:OpR X (compareOp .Lt) (rI0 λi j=>.bl (decide (i<j))):=opB0 λ_ _ _ _ _ _ _ q=>lt_int q
theorem op_le:OpR X (compareOp .LtE) (rI0 λi j=>.bl (decide (i<=j))):=opB0 λ_ _ _ _ _ _ _ q=>le_int q
theorem op_gt:OpR X (compareOp .Gt) (rI0 λi j=>.bl (decide (j<i))):=opB0 λ_ _ _ _ _ _ _ q=>gt_int q
theorem op_ge:OpR X (compareOp .GtE) (rI0 λi j=>.bl (decide (j<=i))):=opB0 λ_ _ _ _ _ _ _ q=>ge_int q
theorem nomark (b:Expr){op:CmpOp}(h:op≠ .In:=by decide)(h2:op≠ .NotIn:=by decide):behindInMarks op b=false:=by
 have e1:(op==CmpOp.In)=false:=by cases op<;>first|rfl|exact absurd rfl h
 have e2:(op==CmpOp.NotIn)=false:=by cases op<;>first|rfl|exact absurd rfl h2
 cases b<;>simp[behindInMarks,e1,e2]
theorem pe_cmpR {op:CmpOp}{r:R2}(ho:OpR X (compareOp op) r)(ha:PE X a ta)(hb:PE X b tb)(hm:behindInMarks op b=false):PE X (.Compare a [op] [b] pos) (tOp r ta tb):=by
 intro pins s Z H Q I h
 exact wpAny_Compare1 (binT ha hb I h λv u s2 x y H2 I2 rx ry q=>ho pins s2 Z H2 x y v u Q I2 rx ry q) hm
def tTest (t:TE):TT:=λZ H Q=>t Z H λx H'=>∃k,x=.bl k/\Q k H'
theorem pt_cmpR {op:CmpOp}{r:R2}(ho:OpR X (compareOp op) r)(ha:PE X a ta)(hb:PE X b tb)(hm:behindInMarks op b=false):PT X (.Compare a [op] [b] pos) (tTest (tOp r ta tb)):=by
 intro pins s Z H Q I h
 refine wpAny_isTrue_Compare1 (thn (ha pins s Z H _ I h) λv s1 ⟨x,H1,I1,r1,q1⟩=>thn (hb pins s1 Z H1 _ I1 q1) λu s2 ⟨y,H2,I2,r2,q2⟩=>
  thn (ho pins s2 Z H2 x y v u _ I2 r1 r2 q2) λc s3 ⟨z,H3,I3,r3,k,e,q3⟩=>?_) hm
 subst e
 cases r3
 exact wpAny_truthy_bool ⟨H3,I3,q3⟩
theorem line63:(sizeLine:Nat)<2^63:=by rw[sizeLine_eq];decide
theorem vals1 {x:V}{us:List Value}(r:Vals [x] us):∃u,us=[u]/\RelV x u:=by
 cases r with
 |cons r1 r2=>cases r2;exact⟨_,rfl,r1⟩
theorem vals2 {x y:V}{us:List Value}(r:Vals [x,y] us):∃u w',us=[u,w']/\RelV x u/\RelV y w':=by
 cases r with
 |cons r1 r2=>
  cases r2 with
  |cons r3 r4=>cases r4;exact⟨_,_,rfl,r1,r3⟩
theorem call_max2 (hc:X.calm=true):CallR X (.builtin "max") (λxs H Q=>∃i j,xs=[.int i,.int j]/\Q (.int (if j>i then j else i)) H):=by
 intro pins s Z H xs us Q I r h
 obtain⟨i,j,rfl,q⟩:=h
 obtain⟨u,w',rfl,⟨t,rfl⟩,⟨t',rfl⟩⟩:=vals2 r
 refine max_two_ints (I.ok.hd hc) λh' tk k=>⟨_,H,I.kept k,?_,q⟩
 by_cases hj:j>i
 ·rw[if_pos hj,if_pos hj];exact⟨_,rfl⟩
 ·rw[if_neg hj,if_neg hj];exact⟨_,rfl⟩
theorem call_min2 (hc:X.calm=true):CallR X (.builtin "min") (λxs H Q=>∃i j,xs=[.int i,.int j]/\Q (.int (if j<i then j else i)) H):=by
 intro pins s Z H xs us Q I r h
 obtain⟨i,j,rfl,q⟩:=h
 obtain⟨u,w',rfl,⟨t,rfl⟩,⟨t',rfl⟩⟩:=vals2 r
 refine min_two_ints (I.ok.hd hc) λh' tk k=>⟨_,H,I.kept k,?_,q⟩
 by_cases hj:j<i
 ·rw[if_pos hj,if_pos hj];exact⟨_,rfl⟩
 ·rw[if_neg hj,if_neg hj];exact⟨_,rfl⟩
end
end L2
namespace L2
open PySem PySem.Spec PyProof.Rows
structure ObjM (h:Heap)(x dx C:Addr)(mA:Str->Option Value):Prop where
 obj:h.get? x=some (PySem.W.instObj C dx)
 ns:h.Ns1 dx mA
 ne:dx≠x
theorem lookIn_ns {h:Heap}{dx:Addr}{mA:Str->Option Value}(n:h.Ns1 dx mA):∃od,h.get? dx=some od/\∀name,PySem.W.lookIn name od=some (mA name):=by
 obtain⟨o,es,ep,ho,hd,hk,_,hm⟩:=n
 refine⟨o,ho,λname=>?_⟩
 have e:=hm name
 unfold nsFind findBy at e
 rw[<-Array.find?_toList]at e
 unfold PySem.W.lookIn
 rw[hd]
 dsimp only
 split
 ·rename_i y q
  rw[q]at e
  exact congrArg some e
 ·rename_i q
  rw[q]at e
  have a:es.toList.any (·.refKey)=false:=by
   rw[List.any_eq_false]
   intro y hy
   obtain⟨z,t,hkey⟩:=hk y (Array.mem_toList_iff.mp hy)
   simp[DictEntry.refKey,hkey]
  have a':¬es.toList.any (·.refKey)=true:=by rw[a];exact Bool.false_ne_true
  rw[if_neg a']
  exact congrArg some e
theorem ObjM.look {h:Heap}{x dx C:Addr}{mA:Str->Option Value}(I:ObjM h x dx C mA):∃od,PySem.W.InstAt h x (PySem.W.instObj C dx) C (some od)/\∀name,PySem.W.lookIn name od=some (mA name):=
 let⟨od,ho,hl⟩:=lookIn_ns I.ns
 ⟨od,⟨I.obj,rfl,rfl,ho⟩,hl⟩
section
variable {prog:Program}{w:World}{A:Around}{E:Value->Shared->Prop}{s:Shared}{K:Fg}{x dx C f:Addr}{mA:Str->Option Value}{name:Str}{v:Value}
theorem get_map {expr:Bool}{Q:Value->Shared->Prop}(X:K.In s.heap)(I:ObjM s.heap x dx C mA)(hg:PySem.W.plainGet K C name=true)(hh:PySem.W.hasDictIn K C=true)
  (ha:PySem.W.findIn K (.ref C) name=some none) (hv:mA name=some v) (hv':PySem.W.handedIn v=true) (h:Q v {s with toks:=s.toks+1}):
  wpAny (model prog w) A (getAttr (.ref x) name expr) Q E s:=by
 obtain⟨od,J,hl⟩:=I.look
 exact PySem.W.get_value X J (PySem.W.plainGet_of hg).1 (PySem.W.findObj_own hh ha rfl (by rw[hl,hv])) hv' h
theorem get_meth {pl:Sem Bool}{Q:Value×List Value->Shared->Prop}(X:K.In s.heap)(I:ObjM s.heap x dx C mA)(hg:PySem.W.plainGet K C name=true)
  (hf:PySem.W.findIn K (.ref C) name=some (some (.ref f))) (ht:PySem.W.isFn K (.ref f)=true) (hv:mA name=none) (h:Q (.ref f,[.ref x]) s):
  wpAny (model prog w) A (getMethod (.ref x) name pl) Q E s:=by
 obtain⟨od,J,hl⟩:=I.look
 exact PySem.W.method_fn X J (PySem.W.plainGet_of hg).1 (PySem.W.plainGet_of hg).2 hf (beq_iff_eq.mp ht) (by show(PySem.W.lookIn name od).map (·.isSome)=some false;rw[hl,hv];rfl) h
theorem set_map {ns:List Str}{Q:Unit->Shared->Prop}(X:K.In s.heap)(I:ObjM s.heap x dx C mA)
  (hs:PySem.W.findIn K (.ref C) "__setattr__"=some (some (.builtin "object.__setattr__"))) (hp:PySem.W.plainOver K C=true) (ht:PySem.W.takerIn K C name=some none) (hh:PySem.W.hasDictIn K C=true)
  (hw:PySem.Within mA ns) (hsz:ns.length<=sizeLine)
  (h:∀h',ObjM h' x dx C (λy=>if y=name then some v else mA y)->Heap.SameBut dx s.heap h'->Q () {s with heap:=h',toks:=s.toks+2}):
  wpAny (model prog w) A (setAttr (.ref x) name v) Q E s:=by
 obtain⟨od,J,hl⟩:=I.look
 refine PySem.W.set_plain X J hs (PySem.W.osa_open (s:={s with toks:=s.toks+1}) (r:=none) X J hp ht λb=>?_)
 obtain⟨cd,hc,hd'⟩:=PySem.W.any_some hh
 have hx:s.heap.get? x=some ⟨.ref C,some dx,.plain, #[]⟩:=I.obj
 refine wpAny_bind (wpAny_pure (wpAny_bind (wpAny_bind (wpAny_loadPart hx (wpAny_bind (PySem.W.Looks.here (s:={s with toks:=s.toks+1}) (PySem.W.looks_clsIn X hc) ?_))))))
 rw[hd']
 refine wpAny_pure (a:=some dx) (wpAny_bind (wpAny_pure (wpAny_bind ?_)))
 refine wpAny_nsSet1 (s:={s with toks:=s.toks+1}) I.ns λh' hn2 hs2=>?_
 obtain⟨oD,esD,epD,hoD,hdD,hcD⟩:=hn2.count (PySem.Within.cons name v hw)
 refine wpAny_bind (wpAny_lookBehind hoD (by rw[hdD];exact pastItsLine_dict (Nat.le_trans hcD (by rw[List.length_cons];omega))) ?_)
 exact wpAny_pure (h _ ⟨(hs2.2 _ (Ne.symm I.ne)).trans I.obj,hn2,I.ne⟩ hs2)
theorem make_map {R:Result->Shared->Prop}{vs:List Value}{kw:List (Str×Value)}(X:K.In s.heap)(hm:PySem.W.makesIn K C=true)
  (hi:PySem.W.findIn K (.ref C) "__init__"=some (some (.ref f))) (hf:PySem.W.typeIn K (.ref f)=some (.type "function"))
  (h:codeAny (model prog w) (A.under (.builtin "type.__call__" ⟨.ref C::vs,kw⟩)) (.call (.ref f) ⟨.ref (s.heap.objs.size+1)::vs,kw⟩) (PySem.W.InitBack (s.heap.objs.size+1) R)
   {s with heap:=(s.heap.push PySem.W.emptyDict).push (PySem.W.instObj C s.heap.objs.size)}):
  codeAny (model prog w) A (.call (.ref C) ⟨vs,kw⟩) R s:=by
 obtain⟨hh,g,d,t,os⟩:=s
 exact PySem.W.make_core (PySem.W.makes_of X hm) (PySem.W.looks_findIn X hi) (λself=>PySem.W.bind_fn X self hf) (.inl rfl) h
end
def putF (f:Str)(v:V):List (Str×V)->List (Str×V)
 |[]=>[(f,v)]
 |(g,x)::r=>if g=f then(g,v)::r else(g,x)::putF f v r
theorem lookup_putF (f g:Str)(v:V):∀fs:List (Str×V),(putF f v fs).lookup g=if g=f then some v else fs.lookup g
 |[]=>by
  show List.lookup g [(f,v)]=_
  by_cases h:g=f
  ·have hb:(g==f)=true:=beq_iff_eq.mpr h
   simp only[List.lookup,hb,if_pos h]
  ·have hb:(g==f)=false:=beq_eq_false_iff_ne.mpr h
   simp only[List.lookup,hb,if_neg h]
 |(k,x)::r=>by
  have ih:=lookup_putF f g v r
  rw[show putF f v ((k,x)::r)=(if k=f then(k,v)::r else(k,x)::putF f v r)from rfl]
  by_cases hk:k=f
  ·rw[if_pos hk]
   by_cases h:g=k
   ·have hb:(g==k)=true:=beq_iff_eq.mpr h
    simp only[List.lookup,hb,if_pos (h.trans hk)]
   ·have hb:(g==k)=false:=beq_eq_false_iff_ne.mpr h
    simp only[List.lookup,hb,if_neg (λe:g=f=>h (e.trans hk.symm))]
  ·rw[if_neg hk]
   by_cases h:g=k
   ·have hb:(g==k)=true:=beq_iff_eq.mpr h
    simp only[List.lookup,hb,if_neg (λe:g=f=>hk (h.symm.trans e))]
   ·have hb:(g==k)=false:=beq_eq_false_iff_ne.mpr h
    simp only[List.lookup,hb]
    exact ih
theorem keys_putF (f:Str)(v:V):∀fs:List (Str×V),f∈(putF f v fs).map (·.1)/\∀g,g∈fs.map (·.1)->g∈(putF f v fs).map (·.1)
 |[]=>⟨by simp[putF],λg h=>by simp at h⟩
 |(k,x)::r=>by
  obtain⟨i1,i2⟩:=keys_putF f v r
  rw[show putF f v ((k,x)::r)=(if k=f then(k,v)::r else(k,x)::putF f v r)from rfl]
  by_cases hk:k=f
  ·rw[if_pos hk]
   subst hk
   exact⟨by simp,λg h=>by simpa using h⟩
  ·rw[if_neg hk]
   refine⟨?_,λg h=>?_⟩
   ·rw[List.map_cons]
    exact List.mem_cons_of_mem _ i1
   ·rw[List.map_cons]at h⊢
    rcases List.mem_cons.mp h with e|e
    ·exact List.mem_cons.mpr (.inl e)
    ·exact List.mem_cons_of_mem _ (i2 g e)
theorem length_putF (f:Str)(v:V):∀fs:List (Str×V),(putF f v fs).length<=fs.length+1
 |[]=>by simp[putF]
 |(k,x)::r=>by
  have ih:=length_putF f v r
  rw[show putF f v ((k,x)::r)=(if k=f then(k,v)::r else(k,x)::putF f v r)from rfl]
  by_cases hk:k=f
  ·rw[if_pos hk,List.length_cons,List.length_cons];omega
  ·rw[if_neg hk,List.length_cons,List.length_cons];omega
theorem RelO.some_of {v:V}{o:Option Value}(r:RelO (some v) o):∃u,o=some u/\RelV v u:=by
 cases o with
 |none=>exact(show False from r).elim
 |some u=>exact⟨u,rfl,r⟩
theorem RelO.none_of {o:Option Value}(r:RelO none o):o=none:=by
 cases o with
 |none=>rfl
 |some u=>exact(show False from r).elim
theorem handed_of {v:V}{u:Value}(r:RelV v u):PySem.W.handedIn u=true:=by
 cases v with
 |non=>cases (show u=Value.none from r);rfl
 |bl b=>cases (show u=Value.bool b from r);rfl
 |int i=>obtain⟨t,e⟩:=(show∃t,u=Value.int i t from r);cases e;rfl
 |str x=>obtain⟨t,e⟩:=(show∃t,u=Value.str x t from r);cases e;rfl
 |byt b=>obtain⟨t,e⟩:=(show∃t,u=Value.bytes b t from r);cases e;rfl
 |flt b=>obtain⟨t,e⟩:=(show∃t,u=Value.float b t from r);cases e;rfl
 |ref a=>cases (show u=Value.ref a from r);rfl
 |ty n=>cases (show u=Value.type n from r);rfl
section
variable {P:Program}{w:World}{H H':Hp}{h h':Heap}{a C dx:Addr}{fs fs':List (Str×V)}
theorem ins_get (hok:HOk P w H h)(e:H a=some (.ins C dx fs)):∃mA,ObjM h a dx C mA/\(∀f,RelO (fs.lookup f) (mA f))/\PySem.Within mA (fs.map (·.1))/\fs.length<=1000/\H dx=some (.own a):=by
 obtain⟨d,z,ne,ob,mA,n,r,q⟩:=(show ObjOk P w H h a (.ins C dx fs)from hok a _ e)
 exact⟨mA,⟨ob,n,ne⟩,r,q,z,d⟩
end
structure Cls (K:Fg)(C:Addr):Prop where
 pg:PySem.W.plainGet K C Str.empty=true
 hd:PySem.W.hasDictIn K C=true
 po:PySem.W.plainOver K C=true
 sa:PySem.W.findIn K (.ref C) "__setattr__"=some (some (.builtin "object.__setattr__"))
theorem Cls.get {K:Fg}{C:Addr}(c:Cls K C)(f:Str):PySem.W.plainGet K C f=true:=c.pg
def NoAttr (K:Fg)(C:Addr)(f:Str):Prop:=PySem.W.findIn K (.ref C) f=some none
theorem NoAttr.taker {K:Fg}{C:Addr}{f:Str}(n:NoAttr K C f):PySem.W.takerIn K C f=some none:=by
 unfold PySem.W.takerIn
 rw[show PySem.W.findIn K (.ref C) f=some none from n]
 rfl
structure Meth (K:Fg)(C:Addr)(m:Str)(f:Addr):Prop where
 at_:PySem.W.findIn K (.ref C) m=some (some (.ref f))
 fn:PySem.W.isFn K (.ref f)=true
 kp:PySem.W.keepIn K (.ref f)=true
section
variable {X:Cx}{pins:List (Addr×Obj)}{Z:St}{H:Hp}{s:Shared}{a C dx:Addr}{fs:List (Str×V)}{f:Str}{v:V}{A:Around}{E:Value->Shared->Prop}
theorem getattr_ok {b:Bool}{Q:Value->Shared->Prop}(I:Inv X pins Z H s)(e:H a=some (.ins C dx fs))(c:Cls X.K C)(n:NoAttr X.K C f)(l:fs.lookup f=some v)
  (h:∀u s',Inv X pins Z H s'->RelV v u->Q u s'):wpAny (model X.prog X.w) A (getAttr (.ref a) f b) Q E s:=by
 obtain⟨mA,O,r,_,_,_⟩:=ins_get I.hok e
 obtain⟨u,hu,ru⟩:=RelO.some_of (v:=v) (o:=mA f) (by rw[<-l];exact r f)
 exact get_map I.kIn O (c.get f) c.hd n hu (handed_of ru) (h u _ (I.tok _) ru)
theorem getmeth_ok {m:Str}{g:Addr}{pl:Sem Bool}{Q:Value×List Value->Shared->Prop}(I:Inv X pins Z H s)(e:H a=some (.ins C dx fs))(c:Cls X.K C)(k:Meth X.K C m g)(l:fs.lookup m=none)
  (h:Q (.ref g,[.ref a]) s):wpAny (model X.prog X.w) A (getMethod (.ref a) m pl) Q E s:=by
 obtain⟨mA,O,r,_,_,_⟩:=ins_get I.hok e
 have hn:mA m=none:=RelO.none_of (by rw[<-l];exact r m)
 exact get_meth I.kIn O (c.get m) k.at_ k.fn hn h
theorem setattr_ok {y:V}{u:Value}{Q:Unit->Shared->Prop}(I:Inv X pins Z H s)(e:H a=some (.ins C dx fs))(c:Cls X.K C)(n:NoAttr X.K C f)(hl:fs.length<1000)(ry:RelV y u)
  (h:∀s',Inv X pins Z (upd H a (.ins C dx (putF f y fs))) s'->Q () s'):wpAny (model X.prog X.w) A (setAttr (.ref a) f u) Q E s:=by
 obtain⟨mA,O,r,wi,_,ho⟩:=ins_get I.hok e
 have hz:(fs.map (·.1)).length<=sizeLine:=by rw[List.length_map,sizeLine_eq];omega
 refine set_map I.kIn O c.sa c.po n.taker c.hd wi hz λh' O' sb=>h _ ?_
 have hd:∃o,h'.get? dx=some o:=let⟨o,_,_,e',_⟩:=O'.ns;⟨o,e'⟩
 refine I.write (x:=a) (e:=dx) (by rw[e];exact True.intro) (.inr ho) (λb q hb z=>(sb.2 b hb).trans z) hd ?_
 refine⟨by rw[upd_ne O.ne];exact ho,?_,O.ne,O'.obj,_,O'.ns,λg=>?_,λg hg=>?_⟩
 ·have:=length_putF f y fs;omega
 ·show RelO ((putF f y fs).lookup g) (if g=f then some u else mA g)
  rw[lookup_putF]
  by_cases q:g=f
  ·rw[if_pos q,if_pos q];exact ry
  ·rw[if_neg q,if_neg q];exact r g
 ·by_cases q:g=f
  ·rw[q];exact(keys_putF f y fs).1
  ·refine(keys_putF f y fs).2 g (wi g λz=>hg ?_)
   show(if g=f then some u else mA g)=none
   rw[if_neg q];exact z
theorem Inv.made (I:Inv X pins Z H s):Inv X pins Z (upd (upd H s.heap.objs.size (.own (s.heap.objs.size+1))) (s.heap.objs.size+1) (.ins C s.heap.objs.size []))
  {s with heap:=(s.heap.push PySem.W.emptyDict).push (PySem.W.instObj C s.heap.objs.size)}:=by
 have e1:(s.heap.push PySem.W.emptyDict).get? s.heap.objs.size=some PySem.W.emptyDict:=Heap.get?_push_size s.heap rfl
 have e2:((s.heap.push PySem.W.emptyDict).push (PySem.W.instObj C s.heap.objs.size)).get? (s.heap.objs.size+1)=some (PySem.W.instObj C s.heap.objs.size):=by
  have:=Heap.get?_push_size (s.heap.push PySem.W.emptyDict) (o:=PySem.W.instObj C s.heap.objs.size) rfl
  rwa[Heap.size_push]at this
 have e3:(s.heap.push PySem.W.emptyDict).Ns s.heap.objs.size (λ_=>none):=⟨PySem.W.emptyDict, #[],_,e1,rfl,(λe he=>absurd he (by simp)),λ_=>rfl⟩
 have I1:=I.laid (a:=s.heap.objs.size) (o:=.own (s.heap.objs.size+1)) (h':=s.heap.push PySem.W.emptyDict) (t':=s.toks) (λb u q=>Heap.get?_push_of_some _ q) (Nat.le_refl _) ⟨_,e1⟩
 refine I1.laid (a:=s.heap.objs.size+1) (o:=.ins C s.heap.objs.size []) (t':=s.toks) (λb u q=>Heap.get?_push_of_some _ q) (Nat.le_of_eq (Heap.size_push _ _)) ?_
 have ne:s.heap.objs.size≠s.heap.objs.size+1:=Nat.ne_of_lt (Nat.lt_succ_self _)
 refine⟨by rw[upd_ne ne,upd_same],Nat.zero_le _,ne,e2,λ_=>none,(Heap.Ns1.of_empty e3).at λo q=>Heap.get?_push_of_some _ q,λ_=>True.intro,λy hy=>absurd rfl hy⟩
theorem attr_of {prog:Program}{w:World}{env:Env}{e:Expr}{f:Str}{pos:Pos}{s:Shared}{Q:Value->Shared->Prop}(hb:attributeBase e f env (eval e env)=eval e env)
  (h:wpAny (model prog w) A (eval e env) (λo s₁=>wpAny (model prog w) A (getAttr o f true) Q E s₁) E s):wpAny (model prog w) A (eval (.Attribute e f pos) env) Q E s:=
 Attribute_any_ h (by rw[arm_eval_Attribute,hb])
end
def tFld (K:Fg)(ta:TE)(f:Str):TE:=λZ H Q=>ta Z H λx H1=>∃a C dx fs v,x=.ref a/\H1 a=some (.ins C dx fs)/\Cls K C/\NoAttr K C f/\fs.lookup f=some v/\Q v H1
def sFld (K:Fg)(ta tv:TE)(f:Str):TS:=λD Z H=>tv Z H λy H1=>ta Z H1 λx H2=>∃a C dx fs,x=.ref a/\H2 a=some (.ins C dx fs)/\Cls K C/\NoAttr K C f/\fs.length<1000/\
 D.nx Z (upd H2 a (.ins C dx (putF f y fs)))
section
variable {X:Cx}{o e value:Expr}{f:Str}{pos pos' tpos:Pos}{ta tv:TE}
theorem pe_fld (he:PE X e ta)(hb:attributeBase e f X.env (eval e X.env)=eval e X.env):PE X (.Attribute e f pos) (tFld X.K ta f):=by
 intro pins s Z H Q I h
 refine attr_of hb (thn (he pins s Z H _ I h) λu s1 ⟨x,H1,I1,rx,a,C,dx,fs,v,ex,ea,c,n,l,q⟩=>?_)
 subst ex
 obtain rfl:u=Value.ref a:=rx
 exact getattr_ok I1 ea c n l λu' s2 I2 ru=>⟨v,H1,I2,ru,q⟩
theorem ps_fld (ha:PE X o ta)(hv:PE X value tv)(hs:swapsWith value (some (.Attribute o f pos')) pos.line X.env=pure false):PS X (.Assign [.Attribute o f pos'] value pos) (sFld X.K ta tv f):=by
 intro pins s Z H D I h
 refine plainObj_wpAny_Assign_Attribute (thn (hv pins s Z H _ I h) λu s1 ⟨y,H1,I1,ry,q⟩=>thn (ha pins s1 Z H1 _ I1 q) λov s2 ⟨x,H2,I2,rx,a,C,dx,fs,ex,ea,c,n,l,q2⟩=>?_) hs
 subst ex
 obtain rfl:ov=Value.ref a:=rx
 exact setattr_ok I2 ea c n l ry λs3 I3=>⟨Z,_,I3,q2⟩
end
section
variable {X:Cx}{pins:List (Addr×Obj)}{Z:St}{H:Hp}{s:Shared}{A:Around}{E:Value->Shared->Prop}{Q:Value->Shared->Prop}{c:Value}{b:Bool}
end
end L2
namespace L2
open PySem PySem.Spec PyProof.Rows
structure Room (k:Nat)(A:Around):Prop where
 hd:A.handled=none
 dp:A.depth+3*k+5<recursionLimit
 un:A.units+16*k+200<cLine
theorem Room.mono {j k:Nat}{A:Around}(r:Room k A)(h:j<=k):Room j A:=⟨r.hd,by have:=r.dp;omega,by have:=r.un;omega⟩
theorem Room.deeper {k:Nat}{A:Around}(r:Room (k+1) A)(env:Env):Room k (A.deeper env):=
 ⟨r.hd,by have:=r.dp;show A.depth+1+3*k+5<_;omega,by have:=r.un;show A.units+3+16*k+200<_;omega⟩
theorem make_depth {A:Around}{C:Addr}{us:List Value}{kw:List (Str×Value)}:(A.under (.builtin "type.__call__" ⟨.ref C::us,kw⟩)).depth=A.depth+1:=by
 first|rfl|simp[Around.under,Code.weight,Code.isCreation,Code.isGuard,Code.isCaller,Code.frames,Code.isFrame,guardIds]
theorem make_units {A:Around}{C:Addr}{us:List Value}{kw:List (Str×Value)}:(A.under (.builtin "type.__call__" ⟨.ref C::us,kw⟩)).units=A.units+1:=by
 first|rfl|simp[Around.under,Code.cUnits,Code.frames,Code.isFrame]
theorem Room.make {k:Nat}{A:Around}(r:Room (k+1) A)(C:Addr)(us:List Value)(kw:List (Str×Value)):Room k (A.under (.builtin "type.__call__" ⟨.ref C::us,kw⟩)):=
 ⟨r.hd,by have:=r.dp;rw[make_depth];omega,by have:=r.un;rw[make_units];omega⟩
theorem Room.depth {k:Nat}{A:Around}(r:Room k A):A.depth<recursionLimit:=by have:=r.dp;omega
theorem Room.units {k:Nat}{A:Around}(r:Room k A):A.units+64<cLine:=by have:=r.un;omega
def tNil:TA:=λ_ H Q=>Q [] H
def tCons (ta:TE)(tr:TA):TA:=λZ H Q=>ta Z H λx H1=>tr Z H1 λxs H2=>Q (x::xs) H2
section
variable {X:Cx}{e:Expr}{es:List Expr}{te:TE}{t:TA}{pos:Pos}
theorem pa_nil:PA X [] tNil:=λ_ _ _ _ H Q I h=>Calls.spliced_nil ⟨[],H,I,.nil,h⟩
theorem pa_cons (ha:PE X e te)(hr:PA X es t)(hs:starEach (e::es) X.env=(false,eval e X.env)::starEach es X.env:=by rfl):PA X (e::es) (tCons te t):=by
 intro pos pins s Z H Q I h
 rw[hs]
 show wpAny _ _ (spliced ((false,eval e X.env)::backTo pos (starEach es X.env))) _ _ s
 refine Calls.spliced_cons (thn (ha pins s Z H _ I h) λu s1 ⟨x,H1,I1,r1,q1⟩=>?_)
 exact thn (hr pos pins s1 Z H1 _ I1 q1) λus s2 ⟨xs,H2,I2,r2,q2⟩=>⟨x::xs,H2,I2,.cons r1 r2,q2⟩
def tTup (t:TA):TE:=λZ H Q=>t Z H λxs H1=>xs.length<=sizeLine/\∀p,H1 p=none->Q (.ref p) (upd H1 p (.tup xs))
def tLst (t:TA):TE:=λZ H Q=>t Z H λxs H1=>xs.length<=sizeLine/\∀p,H1 p=none->Q (.ref p) (upd H1 p (.lst xs))
theorem pe_tup {x1}(h:PA X es t):PE X (.Tuple es x1 pos) (tTup t):=by
 intro pins s Z H Q I hq
 refine wpAny_Tuple_spliced (thn (h pos pins s Z H _ I hq) λus s1 ⟨xs,H1,I1,r,z,q⟩=>⟨by rw[<-r.length];exact z,?_⟩)
 have hf:H1 s1.heap.objs.size=none:=I1.hok.fresh (Nat.le_refl _)
 refine⟨.ref s1.heap.objs.size,upd H1 s1.heap.objs.size (.tup xs),I1.laid (t':=s1.toks) (λb u e=>Heap.get?_push_of_some _ e) (Nat.le_refl _) ?_,rfl,q _ hf⟩
 exact⟨z,us,r,⟨_,Heap.get?_push_size _ rfl,rfl,_,rfl⟩⟩
theorem pe_lst (h:PA X es t):PE X (.List es pos) (tLst t):=by
 intro pins s Z H Q I hq
 refine wpAny_List_spliced (thn (h pos pins s Z H _ I hq) λus s1 ⟨xs,H1,I1,r,z,q⟩=>⟨by rw[<-r.length];exact z,?_⟩)
 have hf:H1 s1.heap.objs.size=none:=I1.hok.fresh (Nat.le_refl _)
 refine⟨.ref s1.heap.objs.size,upd H1 s1.heap.objs.size (.lst xs),I1.laid (t':=s1.toks) (λb u e=>Heap.get?_push_of_some _ e) (Nat.le_refl _) ?_,rfl,q _ hf⟩
 exact⟨z,us,0,r,Heap.get?_push_size _ rfl⟩
end
abbrev Sp:=List V->Hp->VK->XK->Prop
abbrev CXT:=List Env->Hp->Shared->XK->Value->Shared->Prop
structure Env0 (P:Program)(w:World)(K:Fg)(mg:Str->Option Value)(base:Heap)(A:Around)(outer:List Env)(s:Shared)(H:Hp):Prop where
 frames:A.frames=some outer
 mod:Mod K mg base
 bs:∀b o,base.get? b=some o->s.heap.get? b=some o/\H b=none
 bsz:base.objs.size<=s.heap.objs.size
 funs:s.heap.FunFrames base outer
 frf:∀b∈frs outer,H b=none
 hok:HOk P w H s.heap
 bare:AllBare s.gens
def CE (outer:List Env)(P:Program)(w:World)(H:Hp)(s:Shared)(Q:VK)(u:Value)(s':Shared):Prop:=
 ∃v H',s'.os=s.os/\AllBare s'.gens/\Un (frs outer) [] H H' s.heap s'.heap/\HOk P w H' s'.heap/\RelV v u/\Q v H'
def CR (CX:CXT)(outer:List Env)(P:Program)(w:World)(H:Hp)(s:Shared)(Q:VK)(E:XK)(r:Result)(s':Shared):Prop:=
 match r with
 |.ok (.ret u)=>CE outer P w H s Q u s'
 |.ok _=>False
 |.error e=>CX outer H s E e s'
structure FnOk (P:Program)(w:World)(K:Fg)(mg:Str->Option Value)(base:Heap)(CX:CXT)(k:Nat)(f:Addr)(fd:FuncData)(ps:List Str)(sp:Sp):Prop where
 len:∀vs H Q E,sp vs H Q E->vs.length=ps.length
 run:∀(A:Around) (outer:List Env) (s:Shared) (H:Hp) (args:Args) (us:List Value) (vs:List V) (Q:VK) (E:XK),Room k A->Env0 P w K mg base A outer s H->BindsTo s fd args (ps.zip us)->Vals vs us->sp vs H Q E->
  codeAny (model P w) A (.call (.ref f) args) (CR CX outer P w H s Q E) s
theorem FnOk.mono {P:Program}{w:World}{K:Fg}{mg:Str->Option Value}{base:Heap}{CX:CXT}{j k:Nat}{f:Addr}{fd:FuncData}{ps:List Str}{sp:Sp}(F:FnOk P w K mg base CX j f fd ps sp)(h:j<=k):
  FnOk P w K mg base CX k f fd ps sp:=⟨F.len,λA outer s H args us vs Q E hr=>F.run A outer s H args us vs Q E (hr.mono h)⟩
theorem FnOk.imp {P:Program}{w:World}{K:Fg}{mg:Str->Option Value}{base:Heap}{CX:CXT}{k:Nat}{f:Addr}{fd:FuncData}{ps:List Str}{sp sp':Sp}(F:FnOk P w K mg base CX k f fd ps sp)
  (h:∀vs H Q E,sp' vs H Q E->sp vs H Q E):FnOk P w K mg base CX k f fd ps sp':=
 ⟨λvs H Q E q=>F.len vs H Q E (h _ _ _ _ q),λA outer s H args us vs Q E hr he hb hv hs=>F.run A outer s H args us vs Q E hr he hb hv (h _ _ _ _ hs)⟩
theorem Env0.make {P:Program}{w:World}{K:Fg}{mg:Str->Option Value}{base:Heap}{A:Around}{outer:List Env}{s:Shared}{H:Hp}(e:Env0 P w K mg base A outer s H)(C:Addr)(us:List Value)(kw:List (Str×Value)):
  Env0 P w K mg base (A.under (.builtin "type.__call__" ⟨.ref C::us,kw⟩)) outer s H:=⟨by first|exact e.frames|(simpa[Around.under,Code.envs,Code.isFrame,pushEnvs]using e.frames),e.mod,e.bs,e.bsz,e.funs,e.frf,e.hok,e.bare⟩
section
variable {X:Cx}{pins:List (Addr×Obj)}{Z:St}{H:Hp}{s s':Shared}
theorem Inv.env0 (I:Inv X pins Z H s):Env0 X.prog X.w X.K X.mg X.base X.A X.stack s H:=
 ⟨I.ok.frames,I.ok.mod,I.bs,Nat.le_trans I.ok.bsz I.sz,I.stack,I.stkFree,I.hok,I.bare⟩
theorem Inv.after {Q:VK}{u:Value}(I:Inv X pins Z H s)(h:CE X.stack X.prog X.w H s Q u s'):EP X pins Z Q u s':=by
 obtain⟨v,H',os,bare,un,hok,r,q⟩:=h
 obtain⟨hh,g,d,t,os'⟩:=s'
 obtain rfl:os'=s.os:=os
 exact⟨v,H',I.call (h':=hh) (g':=g) (d':=d) (t':=t) (ch:=[]) un hok bare (λb z=>absurd z (by simp)),r,q⟩
end
def tCall (sp:Sp)(dvs:List V)(E:XK)(t:TA):TE:=λZ H Q=>t Z H λvs H1=>sp (vs++dvs) H1 Q E
def tMeth (C:Addr)(m:Str)(sp:Sp)(dvs:List V)(E:XK)(ta:TE)(t:TA):TE:=λZ H Q=>ta Z H λx H1=>∃a dx fs,x=.ref a/\H1 a=some (.ins C dx fs)/\fs.lookup m=none/\
 t Z H1 λvs H2=>sp (x::(vs++dvs)) H2 Q E
def tMake (C:Addr)(sp:Sp)(dvs:List V)(E:XK)(t:TA):TE:=λZ H Q=>t Z H λvs H1=>∀x dx,H1 x=none->H1 dx=none->dx≠x->
 sp (.ref x::(vs++dvs)) (upd (upd H1 dx (.own x)) x (.ins C dx [])) (λv H2=>v=.non/\Q (.ref x) H2) E
def Binds (K:Fg)(fd:FuncData)(ps:List Str)(ds:List Value):Prop:=
 ∀(s:Shared) (us:List Value),K.In s.heap->(us++ds).length=ps.length->BindsTo s fd ⟨us,[]⟩ (ps.zip (us++ds))
theorem Binds.all {K:Fg}{fd:FuncData}{ps:List Str}(h:∀us:List Value,us.length=ps.length->bindArgs fd ⟨us,[]⟩=pure (ps.zip us)):Binds K fd ps []:=λs us _ hl=>by
 rw[List.append_nil]at hl⊢
 exact .of_eq (h us hl)
def Passes (CX:CXT)(X:Cx)(E:XK):Prop:=∀(pins:List (Addr×Obj)) (Z:St) (H:Hp) (s:Shared) (e:Value) (s':Shared),Inv X pins Z H s->CX X.stack H s E e s'->X.xe e s'
section
variable {X:Cx}{CX:CXT}{k:Nat}{f C:Addr}{fd:FuncData}{ps:List Str}{sp:Sp}{dvs:List V}{ds:List Value}{E:XK}{x m:Str}{p pos apos:Pos}{e o:Expr}{es:List Expr}{ta:TE}{t:TA}
theorem run_fn {pins:List (Addr×Obj)}{Z:St}{H:Hp}{s:Shared}{Q:VK}{us:List Value}{vs:List V}(F:FnOk X.prog X.w X.K X.mg X.base CX k f fd ps sp)(hr:Room k X.A)(hb:Binds X.K fd ps ds)(hd:Vals dvs ds)(hx:Passes CX X E)
  (I:Inv X pins Z H s) (r:Vals vs us) (h:sp (vs++dvs) H Q E):wpAny (model X.prog X.w) X.A (call (.ref f) us) (EP X pins Z Q) X.xe s:=by
 have r2:Vals (vs++dvs) (us++ds):=r.append hd
 have hl:(us++ds).length=ps.length:=by rw[<-r2.length];exact F.len _ _ _ _ h
 refine wpAny_call (codeAny_mono (F.run X.A X.stack s H ⟨us,[]⟩ (us++ds) (vs++dvs) Q E hr I.env0 (hb s us I.kIn hl) r2 h) λr s' hq=>?_)
 cases r with
 |error e=>exact hx pins Z H s e s' I hq
 |ok fl=>
  cases fl with
  |ret u=>exact I.after hq
  |next=>exact False.elim hq
  |brk=>exact False.elim hq
  |cont=>exact False.elim hq
theorem pe_call (F:FnOk X.prog X.w X.K X.mg X.base CX k f fd ps sp)(hr:Room k X.A)(hg:Gl X x)(hm:X.mg x=some (.ref f))(hk:PySem.W.keepIn X.K (.ref f)=true)(hb:Binds X.K fd ps ds)(hd:Vals dvs ds)(hx:Passes CX X E)
  (ha:PA X (e::es) t) (hdb:(x==("__debug__":Str))=false:=by decide) (he:starEach (e::es) X.env=(false,eval e X.env)::starEach es X.env:=by rfl) (hpl:(backTo pos (starEach es X.env)).any (·.1)=false:=by rfl):
  PE X (.Call (.Name x p) (e::es) [] pos) (tCall sp dvs E t):=by
 intro pins s Z H Q I h
 refine wpAny_Call_Name_kw (ld_glob I hg hm ?_ hdb)
 refine PySem.W.callWith_K (h₀:=X.base) I.ok.mod.kin hk (thn (ha pos pins s Z H _ I h) λus s1 ⟨vs,H1,I1,r,q⟩=>⟨I1.kIn,?_⟩) he hpl
 exact run_fn F hr hb hd hx I1 r q
theorem pe_meth {pl:Sem Bool}(he:PE X o ta)(c:Cls X.K C)(hm:Meth X.K C m f)(F:FnOk X.prog X.w X.K X.mg X.base CX k f fd ps sp)(hr:Room k X.A)(hb:Binds X.K fd ps ds)(hd:Vals dvs ds)(hx:Passes CX X E)(ha:PA X (e::es) t)
  (hst:starEach (e::es) X.env=(false,eval e X.env)::starEach es X.env:=by rfl) (hpl:(backTo pos (starEach es X.env)).any (·.1)=false:=by rfl)
  (ht:eval (.Call (.Attribute o m apos) (e::es) [] pos) X.env=(do
   let ov<-eval o X.env
   standAt apos.atName
   let(f,first)<-holding [ov] (getMethod ov m pl)
   callWith pos f first (backTo pos (starEach (e::es) X.env)) (backToKw pos (keywordEach [] X.env))):=by rfl):
  PE X (.Call (.Attribute o m apos) (e::es) [] pos) (tMeth C m sp dvs E ta t):=by
 intro pins s Z H Q I h
 refine PySem.W.methodCall_KW (pl:=pl) (thn (he pins s Z H _ I h) λu s1 ⟨x,H1,I1,rx,a,dx,fs,ex,ea,l,q⟩=>?_) ht
 subst ex
 obtain rfl:u=Value.ref a:=rx
 refine getmeth_ok I1 ea c hm l ?_
 refine PySem.W.callWith_K (first:=[.ref a]) (h₀:=X.base) I.ok.mod.kin hm.kp (thn (ha pos pins s1 Z H1 _ I1 q) λus s2 ⟨vs,H2,I2,r,q2⟩=>⟨I2.kIn,?_⟩) hst hpl
 exact run_fn (us:=.ref a::us) (vs:=.ref a::vs) F hr hb hd hx I2 (.cons rfl r) q2
theorem pe_meth0 {pl:Sem Bool}(he:PE X o ta)(c:Cls X.K C)(hm:Meth X.K C m f)(F:FnOk X.prog X.w X.K X.mg X.base CX k f fd ps sp)(hr:Room k X.A)(hb:Binds X.K fd ps ds)(hd:Vals dvs ds)(hx:Passes CX X E)
  (ht:eval (.Call (.Attribute o m apos) [] [] pos) X.env=(do
   let ov<-eval o X.env
   standAt apos.atName
   let(f,first)<-holding [ov] (getMethod ov m pl)
   callWith pos f first (backTo pos (starEach [] X.env)) (backToKw pos (keywordEach [] X.env))):=by rfl):
  PE X (.Call (.Attribute o m apos) [] [] pos) (tMeth C m sp dvs E ta tNil):=by
 intro pins s Z H Q I h
 refine PySem.W.methodCall_KW (pl:=pl) (thn (he pins s Z H _ I h) λu s1 ⟨x,H1,I1,rx,a,dx,fs,ex,ea,l,q⟩=>?_) ht
 subst ex
 obtain rfl:u=Value.ref a:=rx
 refine getmeth_ok I1 ea c hm l ?_
 exact PySem.W.callWith_K0 (first:=[.ref a]) I1.kIn hm.kp (run_fn (us:=[.ref a]) (vs:=[.ref a]) F hr hb hd hx I1 (.cons rfl .nil) q)
structure Mk (K:Fg)(C f:Addr):Prop where
 makes:PySem.W.makesIn K C=true
 init:PySem.W.findIn K (.ref C) "__init__"=some (some (.ref f))
 fn:PySem.W.isFn K (.ref f)=true
 kp:PySem.W.keepIn K (.ref C)=true
theorem run_make {pins:List (Addr×Obj)}{Z:St}{H:Hp}{s:Shared}{Q:VK}{us:List Value}{vs:List V}(M:Mk X.K C f)(F:FnOk X.prog X.w X.K X.mg X.base CX k f fd ps sp)(hr:Room (k+1) X.A)(hb:Binds X.K fd ps ds)(hd:Vals dvs ds)
  (hx:Passes CX X E) (I:Inv X pins Z H s) (r:Vals vs us)
  (h:∀x dx,H x=none->H dx=none->dx≠x->sp (.ref x::(vs++dvs)) (upd (upd H dx (.own x)) x (.ins C dx [])) (λv H2=>v=.non/\Q (.ref x) H2) E):
  wpAny (model X.prog X.w) X.A (call (.ref C) us) (EP X pins Z Q) X.xe s:=by
 have hq:=h (s.heap.objs.size+1) s.heap.objs.size (I.hok.fresh (Nat.le_succ _)) (I.hok.fresh (Nat.le_refl _)) (Nat.ne_of_lt (Nat.lt_succ_self _))
 have I2:=Inv.made (C:=C) I
 have r2:Vals (V.ref (s.heap.objs.size+1)::(vs++dvs)) (Value.ref (s.heap.objs.size+1)::(us++ds)):=.cons rfl (r.append hd)
 have hl:(Value.ref (s.heap.objs.size+1)::us++ds).length=ps.length:=by
  have e:=r2.length
  rw[F.len _ _ _ _ hq]at e
  exact e.symm
 refine wpAny_call (make_map (f:=f) I.kIn M.makes M.init (beq_iff_eq.mp M.fn) (codeAny_mono (F.run _ X.stack _ _ ⟨Value.ref (s.heap.objs.size+1)::us,[]⟩ (Value.ref (s.heap.objs.size+1)::(us++ds)) _ _ E (hr.make C us [])
  (I2.env0.make C us []) (hb _ (Value.ref (s.heap.objs.size+1)::us) I2.kIn hl) r2 hq) λr s' hq'=>?_))
 cases r with
 |error e=>exact hx pins Z _ _ e s' I2 hq'
 |ok fl=>
  cases fl with
  |ret u=>
   obtain⟨v,H',I3,rv,ev,q3⟩:=I2.after hq'
   subst ev
   exact⟨rv,⟨V.ref (s.heap.objs.size+1),H',I3,rfl,q3⟩⟩
  |next=>exact False.elim hq'
  |brk=>exact False.elim hq'
  |cont=>exact False.elim hq'
theorem pe_make (M:Mk X.K C f)(F:FnOk X.prog X.w X.K X.mg X.base CX k f fd ps sp)(hr:Room (k+1) X.A)(hg:Gl X x)(hm:X.mg x=some (.ref C))(hb:Binds X.K fd ps ds)(hd:Vals dvs ds)(hx:Passes CX X E)
  (ha:PA X (e::es) t) (hdb:(x==("__debug__":Str))=false:=by decide) (he:starEach (e::es) X.env=(false,eval e X.env)::starEach es X.env:=by rfl) (hpl:(backTo pos (starEach es X.env)).any (·.1)=false:=by rfl):
  PE X (.Call (.Name x p) (e::es) [] pos) (tMake C sp dvs E t):=by
 intro pins s Z H Q I h
 refine wpAny_Call_Name_kw (ld_glob I hg hm ?_ hdb)
 refine PySem.W.callWith_K (h₀:=X.base) I.ok.mod.kin M.kp (thn (ha pos pins s Z H _ I h) λus s1 ⟨vs,H1,I1,r,q⟩=>⟨I1.kIn,?_⟩) he hpl
 exact run_make M F hr hb hd hx I1 r q
theorem pe_make0 (M:Mk X.K C f)(F:FnOk X.prog X.w X.K X.mg X.base CX k f fd ps sp)(hr:Room (k+1) X.A)(hg:Gl X x)(hm:X.mg x=some (.ref C))(hb:Binds X.K fd ps ds)(hd:Vals dvs ds)(hx:Passes CX X E)
  (hdb:(x==("__debug__":Str))=false:=by decide):PE X (.Call (.Name x p) [] [] pos) (tMake C sp dvs E tNil):=by
 intro pins s Z H Q I h
 refine wpAny_Call_Name_kw (ld_glob I hg hm ?_ hdb)
 exact PySem.W.callWith_K0 I.kIn M.kp (run_make (us:=[]) M F hr hb hd hx I .nil h)
end
section
variable {X:Cx}{CX:CXT}{k:Nat}{f C:Addr}{fd:FuncData}{ps ks:List Str}{sp:Sp}{E:XK}{x m:Str}{p pos apos kpos:Pos}{e o:Expr}{es:List Expr}{kws:List Keyword}{te ta:TE}{t tk:TA}{nm:Option Str}
variable {g:List Value->List Value->List Value}{gV:List V->List V->List V}
end
structure FnScope (N P:List Str)(sc:Scope):Prop where
 kind:sc.kind=.function
 co:sc.isCoroutine=false
 gen:sc.isGenerator=false
 nd:N.Nodup
 pre:N.take P.length=P
 par:∀x∈P,sc.names.lookup x=some .local\/sc.names.lookup x=some .cell
 nofree:∀y∈sc.names,y.2≠ .free
theorem fs {N P:List Str}{sc:Scope}(a:sc.kind=.function:=by rfl)(b:sc.isCoroutine=false:=by rfl)(c:sc.isGenerator=false:=by rfl)(d:N.Nodup:=by decide+kernel)(e:N.take P.length=P:=by rfl)(f:∀x∈P,sc.names.lookup x=some .local\/sc.names.lookup x=some .cell:=by decide+kernel)(g:∀y∈sc.names,y.2≠.free:=by decide+kernel):FnScope N P sc:=⟨a,b,c,d,e,f,g⟩
theorem bindL_out {kindOf:Str->Option NameKind}{x:Str}:∀{binds:List (Str×Value)} {m:Str->Option Value},(∀v,(x,v)∉binds)->bindL kindOf binds m x=m x
 |[],_,_=>rfl
 |(n,v)::r,m,h=>by
  unfold bindL
  rw[bindL_out λw hw=>h w (List.mem_cons_of_mem _ hw)]
  split
  ·have:x≠n:=by rintro rfl;exact h v List.mem_cons_self
   simp[this]
  ·rfl
theorem bindC_out {kindOf:Str->Option NameKind}{x:Str}:∀{binds:List (Str×Value)} {m:Str->Option Value},(∀v,(x,v)∉binds)->bindC kindOf binds m x=m x
 |[],_,_=>rfl
 |(n,v)::r,m,h=>by
  unfold bindC
  rw[bindC_out λw hw=>h w (List.mem_cons_of_mem _ hw)]
  split
  ·rfl
  ·have:x≠n:=by rintro rfl;exact h v List.mem_cons_self
   simp[this]
theorem bindL_get {kindOf:Str->Option NameKind}{x:Str}{v:Value}:∀{P:List Str} {vs:List Value} {i:Nat} {m:Str->Option Value},P.Nodup->P[i]?=some x->vs[i]?=some v->kindOf x=some .local->
  bindL kindOf (P.zip vs) m x=some v
 |[],_,_,_,_,h,_,_=>by simp at h
 |_::_,[],_,_,_,_,h,_=>by simp at h
 |p::P,w::vs,0,m,nd,h1,h2,hk=>by
  simp at h1 h2;subst h1;subst h2
  show bindL kindOf ((p,w)::P.zip vs) m p=_
  unfold bindL
  rw[bindL_out λv hv=>(List.nodup_cons.mp nd).1 (List.of_mem_zip hv).1,if_pos hk]
  simp
 |p::P,w::vs,i+1,m,nd,h1,h2,hk=>by
  show bindL kindOf ((p,w)::P.zip vs) m x=_
  unfold bindL
  exact bindL_get (i:=i) (List.nodup_cons.mp nd).2 (by simpa using h1) (by simpa using h2) hk
theorem bindC_get {kindOf:Str->Option NameKind}{x:Str}{v:Value}:∀{P:List Str} {vs:List Value} {i:Nat} {m:Str->Option Value},P.Nodup->P[i]?=some x->vs[i]?=some v->kindOf x≠some .local->
  bindC kindOf (P.zip vs) m x=some v
 |[],_,_,_,_,h,_,_=>by simp at h
 |_::_,[],_,_,_,_,h,_=>by simp at h
 |p::P,w::vs,0,m,nd,h1,h2,hk=>by
  simp at h1 h2;subst h1;subst h2
  show bindC kindOf ((p,w)::P.zip vs) m p=_
  unfold bindC
  rw[bindC_out λv hv=>(List.nodup_cons.mp nd).1 (List.of_mem_zip hv).1,if_neg hk]
  simp
 |p::P,w::vs,i+1,m,nd,h1,h2,hk=>by
  show bindC kindOf ((p,w)::P.zip vs) m x=_
  unfold bindC
  exact bindC_get (i:=i) (List.nodup_cons.mp nd).2 (by simpa using h1) (by simpa using h2) hk
def start (N:List Str)(vs:List V):St:=vs.map some++List.replicate (N.length-vs.length) none
def cxOf (CX:CXT)(P:Program)(w:World)(K:Fg)(mg:Str->Option Value)(base:Heap)(N:List Str)(qual:Str)(scope:Scope)(f:Addr)(cd:Value)(A:Around)(outer:List Env)(s:Shared)(H:Hp)(E:XK):Cx where
 prog:=P
 w:=w
 K:=K
 mg:=mg
 base:=base
 A:=A.deeper (envOfC qual scope s.heap.objs.size f cd)
 N:=N
 s_0:=s
 H_0:=H
 env:=envOfC qual scope s.heap.objs.size f cd
 outer:=outer
 stack:=envOfC qual scope s.heap.objs.size f cd::outer
 ex:=[]
 calm:=true
 fn:=λ_=>true
 pn:=[]
 xe:=λe s'=>wpAny (model P w) (A.deeper (envOfC qual scope s.heap.objs.size f cd)) (leaving (envOfC qual scope s.heap.objs.size f cd) e) (λ_ s''=>CX outer H s E e s'') (λe' s''=>CX outer H s E e' s'') s'
theorem cell_has {sc:Scope}{n:Nat}{x:Str}(h:sc.names.lookup x=some .cell):∃c,(cellsFrom n sc.names []).lookup x=some c:=by
 have q:=PySem.W.cellsFrom_some sc.names n [] (.inl h)
 exact Option.isSome_iff_exists.mp q
theorem inv_start {CX:CXT}{P:Program}{w:World}{K:Fg}{mg:Str->Option Value}{base:Heap}{N ps:List Str}{qual:Str}{scope:Scope}{f:Addr}{cd:Value}{A:Around}{outer:List Env}{s s1:Shared}{H:Hp}{E:XK}{us:List Value}{vs:List V}
  (S:FnScope N ps scope) (hd:A.handled=none) (e0:Env0 P w K mg base A outer s H) (hl:vs.length=ps.length) (r:Vals vs us)
  (x:InCallC s s.heap.objs.size (bindL (envOfC qual scope s.heap.objs.size f cd).kindOf (ps.zip us) λ_=>none) (cellsFrom (s.heap.objs.size+1) scope.names []) (bindC (envOfC qual scope s.heap.objs.size f cd).kindOf (ps.zip us) λ_=>none) s1):
  Inv (cxOf CX P w K mg base N qual scope f cd A outer s H E) [] (start N vs) H s1:=by
 have hpl:ps.length<=N.length:=by have:=congrArg List.length S.pre;rw[List.length_take]at this;omega
 obtain⟨h1,tk,rfl,hk⟩:=x.done
 have noA:∀b:Addr,b∉(cxOf CX P w K mg base N qual scope f cd A outer s H E).ex:=λb z=>absurd (show b∈([]:List Addr)from z) (by simp)
 refine⟨⟨e0.mod,S.kind,rfl,rfl,Nat.le_refl _,λy z c h1 h2=>?_,λy hy=>?_,λy c _ h=>?_,λ_=>hd,Around.frames_deeper e0.frames,.inr ⟨rfl,rfl⟩,λb z=>absurd z (noA b),e0.bs,e0.bsz,λb _ _=>noA b,λb z=>absurd z (noA b),e0.funs,e0.frf⟩,
  rfl,e0.bare,Un.kept hk,⟨_,x.toInCall.ns,λi y v h1 h2 h3=>?_⟩,λy c h=>⟨_,x.cell y c h⟩,e0.hok.fresh (Nat.le_refl _),λy c h=>?_,λp hp=>absurd (show p∈([]:List (Addr×Obj))from hp) (by simp),e0.hok.kept hk,?_⟩
 ·exact name_of_addr x.apart (PySem.mem_of_lookup h1) (PySem.mem_of_lookup h2)
 ·have hy:scope.names.lookup y=some .cell\/scope.names.lookup y=some .free:=hy
  rcases hy with hy|hy
  ·exact cell_has hy
  ·exact absurd rfl (S.nofree _ (PySem.mem_of_lookup hy))
 ·exact Nat.le_of_lt (x.above y c (PySem.mem_of_lookup h))
 ·have hi:i<vs.length:=by
   unfold start at h2
   by_cases hi:i<vs.length
   ·exact hi
   ·rw[List.getElem?_append_right (by simpa using hi)]at h2
    rw[List.getElem?_replicate]at h2
    split at h2<;>cases h2
  have ha:vs[i]?=some v:=by
   unfold start at h2
   rw[List.getElem?_append_left (by simpa using hi),List.getElem?_map]at h2
   cases e:vs[i]? with
   |none=>rw[e]at h2;cases h2
   |some a=>rw[e]at h2;cases h2;rfl
  obtain⟨u,hu,rv⟩:=r.get ha
  have hp:ps[i]?=some y:=by
   rw[<-S.pre,List.getElem?_take_of_lt (by omega)];exact h1
  have ndP:ps.Nodup:=by rw[<-S.pre];exact S.nd.sublist (List.take_sublist _ _)
  refine⟨u,rv,?_⟩
  rcases S.par y (List.mem_of_getElem? hp)with k|k
  ·exact .inl ⟨k,bindL_get ndP hp hu k⟩
  ·obtain⟨c,e⟩:=cell_has (n:=s.heap.objs.size+1) k
   refine .inr ⟨.inl k,c,e,?_⟩
   have q:=x.cell y c e
   rw[bindC_get ndP hp hu (by show scope.names.lookup y≠_;rw[k];decide)]at q
   exact q
 ·exact e0.hok.fresh (Nat.le_of_lt (x.above y c (PySem.mem_of_lookup h)))
 ·unfold start
  show _=N.length
  rw[List.length_append,List.length_map,List.length_replicate]
  omega
theorem fn_of {CX:CXT}{P:Program}{w:World}{K:Fg}{mg:Str->Option Value}{base:Heap}{k:Nat}{f:Addr}{name qual:Str}{params:Arguments}{body:List Stmt}{scope:Scope}{dV kV doc pm cdv ct oc:Value}{an od:Option Addr}
  {osl:Array (Option Value)} {N ps:List Str} {sp:Sp} (lk:K.lookup f=some ⟨oc,od,.func (PySem.W.fnOf name qual params body scope dV kV doc pm an cdv ct),osl⟩) (hcd:PySem.W.codeIn K cdv qual=true) (S:FnScope N ps scope)
  (len:∀vs H Q E,sp vs H Q E->vs.length=ps.length)
  (hbody:∀(A:Around) (outer:List Env) (s:Shared) (H:Hp) (vs:List V) (Q:VK) (E:XK),Room k (A.deeper (envOfC qual scope s.heap.objs.size f cdv))->sp vs H Q E->
   ∃t,PSs (cxOf CX P w K mg base N qual scope f cdv A outer s H E) body t/\t {nx:=λ_ H'=>Q .non H',rt:=Q} (start N vs) H):
  FnOk P w K mg base CX (k+1) f (PySem.W.fnOf name qual params body scope dV kV doc pm an cdv ct) ps sp:=by
 refine⟨len,λA outer s H args us vs Q E hr e0 hb r hsp=>?_⟩
 have hl:=len _ _ _ _ hsp
 have KX:K.In s.heap:=e0.mod.kin.keeps λb o e=>(e0.bs b o e).1
 have lim:s.heap.NoLimit:=e0.mod.nolimit.keeps λb o e=>(e0.bs b o e).1
 have hkind:∀y∈ps.zip us,scope.names.lookup y.1=some .local\/(scope.names.lookup y.1=some .cell/\((cellsFrom (s.heap.objs.size+1) scope.names []).lookup y.1).isSome=true):=λ⟨n,v⟩ hy=>by
  rcases S.par n (List.of_mem_zip hy).1 with q|q
  ·exact .inl q
  ·exact .inr ⟨q,PySem.W.cellsFrom_some _ _ _ (.inl q)⟩
 refine codeAny_call_function hr.depth (KX _ _ lk) rfl S.co S.gen rfl (PySem.W.codeRec_of KX hcd) (hb _ _ _ _ ?_)
 refine wpAny_newFunctionEnv_cells S.kind hkind λenv he s1 x=>?_
 subst he
 refine⟨lim.keeps x.toInCall.keep,codeAny_func ?_⟩
 obtain⟨t,ht,hq⟩:=hbody A outer s H vs Q E (hr.deeper _) hsp
 have I:Inv (cxOf CX P w K mg base N qual scope f cdv A outer s H E) [] (start N vs) H s1:=inv_start S hr.hd e0 hl r x
 refine wpAny_mono (ht [] s1 (start N vs) H _ I hq) (λfl s' hs=>?_) λe s' hs=>hs
 have fin:∀{Z':St} {H':Hp} {v:V} {u:Value},Inv (cxOf CX P w K mg base N qual scope f cdv A outer s H E) [] Z' H' s'->RelV v u->Q v H'->CE outer P w H s Q u s':=
  λ{Z' H' v u} J rv q=>⟨v,H',J.os,J.bare,J.base,J.hok,rv,q⟩
 cases fl with
 |ret u=>
  obtain⟨v,Z',H',J,rv,q⟩:=hs
  exact fin J rv q
 |next=>
  obtain⟨Z',H',J,q⟩:=hs
  exact fin (v:=V.non) (u:=Value.none) J rfl q
 |brk=>
  obtain⟨_,_,_,q⟩:=hs
  exact False.elim q
 |cont=>
  obtain⟨_,_,_,q⟩:=hs
  exact False.elim q
end L2
namespace L2
open PySem PySem.Spec PyProof.Rows
section
variable {X:Cx}{x:Str}{p pos:Pos}{e:Expr}{es:List Expr}{t:TA}{id T:String}{r:List V->Hp->VK->Prop}
def tCB (r:List V->Hp->VK->Prop)(t:TA):TE:=λZ H Q=>t Z H λvs H1=>r vs H1 Q
theorem pe_callB (hc:CallR X (.builtin id) r)(hg:Gl X x)(hm:X.mg x=none)(hv:bootBuiltins x=some (.builtin id))(ha:PA X (e::es) t)(hn:x≠"__name__":=by decide)(hdb:(x==("__debug__":Str))=false:=by decide)
  (he:starEach (e::es) X.env=(false,eval e X.env)::starEach es X.env:=by rfl) (hpl:(backTo pos (starEach es X.env)).any (·.1)=false:=by rfl):PE X (.Call (.Name x p) (e::es) [] pos) (tCB r t):=by
 intro pins s Z H Q I h
 refine wpAny_Call_Name_kw (ld_blt I hg hm hv ?_ hn hdb)
 exact PyProof.Rows.callWith_builtin1 (thn (ha pos pins s Z H _ I h) λus s1 ⟨vs,H1,I1,r1,q1⟩=>hc pins s1 Z H1 vs us Q I1 r1 q1) he hpl
theorem pe_callTy (hc:CallR X (.type T) r)(hg:Gl X x)(hm:X.mg x=none)(hv:bootBuiltins x=some (.type T))(ha:PA X (e::es) t)(hn:x≠"__name__":=by decide)(hdb:(x==("__debug__":Str))=false:=by decide)
  (he:starEach (e::es) X.env=(false,eval e X.env)::starEach es X.env:=by rfl) (hpl:(backTo pos (starEach es X.env)).any (·.1)=false:=by rfl):PE X (.Call (.Name x p) (e::es) [] pos) (tCB r t):=by
 intro pins s Z H Q I h
 refine wpAny_Call_Name_kw (ld_blt I hg hm hv ?_ hn hdb)
 exact PyProof.Rows.callWith_type1 (thn (ha pos pins s Z H _ I h) λus s1 ⟨vs,H1,I1,r1,q1⟩=>hc pins s1 Z H1 vs us Q I1 r1 q1) he hpl
end
end L2
namespace HT
open PySem PyProof.Rows
def lexLt:List Int->List Int->Bool
 |[],[]=>false
 |[],_::_=>true
 |_::_,[]=>false
 |x::xs,y::ys=>if x=y then lexLt xs ys else decide (x<y)
theorem lexLt_cons (x y:Int)(xs ys:List Int):lexLt (x::xs) (y::ys)=if x=y then lexLt xs ys else decide (x<y):=rfl
theorem lexLt_nil_nil:lexLt [] []=false:=rfl
theorem lexLt_nil_cons (y:Int)(ys:List Int):lexLt [] (y::ys)=true:=rfl
theorem lexLt_cons_nil (x:Int)(xs:List Int):lexLt (x::xs) []=false:=rfl
theorem eqAt_int (A:Around)(s:Shared)(a:Int)(t:Tok)(c:Int)(u:Tok):∃e,SeqAt.EqAt A s (.int a t) (.int c u) e/\(e=true<->a=c):=
 ⟨(a==c),SeqAt.EqAt.int_int a t c u,by simp⟩
theorem rcLt_int (A:Around)(s:Shared)(a:Int)(t:Tok)(c:Int)(u:Tok)(prog:Program)(w:World)(E:Value->Shared->Prop)(Q:Value->Shared->Prop)(h:Q (.bool (decide (a<c))) s):
  wpAny (model prog w) A (richCompare .Lt (.int a t) (.int c u)) Q E s:=
 (PyProof.Rows.lt_int h:wpAny (model prog w) A (compareOp .Lt (.int a t) (.int c u)) Q E s)
section
open PySem.SeqAt
open PySem.AutoSeq1 (wpAny_loadPart')
open PySem.MeetsSeq PySem.MeetsSeq2 PySem.MeetsSeq3
theorem tuple_lt_ints (l b:Addr)(items items2:Array Value)(n n2:Nat)(dd dd2:Option Addr)(sl sl2:Array (Option Value))(ns ms:List Int)(hi:IntsAre items.toList ns)(hj:IntsAre items2.toList ms):
  Meets (Builtin.«tuple.__lt__» ⟨[.ref l,.ref b],[]⟩)
   (λ_ R s=>s.heap.get? l=some {cls:=.type "tuple",dict:=dd,data:=.seq items n,slots:=sl}/\s.heap.get? b=some {cls:=.type "tuple",dict:=dd2,data:=.seq items2 n2,slots:=sl2}/\
    R (.ok (.ret (.bool (lexLt ns ms)))) s):=
 .of_wp λprog w A R s h=>by
  obtain⟨hp,g,d,tk,os⟩:=s;obtain⟨hl,hb,h⟩:=h
  have f2:=AutoSeq1.sub_tuple_tuple
  have z1:items.size=ns.length:=by rw[<-hi.length];simp
  have z2:items2.size=ms.length:=by rw[<-hj.length];simp
  wp_walk using wpAny_loadPart' hl,wpAny_loadPart' hb,wpAny_forIn_list _ (λrest b s'=>b.1=none/\s'=⟨hp,g,d,tk,os⟩/\∃(vs ws:List Value) (ns' ms':List Int),rest=vs.zip ws/\
   IntsAre vs ns'/\IntsAre ws ms'/\ns'.length+items2.size=ms'.length+items.size/\R (.ok (.ret (.bool (lexLt ns' ms')))) ⟨hp,g,d,tk,os⟩) _
  case turn=>
   rintro⟨y,x⟩ rest b s' ⟨hb',rfl,vs,ws,ns',ms',hz,hvi,hwi,hlen,hR⟩
   cases hvi with
   |nil=>rw[List.zip_nil_left]at hz;cases hz
   |cons a t hvi'=>
    cases hwi with
    |nil=>rw[List.zip_nil_right]at hz;cases hz
    |cons c u hwi'=>
     rw[List.zip_cons_cons]at hz
     injection hz with hyx hrest
     injection hyx with hy hx
     subst hy hx
     rw[lexLt_cons]at hR
     simp only[List.length_cons]at hlen
     obtain⟨e,he,hiff⟩:=eqAt_int A.in1 ⟨hp,g,d,tk,os⟩ a t c u
     refine wpAny_bind (he prog w _ _ ?_)
     cases e with
     |true=>
      rw[if_pos (hiff.mp rfl)]at hR
      wp_walk
      exact⟨rfl,rfl,_,_,_,_,hrest,hvi',hwi',by omega,hR⟩
     |false=>
      rw[if_neg (λq=>absurd (hiff.mpr q) Bool.false_ne_true)]at hR
      have hri:=rcLt_int A.in1 ⟨hp,g,d,tk,os⟩ a t c u prog w
      wp_walk using hri
      exact⟨_,rfl,by simpa using hR⟩
  case fin=>
   rintro⟨b1,b2⟩ s' ⟨hb',rfl,vs,ws,ns',ms',hz,hvi,hwi,hlen,hR⟩
   simp only at hb'
   subst hb'
   have hv:lexLt ns' ms'=decide (items.size<items2.size):=by
    cases hvi with
    |nil=>
     cases hwi with
     |nil=>
      simp only[List.length_nil]at hlen
      rw[lexLt_nil_nil]
      exact(decide_eq_false (by omega)).symm
     |cons c u hw=>
      simp only[List.length_nil,List.length_cons]at hlen
      rw[lexLt_nil_cons]
      exact(decide_eq_true (by omega)).symm
    |cons a t hv=>
     cases hwi with
     |nil=>
      simp only[List.length_nil,List.length_cons]at hlen
      rw[lexLt_cons_nil]
      exact(decide_eq_false (by omega)).symm
     |cons c u hw=>
      rw[List.zip_cons_cons]at hz
      cases hz
   rw[hv]at hR
   wp_walk
   exact⟨_,rfl,by simpa[Builtin.Tuple.tupleCompareSizes]using hR⟩
  case h=>
   exact⟨rfl,rfl,items.toList,items2.toList,ns,ms,rfl,hi,hj,by omega,h⟩
end
section
variable {prog:Program}{w:World}{A:Around}{E:Value->Shared->Prop}{s:Shared}
theorem lt_tupInts {l b:Addr}{items items2:Array Value}{ns ms:List Int}{Q:Value->Shared->Prop}(hl:IsTup s.heap l items)(hb:IsTup s.heap b items2)(hi:IntsAre items.toList ns)(hj:IntsAre items2.toList ms)
  (hu:A.units<cLine) (h:Q (.bool (lexLt ns ms)) s):wpAny (model prog w) A (compareOp .Lt (.ref l) (.ref b)) Q E s:=by
 obtain⟨⟨cls,dd,data,sl⟩,ho,hc,n,hd⟩:=id hl
 obtain⟨⟨cls2,dd2,data2,sl2⟩,ho2,hc2,n2,hd2⟩:=id hb
 simp only at hc hd hc2 hd2
 subst hc hd hc2 hd2
 exact richCompare_meets_room (op:=.Lt) ⟨_,ho,rfl⟩ ⟨_,ho2,rfl⟩ PySem.F.slot_tuple_lt PySem.F.entry_tuple_lt (PySem.F.args_tuple_lt_2 _ _) (tuple_lt_ints l b items items2 n n2 dd dd2 sl sl2 ns ms hi hj)
  ⟨ho,ho2,show Value.bool (lexLt ns ms)≠Value.notImplemented/\Q (.bool (lexLt ns ms)) s from⟨(λx=>nomatch x),h⟩⟩ hu
def sIx (n d:Nat):Option Int->Nat
 |none=>d
 |some v=>if v<0 then(v+(n:Int)).toNat else min v.toNat n
theorem sIx_nat (n d k:Nat):sIx n d (some (k:Int))=min k n:=by
 show(if(k:Int)<0 then((k:Int)+(n:Int)).toNat else min (k:Int).toNat n)=min k n
 rw[if_neg (by omega),Int.toNat_natCast]
end
end HT
namespace L2
open PySem PySem.Spec PyProof.Rows
abbrev TO:=St->Hp->(Option Int->Hp->Prop)->Prop
def PO (X:Cx)(e:Option Expr)(t:TO):Prop:=
 ∀(pins:List (Addr×Obj)) (s:Shared) (Z:St) (H:Hp) (Q:Option Int->Hp->Prop),Inv X pins Z H s->t Z H Q->
  wpAny (model X.prog X.w) X.A (evalPart e X.env) (λu s'=>∃o H',Inv X pins Z H' s'/\IsPart u o/\Q o H') X.xe s
def tPart (t:TE):TO:=λZ H Q=>t Z H λx H1=>∃i,x=.int i/\Q (some i) H1
section
variable {X:Cx}{e:Expr}{te:TE}{lo hi:Option Expr}{tl th:TO}{pos p2:Pos}
theorem po_some (h:PE X e te):PO X (some e) (tPart te):=by
 intro pins s Z H Q I hw
 rw[evalPart_some]
 refine thn (h pins s Z H _ I hw) λu s1 ⟨x,H1,I1,r1,q1⟩=>?_
 obtain⟨i,rfl,q⟩:=q1
 obtain⟨t,rfl⟩:=r1
 exact⟨some i,H1,I1,.int i t,q⟩
def SlR (X:Cx)(r:V->Option Int->Option Int->Hp->VK->Prop):Prop:=
 ∀(pins:List (Addr×Obj)) (s:Shared) (Z:St) (H:Hp) (x:V) (v vl vu:Value) (lo hi:Option Int) (sl:Addr) (Q:VK),Inv X pins Z H s->RelV x v->s.heap.IsSliceOf sl vl vu .none->IsPart vl lo->IsPart vu hi->r x lo hi H Q->
  ∃T id,typeLookup (.type T) "__getitem__"=pure (some (.builtin id))/\s.TypeIs v T/\wpAny (model X.prog X.w) X.A (getItem v (.ref sl)) (EP X pins Z Q) X.xe s
def tSl (r:V->Option Int->Option Int->Hp->VK->Prop)(te:TE)(tl th:TO):TE:=λZ H Q=>te Z H λx H1=>tl Z H1 λl H2=>th Z H2 λu H3=>r x l u H3 Q
theorem pe_slice {r:V->Option Int->Option Int->Hp->VK->Prop}(hr:SlR X r)(he:PE X e te)(hl:PO X lo tl)(hu:PO X hi th):PE X (.Subscript e (.Slice lo hi none p2) pos) (tSl r te tl th):=by
 intro pins s Z H Q I h
 refine Subscript_ (thn (he pins s Z H _ I h) λv s1 ⟨x,H1,I1,r1,q1⟩=>?_)
 refine wpAny_Slice (thn (hl pins s1 Z H1 _ I1 q1) λvl s2 ⟨l,H2,I2,pl,q2⟩=>thn (hu pins s2 Z H2 _ I2 q2) λvu s3 ⟨u,H3,I3,pu,q3⟩=>?_)
 rw[evalPart_none]
 refine wpAny_pure ?_
 have I4:Inv X pins Z H3 {s3 with heap:=s3.heap.push {cls:=.type "slice",data:=.fields #[vl,vu,.none]}}:=I3.kept (t':=s3.toks) λb ob q=>Heap.get?_push_of_some _ q
 obtain⟨T,id,hT,ht,hg⟩:=hr pins {s3 with heap:=s3.heap.push {cls:=.type "slice",data:=.fields #[vl,vu,.none]}} Z H3 x v vl vu l u s3.heap.objs.size Q I4 r1 (Heap.IsSliceOf.new ..) pl pu q3
 show wpAny (model X.prog X.w) X.A (subscriptTail e (.Slice lo hi none p2) v (.ref s3.heap.objs.size)) (EP X pins Z Q) X.xe {s3 with heap:=s3.heap.push {cls:=.type "slice",data:=.fields #[vl,vu,.none]}}
 exact tail_any (ops:=[.ref s3.heap.objs.size,v]) ht hT hg (by with_unfolding_all rfl)
def cutV (xs:List V)(lo hi:Option Int):List V:=(xs.drop (HT.sIx xs.length 0 lo)).take (HT.sIx xs.length xs.length hi-HT.sIx xs.length 0 lo)
theorem cutV_length (xs:List V)(lo hi:Option Int):(cutV xs lo hi).length<=xs.length:=by
 unfold cutV
 rw[List.length_take,List.length_drop]
 omega
end
end L2
namespace L2
open PySem PySem.Spec PyProof.Rows
def ixN (n:Nat)(i:Int):Option Nat:=if 0<=i then(if i<n then some i.toNat else none)else if -(n:Int)<=i then some (i+n).toNat else none
def atI {α:Type}(xs:List α)(i:Int):Option α:=(ixN xs.length i).bind λj=>xs[j]?
theorem ixN_seq {n:Nat}{i:Int}{j:Nat}(h:ixN n i=some j):seqIndex? i n=some j/\j<n/\ -(n:Int)<=i/\i<n:=by
 unfold ixN at h
 by_cases h0:0<=i
 ·rw[if_pos h0]at h
  by_cases h1:i<n
  ·rw[if_pos h1]at h
   have e:i.toNat=j:=Option.some.inj h
   exact⟨by rw[seqIndex_of h0 h1,e],by omega,by omega,h1⟩
  ·rw[if_neg h1]at h;cases h
 ·rw[if_neg h0]at h
  by_cases h1: -(n:Int)<=i
  ·rw[if_pos h1]at h
   have e:(i+n).toNat=j:=Option.some.inj h
   exact⟨by rw[seqIndex_neg (by omega) h1,e],by omega,h1,by omega⟩
  ·rw[if_neg h1]at h;cases h
theorem atI_get {α:Type}{xs:List α}{i:Int}{v:α}(h:atI xs i=some v):∃j,seqIndex? i xs.length=some j/\xs[j]?=some v/\j<xs.length/\ -(xs.length:Int)<=i/\i<xs.length:=by
 unfold atI at h
 cases e:ixN xs.length i with
 |none=>rw[e]at h;cases h
 |some j=>
  rw[e]at h
  obtain⟨h1,h2,h3,h4⟩:=ixN_seq e
  exact⟨j,h1,h,h2,h3,h4⟩
theorem atI_nat {α:Type}{xs:List α}{j:Nat}{v:α}(h:xs[j]?=some v):atI xs (j:Int)=some v:=by
 have hj:j<xs.length:=(List.getElem?_eq_some_iff.mp h).1
 have e:ixN xs.length (j:Int)=some j:=by
  unfold ixN
  rw[if_pos (by omega),if_pos (by omega)];simp
 unfold atI;rw[e];exact h
def PlainIx (b:Expr):Prop:=∀o i,subscripted b false o i=operate [o,i] (getItem o i)
def IxR (X:Cx)(r:R2):Prop:=
 ∀(value slice:Expr) (pins:List (Addr×Obj)) (s:Shared) (Z:St) (H:Hp) (x y:V) (v u:Value) (Q:VK),Inv X pins Z H s->RelV x v->RelV y u->r x y H Q->
  subscripted slice false v u=operate [v,u] (getItem v u)->wpAny (model X.prog X.w) X.A (subscriptTail value slice v u) (EP X pins Z Q) X.xe s
def MtR (X:Cx)(id:String)(r:V->List V->Hp->VK->Prop):Prop:=
 ∀(pins:List (Addr×Obj)) (s:Shared) (Z:St) (H:Hp) (x:V) (xs:List V) (v:Value) (us:List Value) (Q:VK),Inv X pins Z H s->RelV x v->Vals xs us->r x xs H Q->
  wpAny (model X.prog X.w) X.A (call (.builtin id) (v::us)) (EP X pins Z Q) X.xe s
section
variable {X:Cx}{a b:Expr}{ta tb:TE}{pos:Pos}
theorem pe_ix {r:R2}(hr:IxR X r)(ha:PE X a ta)(hb:PE X b tb)(hs:PlainIx b):PE X (.Subscript a b pos) (tOp r ta tb):=by
 intro pins s Z H Q I h
 exact Subscript_ (binT ha hb I h λv u s2 x y H2 I2 rx ry q=>hr a b pins s2 Z H2 x y v u Q I2 rx ry q (hs _ _))
def rIxL (K:Fg):R2:=λx y H Q=>∃p xs i v,x=.ref p/\y=.int i/\SqL K H p xs/\atI xs i=some v/\Q v H
def rIxT (K:Fg):R2:=λx y H Q=>∃p xs i v,x=.ref p/\y=.int i/\SqT K H p xs/\atI xs i=some v/\Q v H
theorem ix_list:IxR X (rIxL X.K):=by
 intro value slice pins s Z H x y v u Q I rx ry h hs
 obtain⟨p,xs,i,z,rfl,rfl,hq,he,q⟩:=h
 cases rx
 obtain⟨t,rfl⟩:=ry
 obtain⟨its,r,pl,hz⟩:=I.list hq
 obtain⟨j,h1,h2,h3,h4,h5⟩:=atI_get he
 obtain⟨w,ew,rw'⟩:=r.get h2
 have hl:=r.length
 have hn:=line63
 have fin:EP X pins Z Q w s:=⟨z,H,I,rw',q⟩
 by_cases h0:0<=i
 ·have hj:i.toNat=j:=by
   rw[seqIndex_of h0 h5]at h1
   exact Option.some.inj h1
  exact item_listR pl.isList h0 (by omega) (by rw[hj];simpa using ew) fin hs
 ·have hj:(i+(its.toArray.size:Int)).toNat=j:=by
   rw[seqIndex_neg (by omega) h4]at h1
   rw[List.size_toArray,<-hl]
   exact Option.some.inj h1
  exact subscriptTail_builtinR (x:=w) pl.isList.typeIs slot_list_getitem.lookup
   (wpAny_getItem_list_neg (Q:=λr s'=>r=w/\EP X pins Z Q r s') pl.isList (by omega) (by rw[List.size_toArray]<;>omega) (by omega) (by rw[hj];simpa using ew) ⟨rfl,fin⟩) hs
theorem ix_tup:IxR X (rIxT X.K):=by
 intro value slice pins s Z H x y v u Q I rx ry h hs
 obtain⟨p,xs,i,z,rfl,rfl,hq,he,q⟩:=h
 cases rx
 obtain⟨t,rfl⟩:=ry
 obtain⟨its,r,pl,hz⟩:=I.tuple hq
 obtain⟨j,h1,h2,h3,h4,h5⟩:=atI_get he
 obtain⟨w,ew,rw'⟩:=r.get h2
 have hl:=r.length
 have hn:=line63
 have fin:EP X pins Z Q w s:=⟨z,H,I,rw',q⟩
 exact subscriptTail_builtinR (x:=w) pl.typeIs slot_tuple_getitem.lookup
  (getItem_tuple (j:=j) (Q:=λr s'=>r=w/\EP X pins Z Q r s') pl (by omega) (by omega) (by rw[List.size_toArray,<-hl];exact h1) (by simpa using ew) ⟨rfl,fin⟩) hs
theorem slice_bounds (lo hi:Option Int)(n:Nat):(sliceBounds lo hi none n).1=((HT.sIx n 0 lo:Nat):Int)/\(sliceBounds lo hi none n).2.1=((HT.sIx n n hi:Nat):Int)/\(sliceBounds lo hi none n).2.2=1:=by
 refine⟨?_,?_,rfl⟩
 ·cases lo with
  |none=>simp[sliceBounds,HT.sIx]
  |some i=>
   simp only[sliceBounds,HT.sIx,Option.getD_none,show(1:Int)>0 by decide,if_true]
   by_cases h:i<0
   ·simp only[h,if_true]<;>omega
   ·simp only[h,if_false]<;>omega
 ·cases hi with
  |none=>simp[sliceBounds,HT.sIx]
  |some i=>
   simp only[sliceBounds,HT.sIx,Option.getD_none,show(1:Int)>0 by decide,if_true]
   by_cases h:i<0
   ·simp only[h,if_true]<;>omega
   ·simp only[h,if_false]<;>omega
theorem slicePick_cut (its:List Value)(lo hi:Option Int):slicePick its.toArray lo hi none=((its.drop (HT.sIx its.length 0 lo)).take (HT.sIx its.length its.length hi-HT.sIx its.length 0 lo)).toArray:=by
 obtain⟨h1,h2,h3⟩:=slice_bounds lo hi its.toArray.size
 unfold slicePick
 rw[h1,h2,h3]
 simp only[sliceRange_one,pick_run,List.size_toArray]<;>rfl
def rSlL (K:Fg):V->Option Int->Option Int->Hp->VK->Prop:=λx lo hi H Q=>∃a xs,x=.ref a/\SqL K H a xs/\∀p,H p=none->Q (.ref p) (upd H p (.lst (cutV xs lo hi)))
theorem sl_list:SlR X (rSlL X.K):=by
 intro pins s Z H x v vl vu lo hi sl Q I rx hs pl pu h
 obtain⟨a,xs,rfl,hx,q⟩:=h
 cases rx
 obtain⟨its,r,ht,hz⟩:=I.list hx
 have hlen:=r.length
 refine⟨"list",_,slot_list_getitem.lookup,ht.isList.typeIs,?_⟩
 refine wpAny_getItem_list_slice ht.isList hs pl pu .none (by simp) ?_ (by rw[List.size_toArray]<;>omega)
 rw[slicePick_cut,<-hlen]
 refine⟨.ref s.heap.objs.size,_,I.laid (t':=s.toks) (o:=.lst (cutV xs lo hi)) (λb ob q=>Heap.get?_push_of_some _ q) (Nat.le_refl _) ?_,rfl,q _ (I.hok.fresh (Nat.le_refl _))⟩
 exact⟨Nat.le_trans (cutV_length xs lo hi) hz,_,0,(r.drop (HT.sIx xs.length 0 lo)).take (HT.sIx xs.length xs.length hi-HT.sIx xs.length 0 lo),Heap.get?_push_size _ rfl⟩
def flatV:V->Bool
 |.non=>true
 |.bl _=>true
 |.int _=>true
 |.str _=>true
 |_=>false
def eqV:V->V->Bool
 |.non,.non=>true
 |.bl a,.bl b=>a==b
 |.bl a,.int b=>(if a then 1 else 0)==b
 |.int a,.bl b=>a==(if b then 1 else 0)
 |.int a,.int b=>a==b
 |.str a,.str b=>a==b
 |_,_=>false
theorem eqAt_V {A:Around}{s:Shared}{y x:V}{u v:Value}(ry:RelV y u)(rx:RelV x v)(fy:flatV y=true)(fx:flatV x=true):SeqAt.EqAt A s u v (eqV y x):=by
 cases y with
 |non=>
  cases ry
  cases x with
  |non=>cases rx;exact SeqAt.EqAt.same _
  |bl b=>cases rx;exact SeqAt.EqAt.none_bool b
  |int b=>obtain⟨t,rfl⟩:=rx;exact SeqAt.EqAt.none_int b t
  |str b=>obtain⟨t,rfl⟩:=rx;exact SeqAt.EqAt.none_str b t
  |_=>exact absurd (show false=true from fx) Bool.false_ne_true
 |bl a=>
  cases ry
  cases x with
  |non=>cases rx;exact SeqAt.EqAt.bool_none a
  |bl b=>cases rx;exact SeqAt.EqAt.bool_bool a b
  |int b=>obtain⟨t,rfl⟩:=rx;exact SeqAt.EqAt.bool_int a b t
  |str b=>obtain⟨t,rfl⟩:=rx;exact SeqAt.EqAt.bool_str a b t
  |_=>exact absurd (show false=true from fx) Bool.false_ne_true
 |int a=>
  obtain⟨t',rfl⟩:=ry
  cases x with
  |non=>cases rx;exact SeqAt.EqAt.int_none a t'
  |bl b=>cases rx;exact SeqAt.EqAt.int_bool a t' b
  |int b=>obtain⟨t,rfl⟩:=rx;exact SeqAt.EqAt.int_int a t' b t
  |str b=>obtain⟨t,rfl⟩:=rx;exact SeqAt.EqAt.int_str a t' b t
  |_=>exact absurd (show false=true from fx) Bool.false_ne_true
 |str a=>
  obtain⟨t',rfl⟩:=ry
  cases x with
  |non=>cases rx;exact SeqAt.EqAt.str_none a t'
  |bl b=>cases rx;exact SeqAt.EqAt.str_bool a t' b
  |int b=>obtain⟨t,rfl⟩:=rx;exact SeqAt.EqAt.str_int a t' b t
  |str b=>obtain⟨t,rfl⟩:=rx;exact SeqAt.EqAt.str_str a t' b t
  |_=>exact absurd (show false=true from fx) Bool.false_ne_true
 |_=>exact absurd (show false=true from fy) Bool.false_ne_true
def eqU (x:V)(u:Value):Bool:=match u with
 |.none=>eqV .non x
 |.bool b=>eqV (.bl b) x
 |.int i _=>eqV (.int i) x
 |.str z _=>eqV (.str z) x
 |_=>false
theorem eqU_of {x y:V}{u:Value}(r:RelV y u)(f:flatV y=true):eqU x u=eqV y x:=by
 cases y with
 |non=>cases r;rfl
 |bl b=>cases r;rfl
 |int i=>obtain⟨t,rfl⟩:=r;rfl
 |str z=>obtain⟨t,rfl⟩:=r;rfl
 |_=>exact absurd (show false=true from f) Bool.false_ne_true
theorem any_eqU {x:V}:∀{xs:List V} {us:List Value},Vals xs us->xs.all flatV=true->us.any (eqU x)=xs.any λy=>eqV y x
 |_,_,.nil,_=>rfl
 |y::xs,u::us,.cons r t,f=>by
  rw[List.all_cons,Bool.and_eq_true]at f
  rw[List.any_cons,List.any_cons,eqU_of r f.1,any_eqU t f.2]
theorem mem_eqAt {A:Around}{s:Shared}{x:V}{v:Value}(rx:RelV x v)(fx:flatV x=true):∀{xs:List V} {us:List Value},Vals xs us->xs.all flatV=true->∀u∈us,SeqAt.EqAt A s u v (eqU x u)
 |_,_,.nil,_=>λu hu=>by cases hu
 |y::xs,u::us,.cons r t,f=>λu' hu=>by
  rw[List.all_cons,Bool.and_eq_true]at f
  rcases List.mem_cons.mp hu with rfl|hu
  ·rw[eqU_of r f.1];exact eqAt_V r rx f.1 fx
  ·exact mem_eqAt rx fx t f.2 u' hu
def inV (x:V)(xs:List V):Bool:=xs.any λy=>eqV y x
def rIn (K:Fg)(neg:Bool):R2:=λx y H Q=>∃p xs,y=.ref p/\(SqL K H p xs\/SqT K H p xs)/\flatV x=true/\xs.all flatV=true/\Q (.bl (if neg then !inV x xs else inV x xs)) H
theorem op_in_seq:OpR X (compareOp .In) (rIn X.K false):=by
 intro pins s Z H x y v u Q I rx ry h
 obtain⟨p,xs,rfl,hq,fx,fs,q⟩:=h
 cases ry
 rcases hq with hq|hq
 ·obtain⟨its,r,pl,hz⟩:=I.list hq
  refine SeqAt.in_listAt (eqU x) pl.isList (λw hw=>mem_eqAt rx fx r fs w (by simpa using hw)) ⟨.bl _,H,I,rfl,?_⟩
  rw[show its.toArray.any (eqU x)=its.any (eqU x) by simp,any_eqU r fs]
  exact q
 ·obtain⟨its,r,pl,hz⟩:=I.tuple hq
  refine SeqAt.in_tupleAt (eqU x) pl (λw hw=>mem_eqAt rx fx r fs w (by simpa using hw)) ⟨.bl _,H,I,rfl,?_⟩
  rw[show its.toArray.any (eqU x)=its.any (eqU x) by simp,any_eqU r fs]
  exact q
theorem op_notIn_seq:OpR X (compareOp .NotIn) (rIn X.K true):=by
 intro pins s Z H x y v u Q I rx ry h
 obtain⟨p,xs,rfl,hq,fx,fs,q⟩:=h
 cases ry
 rcases hq with hq|hq
 ·obtain⟨its,r,pl,hz⟩:=I.list hq
  refine SeqAt.notIn_listAt (eqU x) pl.isList (λw hw=>mem_eqAt rx fx r fs w (by simpa using hw)) ⟨.bl _,H,I,rfl,?_⟩
  rw[show its.toArray.any (eqU x)=its.any (eqU x) by simp,any_eqU r fs]
  exact q
 ·obtain⟨its,r,pl,hz⟩:=I.tuple hq
  refine SeqAt.notIn_tupleAt (eqU x) pl (λw hw=>mem_eqAt rx fx r fs w (by simpa using hw)) ⟨.bl _,H,I,rfl,?_⟩
  rw[show its.toArray.any (eqU x)=its.any (eqU x) by simp,any_eqU r fs]
  exact q
theorem call_len_seq:CallR X (.builtin "len") (λxs H Q=>∃p ys,xs=[.ref p]/\(SqL X.K H p ys\/SqT X.K H p ys)/\Q (.int ys.length) H):=by
 intro pins s Z H xs us Q I r h
 obtain⟨p,ys,rfl,hq,q⟩:=h
 obtain⟨u,rfl,rx⟩:=vals1 r
 cases rx
 have hn:=line63
 rcases hq with hq|hq
 ·obtain⟨its,r',pl,hz⟩:=I.list hq
  have hlen:=r'.length
  exact Calls.call_len_list pl.isList (by simp only[List.size_toArray]<;>omega) ⟨.int ys.length,H,I.tok _,⟨s.toks+1,by rw[List.size_toArray,hlen]⟩,q⟩
 ·obtain⟨its,r',pl,hz⟩:=I.tuple hq
  have hlen:=r'.length
  exact len_tuple pl (by simp only[List.size_toArray]<;>omega) ⟨.int ys.length,H,I.tok _,⟨s.toks+1,by rw[List.size_toArray,hlen]⟩,q⟩
theorem call_list_of:CallR X (.type "list") (λxs H Q=>∃p ys,xs=[.ref p]/\(SqL X.K H p ys\/SqT X.K H p ys)/\∀l,H l=none->Q (.ref l) (upd H l (.lst ys))):=by
 intro pins s Z H xs us Q I r h
 obtain⟨p,ys,rfl,hq,q⟩:=h
 obtain⟨u,rfl,rx⟩:=vals1 r
 cases rx
 have fin:∀(its:List Value),Vals ys its->ys.length<=sizeLine->∀(h':Heap) (c':Nat),(∀b o',s.heap.get? b=some o'->h'.get? b=some o')->
   h'.get? s.heap.objs.size=some {cls:=.type "list",dict:=none,data:=.seq its.toArray c',slots:= #[]}->EP X pins Z Q (.ref s.heap.objs.size) {s with heap:=h'}:=λits r' hz h' c' kp e=>
  ⟨.ref s.heap.objs.size,_,I.laid (t':=s.toks) kp (Nat.le_refl _) (show ObjOk X.prog X.w _ h' _ (.lst ys)from⟨hz,its,c',r',e⟩),rfl,q _ (I.hok.fresh (Nat.le_refl _))⟩
 rcases hq with hq|hq
 ·obtain⟨its,r',pl,hz⟩:=I.list hq
  have hlen:=r'.length
  obtain⟨o,ho,hc,n,hd⟩:=pl.isList
  exact call_list_seq p (.inl rfl) ho hc hd (λh' c' kp e=>fin its r' hz h' c' kp e) (by simp only[List.size_toArray]<;>omega)
 ·obtain⟨its,r',pl,hz⟩:=I.tuple hq
  have hlen:=r'.length
  obtain⟨o,ho,hc,n,hd⟩:=pl
  exact call_list_seq p (.inr rfl) ho hc hd (λh' c' kp e=>fin its r' hz h' c' kp e) (by simp only[List.size_toArray]<;>omega)
def tyV (K:Fg)(T:String)(x:V)(H:Hp):Prop:=match x with
 |.str _=>T="str"
 |.int _=>T="int"
 |.ref p=>(T="list"/\∃xs,SqL K H p xs)\/(T="tuple"/\∃o,K.lookup p=some o/\o.cls=.type "tuple"/\o.dict=none)\/
   (T="dict"/\((∃kvs,H p=some (.dK kvs))\/∃kvs,H p=some (.dT kvs)))\/(T="set"/\∃S n,H p=some (.set S n))
 |_=>False
theorem tyV_is {pins:List (Addr×Obj)}{Z:St}{H:Hp}{s:Shared}{T:String}{x:V}{v:Value}(I:Inv X pins Z H s)(r:RelV x v)(ty:tyV X.K T x H):
  s.TypeIs v T/\∀a,v=.ref a->∃ob,s.heap.get? a=some ob/\ob.dict=none:=by
 cases x with
 |str z=>
  obtain⟨t,rfl⟩:=r
  cases (show T="str" from ty)
  exact⟨typeIs_str s z t,λ_ e=>nomatch e⟩
 |int i=>
  obtain⟨t,rfl⟩:=r
  cases (show T="int" from ty)
  exact⟨typeIs_int s i t,λ_ e=>nomatch e⟩
 |ref p=>
  cases r
  rcases ty with ⟨rfl,xs,hq⟩|⟨rfl,o,hk,hc,hd⟩|⟨rfl,hk⟩|⟨rfl,S,n,hk⟩
  ·obtain⟨its,_,pl,_⟩:=I.list hq
   refine⟨pl.isList.typeIs,λa e=>?_⟩
   cases e
   obtain⟨o,n,e,c,hd,_⟩:=pl
   exact⟨o,e,hd⟩
  ·refine⟨⟨o,I.kIn p o hk,hc⟩,λa e=>?_⟩
   cases e
   exact⟨o,I.kIn _ o hk,hd⟩
  ·have z:∃o,s.heap.get? p=some o/\o.ExactDict:=by
    rcases hk with ⟨kvs,hk⟩|⟨kvs,hk⟩
    ·obtain⟨_,_,_,_,o,_,_,e,ex,_⟩:=I.hok p _ hk
     exact⟨o,e,ex⟩
    ·obtain⟨_,_,_,_,o,_,_,e,ex,_⟩:=I.hok p _ hk
     exact⟨o,e,ex⟩
   obtain⟨o,e,ex⟩:=z
   refine⟨⟨o,e,ex.1⟩,λa e2=>?_⟩
   cases e2
   exact⟨o,e,ex.2.1⟩
  ·obtain⟨o,_,_,_,e,ex,_⟩:=I.hok p _ hk
   refine⟨⟨o,e,ex.1⟩,λa e2=>?_⟩
   cases e2
   exact⟨o,e,ex.2.1⟩
 |_=>exact False.elim ty
def tBM (K:Fg)(T:String)(r:V->List V->Hp->VK->Prop)(to:TE)(t:TA):TE:=λZ H Q=>to Z H λx H1=>tyV K T x H1/\t Z H1 λxs H2=>r x xs H2 Q
variable {o e:Expr}{es:List Expr}{to:TE}{t:TA}{name:Str}{apos cpos:Pos}{T id:String}{r:V->List V->Hp->VK->Prop}
theorem pe_bm (pa:PlainAttrs T)(slot:Slot T name id)(hty:typeOf (.builtin id)=pure (.type "method_descriptor"))(hm:MtR X id r)(ho:PE X o to)(ha:PA X (e::es) t)
  (hbase:attributeBase o name X.env (eval o X.env)=eval o X.env:=by rfl)
  (hfew:((backTo cpos (starEach (e::es) X.env)).all (λx=>!x.1)&&(backToKw cpos (keywordEach [] X.env)).all (λx=>x.1.isSome)
   &&decide ((e::es).length+([]:List Keyword).length+(if([]:List Keyword).isEmpty then 0 else 1)<30))=true:=by rfl)
  (hline:(apos.endLine==cpos.line)=true:=by rfl) (hs:starEach (e::es) X.env=(false,eval e X.env)::starEach es X.env:=by rfl) (hplain:(backTo cpos (starEach es X.env)).any (·.1)=false:=by rfl):
  PE X (.Call (.Attribute o name apos) (e::es) [] cpos) (tBM X.K T r to t):=by
 intro pins s Z H Q I h
 refine wpAny_Call_method_late hbase hfew hline rfl (thn (ho pins s Z H _ I h) λv s1 ⟨x,H1,I1,r1,ty,q1⟩=>?_)
 obtain⟨h1,h2⟩:=tyV_is I1 r1 ty
 refine⟨T,id,pa,slot,hty,h1,h2,?_⟩
 have hA:=ha cpos pins s1 Z H1 _ I1 q1
 rw[hs]at hA⊢
 refine Calls.callWith_builtin (by show(false||(backTo cpos (starEach es X.env)).any (·.1))=false;rw[hplain]<;>rfl) (Calls.evalArgs_plain ?_)
 exact thn hA λus s2 ⟨vs,H2,I2,r2,q2⟩=>hm pins s2 Z H2 x vs v us Q I2 r1 r2 q2
end
end L2
namespace L2
open PySem PySem.Spec PyProof.Rows
def MtM (X:Cx)(id:String)(r:V->List V->Hp->VK->Prop):Prop:=
 ∀(pins:List (Addr×Obj)) (s:Shared) (Z:St) (H:Hp) (x:V) (xs:List V) (v:Value) (us:List Value) (Q:VK),Inv X pins Z H s->RelV x v->Vals xs us->r x xs H Q->
  wpAny (model X.prog X.w) X.A (call (.builtin id) (v::us)) (EP X pins Z Q) X.xe s
theorem Vals.one:∀{x:V} {us:List Value},Vals [x] us->∃u,us=[u]/\RelV x u
 |_,_,.cons r .nil=>⟨_,rfl,r⟩
section
variable {X:Cx}{pins:List (Addr×Obj)}{Z:St}{H:Hp}{s:Shared}{l b:Addr}{xs ys zs:List V}
theorem Inv.lset {its its':List Value}{n:Nat}{f:Array Value->Array Value}{t':Nat}(I:Inv X pins Z H s)(hH:H l=some (.lst xs))
  (e:s.heap.get? l=some {cls:=.type "list",data:=.seq its.toArray n}) (hf:f its.toArray=its'.toArray) (hv:Vals ys its') (hz:ys.length<=sizeLine):
  Inv X pins Z (upd H l (.lst ys)) {s with heap:=s.heap.update l (Obj.mapSeq f),toks:=t'}:=by
 have q:=PySem.IsL.update e f
 rw[hf]at q
 refine I.write (x:=l) (e:=l) (by rw[hH];exact trivial) (.inl rfl) (λb' u hb hu=>(Heap.get?_update_other s.heap (Obj.mapSeq f) (Ne.symm hb)).trans hu) ⟨_,q⟩ ?_
 exact⟨hz,its',_,hv,q⟩
theorem Inv.lnew {its:List Value}{t':Nat}(I:Inv X pins Z H s)(hv:Vals ys its)(hz:ys.length<=sizeLine):
  Inv X pins Z (upd H s.heap.objs.size (.lst ys)) {s with heap:=s.heap.push {cls:=.type "list",data:=.seq its.toArray},toks:=t'}:=
 I.laid (λ_ _ q=>Heap.get?_push_of_some _ q) (Nat.le_refl _) ⟨hz,its,0,hv,Heap.get?_push_size _ rfl⟩
theorem Inv.fresh (I:Inv X pins Z H s):H s.heap.objs.size=none:=I.hok.fresh (Nat.le_refl _)
theorem Inv.lstM (I:Inv X pins Z H s)(hH:H l=some (.lst xs)):xs.length<=sizeLine/\∃(its:List Value) (n:Nat),Vals xs its/\xs.length=its.length/\s.heap.get? l=some {cls:=.type "list",data:=.seq its.toArray n}:=by
 obtain⟨z,its,n,r,e⟩:=I.hok l _ hH
 exact⟨z,its,n,r,r.length,e⟩
theorem notLongL {n:Nat}(h:n<=sizeLine):Builtin.List.listTooLong n=false:=by
 unfold Builtin.List.listTooLong
 exact decide_eq_false (by omega)
end
section
variable {X:Cx}
def rAppend:V->List V->Hp->VK->Prop:=λx vs H Q=>∃l xs y,x=.ref l/\vs=[y]/\H l=some (.lst xs)/\xs.length<sizeLine/\Q .non (upd H l (.lst (xs++[y])))
theorem mt_append:MtM X "list.append" rAppend:=by
 intro pins s Z H x vs v us Q I rx rv h
 obtain⟨l,xs,y,rfl,rfl,hH,hz,q⟩:=h
 cases rx
 obtain⟨u,rfl,ru⟩:=rv.one
 obtain⟨z,its,n,r,hl,e⟩:=I.lstM hH
 refine call_meets F.slot_list_append ⟨_,e,rfl⟩ F.entry_list_append (F.args_list_append_2 _ _) (PySem.list_append l its.toArray n u (by rw[List.size_toArray];omega)) ⟨e,?_⟩
 refine⟨.non,_,I.lset (its':=its++[u]) hH e (by simp) (r.append (.cons ru .nil)) ?_,rfl,q⟩
 rw[List.length_append,List.length_singleton]
 omega
def rExtend:V->List V->Hp->VK->Prop:=λx vs H Q=>∃l b xs zs,x=.ref l/\vs=[.ref b]/\H l=some (.lst xs)/\H b=some (.lst zs)/\xs.length+zs.length<=sizeLine/\Q .non (upd H l (.lst (xs++zs)))
theorem mt_extend:MtM X "list.extend" rExtend:=by
 intro pins s Z H x vs v us Q I rx rv h
 obtain⟨l,b,xs,zs,rfl,rfl,hH,hB,hz,q⟩:=h
 cases rx
 obtain⟨u,rfl,ru⟩:=rv.one
 cases ru
 obtain⟨z,its,n,r,hl,e⟩:=I.lstM hH
 obtain⟨z2,its2,n2,r2,hl2,e2⟩:=I.lstM hB
 have hsz:its.toArray.size+its2.toArray.size<=sizeLine:=by rw[List.size_toArray,List.size_toArray];omega
 have hlong:¬(!its.toArray.isEmpty&&Builtin.List.listTooLong (its.toArray.size+its2.toArray.size))=true:=by
  rw[notLongL hsz,Bool.and_false]
  exact Bool.false_ne_true
 refine call_meets F.slot_list_extend ⟨_,e,rfl⟩ F.entry_list_extend (F.args_list_extend_2 _ _)
  (AutoSeq1.list_extend_list_list_0 l its.toArray n b its2.toArray n2 hlong (by rw[List.size_toArray];omega) (by omega)) ⟨e,e2,?_⟩
 refine⟨.non,_,I.lset (its':=its++its2) hH e (by simp) (r.append r2) ?_,rfl,q⟩
 rw[List.length_append]
 omega
def rCat:R2:=λx y H Q=>∃l b xs zs,x=.ref l/\y=.ref b/\H l=some (.lst xs)/\H b=some (.lst zs)/\xs.length+zs.length<=sizeLine/\∀p,H p=none->Q (.ref p) (upd H p (.lst (xs++zs)))
theorem op_cat:OpR X (binaryOp .Add) rCat:=by
 intro pins s Z H x y v u Q I rx ry h
 obtain⟨l,b,xs,zs,rfl,rfl,hH,hB,hz,q⟩:=h
 cases rx
 cases ry
 obtain⟨z,its,n,r,hl,e⟩:=I.lstM hH
 obtain⟨z2,its2,n2,r2,hl2,e2⟩:=I.lstM hB
 refine PySem.P.add_list e e2 ?_ (by rw[List.size_toArray,List.size_toArray];omega)
 have ea:its.toArray++its2.toArray=(its++its2).toArray:=by simp
 rw[ea]
 exact⟨.ref _,_,I.lnew (t':=s.toks) (r.append r2) (by rw[List.length_append];omega),rfl,q _ I.fresh⟩
end
section
variable {prog:Program}{w:World}{A:Around}{E:Value->Shared->Prop}{s:Shared}
set_option maxRecDepth 100000 in
end
section
variable {X:Cx}
end
end L2
namespace L2
open PySem PySem.Spec PyProof.Rows
theorem Vals.ints:∀{ns:List Int} {us:List Value},Vals (ns.map V.int) us->IntsAre us ns
 |[],us,h=>by
  rw[List.map_nil]at h
  cases h
  exact IntsAre.nil
 |n::ns,us,h=>by
  rw[List.map_cons]at h
  cases h with
  |cons r t=>
   obtain⟨k,rfl⟩:=r
   exact IntsAre.cons n k (Vals.ints t)
theorem vals_of_ints:∀{us:List Value} {ns:List Int},IntsAre us ns->Vals (ns.map V.int) us
 |_,_,.nil=>by rw[List.map_nil];exact Paired.nil
 |_,_,.cons n t h=>by rw[List.map_cons];exact Paired.cons (show RelV (V.int n) (Value.int n t)from⟨t,rfl⟩) (vals_of_ints h)
theorem Vals.bls:∀{bs:List Bool} {us:List Value},Vals (bs.map V.bl) us->us=bs.map Value.bool
 |[],us,h=>by
  rw[List.map_nil]at h
  cases h
  rfl
 |b::bs,us,h=>by
  rw[List.map_cons]at h
  cases h with
  |cons r t=>
   cases r
   rw[Vals.bls t,List.map_cons]
theorem Vals.ref1 {a:Addr}{us:List Value}(r:Vals [V.ref a] us):us=[Value.ref a]:=by
 cases r with
 |cons r t=>
  cases t
  cases r
  rfl
section
variable {prog:Program}{w:World}{A:Around}{E:Value->Shared->Prop}{s:Shared}{l:Addr}{its:List Value}{ns:List Int}{Q:Value->Shared->Prop}
theorem sum_raw (hh:A.handled=none)(hl:s.heap.IsList l its.toArray)(hi:IntsAre its ns)
  (h:∀h' tk t',(∀b o,s.heap.get? b=some o->h'.get? b=some o)->Q (.int ns.sum t') {s with heap:=h',toks:=tk}):wpAny (model prog w) A (call (.builtin "sum") [.ref l]) Q E s:=by
 obtain⟨xs,e⟩:=hi.allInts.items
 have hn:numsOf (intItems xs).toList=ns:=by rw[<-e];exact hi.numsOf
 rw[nums_intItems]at hn
 rw[e]at hl
 refine PySem.sum_intListG hh hl λh' tk t' hk=>?_
 have:=h h' tk t' hk
 rw[preSum_eq,List.take_of_length_le (by simp),hn];exact this
end
section
variable {X:Cx}
def rSum (K:Fg):List V->Hp->VK->Prop:=λvs H Q=>∃(a:Addr) (ns:List Int),vs=[V.ref a]/\SqL K H a (ns.map V.int)/\Q (.int ns.sum) H
theorem cr_sum (hc:X.calm=true):CallR X (.builtin "sum") (rSum X.K):=by
 intro pins s Z H vs us Q I r h
 obtain⟨a,ns,rfl,hs,q⟩:=h
 obtain⟨its,rv,hl,_⟩:=I.list hs
 rw[Vals.ref1 r]
 exact sum_raw (I.ok.hd hc) hl.isList rv.ints λh' tk t' hk=>⟨.int _,H,I.kept hk,⟨_,rfl⟩,q⟩
theorem small64 {n:Nat}(h:n<64):n<=sizeLine:=by rw[sizeLine_eq];omega
end
section
variable {X:Cx}
end
section
variable {X:Cx}
end
theorem iter_any {prog:Program}{w:World}{A:Around}{E:Value->Shared->Prop}{s:Shared}{l:Addr}{items:Array Value}{Q:Value->Shared->Prop}(hl:s.heap.IsList l items)
  (h:∀s₂:Shared,s₂={s with heap:=s.heap.push {cls:=.type "list_iterator",data:=.fields #[.ref l,.int 0 0]}}->
   (s₂.heap.IsListIter s.heap.objs.size l 0/\s₂.heap.IsList l items)->l≠s.heap.objs.size->Q (.ref s.heap.objs.size) s₂):wpAny (model prog w) A (pyIter (.ref l)) Q E s:=by
 have hlt:l<s.heap.objs.size:=by obtain⟨_,e,_⟩:=hl;exact Heap.lt_size e
 exact wpAny_pyIter_list hl (h _ rfl ⟨⟨_,Heap.get?_push_size _ rfl,rfl,rfl⟩,hl.push _⟩ (Nat.ne_of_lt hlt))
theorem truth_bools {prog:Program}{w:World}{A:Around}{bs:List Bool}{its:List Value}(e:its=bs.map Value.bool):
  TruthOf prog w A (λi v=>its.toArray[i]?=some v) (λi=>bs.getD i false):=λi v s Q E hv hq=>by
 have hv':its[i]?=some v:=by simpa using hv
 rw[e,List.getElem?_map]at hv'
 obtain⟨b,hb,rfl⟩:=Option.map_eq_some_iff.mp hv'
 have hg:bs.getD i false=b:=by rw[List.getD_eq_getElem?_getD,hb]<;>rfl
 have hq':Q (bs.getD i false) s:=hq
 rw[hg]at hq'
 exact wpAny_truthy_bool hq'
theorem any_range:∀bs:List Bool,(List.range bs.length).any (λi=>bs.getD i false)=bs.any id
 |[]=>rfl
 |b::bs=>by
  rw[List.length_cons,List.range_succ_eq_map,List.any_cons,List.any_map,List.any_cons,<-any_range bs]
  all_goals rfl
theorem all_range:∀bs:List Bool,(List.range bs.length).all (λi=>bs.getD i false)=bs.all id
 |[]=>rfl
 |b::bs=>by
  rw[List.length_cons,List.range_succ_eq_map,List.all_cons,List.all_map,List.all_cons,<-all_range bs]
  all_goals rfl
section
variable {X:Cx}
def rAny (K:Fg):List V->Hp->VK->Prop:=λvs H Q=>∃(a:Addr) (bs:List Bool),vs=[V.ref a]/\SqL K H a (bs.map V.bl)/\Q (.bl (bs.any id)) H
def rAll (K:Fg):List V->Hp->VK->Prop:=λvs H Q=>∃(a:Addr) (bs:List Bool),vs=[V.ref a]/\SqL K H a (bs.map V.bl)/\Q (.bl (bs.all id)) H
theorem cr_any (hc:X.calm=true):CallR X (.builtin "any") (rAny X.K):=by
 intro pins s Z H vs us Q I r h
 obtain⟨a,bs,rfl,hs,q⟩:=h
 obtain⟨its,rv,hl,_⟩:=I.list hs
 rw[Vals.ref1 r]
 have hb:=rv.bls
 refine call_any_walk (iter_any hl.isList λs₂ e2 st hne=>?_)
 subst e2
 refine⟨_,_,_,_,_,_,_,rfl,Walks.list (A:=X.A.in1) (I.ok.hd hc) _ a hne its.toArray,st,truth_bools hb,λh' tk hk=>?_⟩
 refine⟨.bl _,H,I.kept λb o eo=>hk b o (λhmem=>?_) (Heap.get?_push_of_some _ eo),?_,q⟩
 ·rcases List.mem_cons.mp hmem with e1|hmem
  ·exact absurd (e1▸Heap.lt_size eo) (Nat.lt_irrefl _)
  ·cases hmem
 ·show Value.bool _=Value.bool _
  rw[<-any_range,hb,List.size_toArray,List.length_map]
theorem cr_all (hc:X.calm=true):CallR X (.builtin "all") (rAll X.K):=by
 intro pins s Z H vs us Q I r h
 obtain⟨a,bs,rfl,hs,q⟩:=h
 obtain⟨its,rv,hl,_⟩:=I.list hs
 rw[Vals.ref1 r]
 have hb:=rv.bls
 refine call_all_walk (iter_any hl.isList λs₂ e2 st hne=>?_)
 subst e2
 refine⟨_,_,_,_,_,_,_,rfl,Walks.list (A:=X.A.in1) (I.ok.hd hc) _ a hne its.toArray,st,truth_bools hb,λh' tk hk=>?_⟩
 refine⟨.bl _,H,I.kept λb o eo=>hk b o (λhmem=>?_) (Heap.get?_push_of_some _ eo),?_,q⟩
 ·rcases List.mem_cons.mp hmem with e1|hmem
  ·exact absurd (e1▸Heap.lt_size eo) (Nat.lt_irrefl _)
  ·cases hmem
 ·show Value.bool _=Value.bool _
  rw[<-all_range,hb,List.size_toArray,List.length_map]
end
mutual
inductive Dp (K:Fg)(H:Hp):V->PyData->Prop
 |non:Dp K H .non .none
 |bl (b:Bool):Dp K H (.bl b) (.bool b)
 |int (i:Int):Dp K H (.int i) (.int i)
 |str (x:Str):Dp K H (.str x) (.str x)
 |lst {a:Addr} {xs:List V} {ds:List PyData}:SqL K H a xs->DpAll K H xs ds->Dp K H (.ref a) (.list ds)
 |tup {a:Addr} {xs:List V} {ds:List PyData}:SqT K H a xs->DpAll K H xs ds->Dp K H (.ref a) (.tuple ds)
inductive DpAll (K:Fg)(H:Hp):List V->List PyData->Prop
 |nil:DpAll K H [] []
 |cons {v:V} {vs:List V} {d:PyData} {ds:List PyData}:Dp K H v d->DpAll K H vs ds->DpAll K H (v::vs) (d::ds)
end
section
variable {X:Cx}{pins:List (Addr×Obj)}{Z:St}{H:Hp}{s:Shared}
mutual
theorem Dp.reads (I:Inv X pins Z H s):∀(d:PyData) (v:V) (u:Value),Dp X.K H v d->RelV v u->∃as,Reads s.heap u d as
 |.none,_,_,h,r=>by
  cases h
  cases r
  exact⟨_,Reads.none⟩
 |.bool b,_,_,h,r=>by
  cases h
  cases r
  exact⟨_,Reads.bool b⟩
 |.int i,_,_,h,r=>by
  cases h
  obtain⟨t,rfl⟩:=r
  exact⟨_,Reads.int i t⟩
 |.str x,_,_,h,r=>by
  cases h
  obtain⟨t,rfl⟩:=r
  exact⟨_,Reads.str x t⟩
 |.list ds,_,_,h,r=>by
  cases h with
  |lst hs ha=>
   cases r
   obtain⟨its,rv,⟨o,n,ho,hc,_,hd⟩,_⟩:=I.list hs
   obtain⟨as,hr⟩:=Dp.readsAll I ds _ its ha rv
   exact⟨_,Reads.list ho hc hd hr⟩
 |.tuple ds,_,_,h,r=>by
  cases h with
  |tup hs ha=>
   cases r
   obtain⟨its,rv,⟨o,ho,hc,n,hd⟩,_⟩:=I.tuple hs
   obtain⟨as,hr⟩:=Dp.readsAll I ds _ its ha rv
   exact⟨_,Reads.tuple ho hc hd hr⟩
 |.dict _,_,_,h,_=>by cases h
theorem Dp.readsAll (I:Inv X pins Z H s):∀(ds:List PyData) (vs:List V) (us:List Value),DpAll X.K H vs ds->Vals vs us->∃as,ReadsAll s.heap us ds as
 |[],_,_,h,r=>by
  cases h
  cases r
  exact⟨_,ReadsAll.nil⟩
 |d::ds,_,_,h,r=>by
  cases h with
  |cons h1 h2=>
   cases r with
   |cons r1 r2=>
    obtain⟨as,q1⟩:=Dp.reads I d _ _ h1 r1
    obtain⟨bs,q2⟩:=Dp.readsAll I ds _ _ h2 r2
    exact⟨_,ReadsAll.cons q1 q2⟩
end
end
section
variable {X:Cx}
def rEqD (K:Fg):R2:=λx y H Q=>∃d e,Dp K H x d/\Dp K H y e/\SeqAt.shaped d=true/\SeqAt.shaped e=true/\Q (.bl (PyData.eqv d e)) H
theorem op_eqD (hu:X.A.units+64<cLine):OpR X (compareOp .Eq) (rEqD X.K):=by
 intro pins s Z H x y v u Q I rx ry h
 obtain⟨d,e,hd,he,sd,se,q⟩:=h
 obtain⟨as,r1⟩:=Dp.reads I d x v hd rx
 obtain⟨bs,r2⟩:=Dp.reads I e y u he ry
 exact SeqAt.compareEq_shaped r1 r2 sd se hu ⟨.bl _,H,I,rfl,q⟩
end
end L2
namespace L2
open PySem PySem.Spec PyProof.Rows
abbrev CellAt (h:Heap)(c:Addr)(v:Option Value):Prop:=h.IsCell c v
def relS (scope sc:Scope):Scope:=
 {scope with names:=scope.names.map λ(n,k)=>if(k==.free&&sc.kind==.function&&sc.names.lookup n==some .cell)then(n,.cell)else(n,k)}
def cloFrom (cells:List (Str×Addr)):List (Str×NameKind)->List (Str×Addr)->List (Str×Addr)
 |[],acc=>acc
 |(n,k)::r,acc=>if k==.free then cloFrom cells r ((n,(cells.lookup n).getD 0)::acc)else cloFrom cells r acc
theorem closure_loop (env:Env)(f:Str×NameKind->List (Str×Addr)->Sem (ForInStep (List (Str×Addr))))
  (hf:∀n k c,f (n,k) c=if k==.free then(do let a<-cellOf env n;pure (.yield ((n,a)::c)))else pure (.yield c)):
  ∀(names:List (Str×NameKind)) (acc:List (Str×Addr)),(∀y∈names,y.2=.free->∃c,env.cells.lookup y.1=some c)->forIn names acc f=pure (cloFrom env.cells names acc)
 |[],acc,_=>by rw[List.forIn_nil];rfl
 |(n,k)::r,acc,h=>by
  rw[List.forIn_cons,hf]
  have ih:=λacc=>closure_loop env f hf r acc λy hy=>h y (List.mem_cons_of_mem _ hy)
  unfold cloFrom
  by_cases hk:(k==NameKind.free)=true
  ·rw[if_pos hk,if_pos hk]
   obtain⟨c,hc⟩:=h (n,k) List.mem_cons_self (by simpa using hk)
   have e:cellOf env n=pure c:=by unfold cellOf;rw[hc]
   rw[e]
   have e2:(env.cells.lookup n).getD 0=c:=by rw[hc];rfl
   rw[e2]
   exact ih _
  ·rw[if_neg hk,if_neg hk]
   exact ih _
theorem closure_ok {scope:Scope}{env:Env}(h:∀y∈scope.names,y.2=.free->∃c,env.cells.lookup y.1=some c):closureFor scope env=pure (cloFrom env.cells scope.names []):=by
 simp only[closureFor]
 rw[closure_loop env _ (λn k c=>rfl) scope.names [] h]
 rfl
theorem mem_lookup {α:Type}:∀{l:List (Str×α)} {n:Str} {c:α},(n,c)∈l->∃c',l.lookup n=some c'
 |(k,v)::r,n,c,h=>by
  rw[List.lookup_cons]
  cases hb:n==k with
  |true=>exact⟨_,rfl⟩
  |false=>
   rcases List.mem_cons.mp h with e|h
   ·cases e;simp at hb
   ·exact mem_lookup h
theorem cloFrom_mem {cells:List (Str×Addr)}:∀{names:List (Str×NameKind)} {acc:List (Str×Addr)} {n:Str} {c:Addr},(n,c)∈cloFrom cells names acc->(n,c)∈acc\/((n,.free)∈names/\c=(cells.lookup n).getD 0)
 |[],_,_,_,h=>.inl h
 |(m,k)::r,acc,n,c,h=>by
  unfold cloFrom at h
  split at h
  ·rename_i hk
   have hk:k=.free:=by simpa using hk
   rcases cloFrom_mem h with h|⟨h1,h2⟩
   ·rcases List.mem_cons.mp h with e|h
    ·cases e;exact .inr ⟨hk▸List.mem_cons_self,rfl⟩
    ·exact .inl h
   ·exact .inr ⟨List.mem_cons_of_mem _ h1,h2⟩
  ·rcases cloFrom_mem h with h|⟨h1,h2⟩
   ·exact .inl h
   ·exact .inr ⟨List.mem_cons_of_mem _ h1,h2⟩
theorem cloFrom_acc {cells:List (Str×Addr)}:∀{names:List (Str×NameKind)} {acc:List (Str×Addr)} {p:Str×Addr},p∈acc->p∈cloFrom cells names acc
 |[],_,_,h=>h
 |(m,k)::r,acc,p,h=>by
  unfold cloFrom
  split
  ·exact cloFrom_acc (List.mem_cons_of_mem _ h)
  ·exact cloFrom_acc h
theorem cloFrom_has {cells:List (Str×Addr)}:∀{names:List (Str×NameKind)} {acc:List (Str×Addr)} {n:Str},(n,.free)∈names->(n,(cells.lookup n).getD 0)∈cloFrom cells names acc
 |(m,k)::r,acc,n,h=>by
  unfold cloFrom
  rcases List.mem_cons.mp h with e|h
  ·cases e
   exact cloFrom_acc List.mem_cons_self
  ·split
   ·exact cloFrom_has h
   ·exact cloFrom_has h
theorem cells_mem:∀{names:List (Str×NameKind)} {h:Heap} {acc:List (Str×Addr)} {x:Str} {c:Addr},(x,c)∈cellsFrom h.objs.size names acc->
  (x,c)∈acc\/((x,.cell)∈names/\h.objs.size<=c/\CellAt (pushCells h names) c none)
 |[],_,_,_,_,h=>.inl h
 |(n,k)::r,h,acc,x,c,hm=>by
  unfold cellsFrom at hm
  unfold pushCells
  split at hm
  ·rename_i hk
   rw[if_pos hk]
   have hk:k=.cell:=by simpa using hk
   rw[<-Heap.size_push h {cls:=.type "cell",data:=.cell none}]at hm
   rcases cells_mem hm with hm|⟨h1,h2,h3⟩
   ·rcases List.mem_cons.mp hm with e|hm
    ·cases e
     exact .inr ⟨hk▸List.mem_cons_self,Nat.le_refl _,_,pushCells_keeps r _ _ _ (Heap.get?_push_size _ rfl),rfl⟩
    ·exact .inl hm
   ·rw[Heap.size_push]at h2
    exact .inr ⟨List.mem_cons_of_mem _ h1,Nat.le_of_succ_le h2,h3⟩
  ·rename_i hk
   rw[if_neg hk]
   rcases cells_mem hm with hm|⟨h1,h2,h3⟩
   ·exact .inl hm
   ·exact .inr ⟨List.mem_cons_of_mem _ h1,h2,h3⟩
theorem cells_acc:∀{names:List (Str×NameKind)} {n:Nat} {acc:List (Str×Addr)} {p:Str×Addr},p∈acc->p∈cellsFrom n names acc
 |[],_,_,_,h=>h
 |(m,k)::r,n,acc,p,h=>by
  unfold cellsFrom
  split
  ·exact cells_acc (List.mem_cons_of_mem _ h)
  ·exact cells_acc h
theorem cells_has:∀{names:List (Str×NameKind)} {n:Nat} {acc:List (Str×Addr)} {x:Str},(x,.cell)∈names->∃c,(x,c)∈cellsFrom n names acc
 |(m,k)::r,n,acc,x,h=>by
  unfold cellsFrom
  rcases List.mem_cons.mp h with e|h
  ·cases e
   exact⟨n,cells_acc List.mem_cons_self⟩
  ·split
   ·exact cells_has h
   ·exact cells_has h
theorem cells_inj:∀{names:List (Str×NameKind)} {h:Heap} {acc:List (Str×Addr)} {x y:Str} {c:Addr},(∀p∈acc,p.2<h.objs.size)->(∀x y c,(x,c)∈acc->(y,c)∈acc->x=y)->
  (x,c)∈cellsFrom h.objs.size names acc->(y,c)∈cellsFrom h.objs.size names acc->x=y
 |[],_,_,_,_,_,_,hi,h1,h2=>hi _ _ _ h1 h2
 |(n,k)::r,h,acc,x,y,c,hl,hi,h1,h2=>by
  unfold cellsFrom at h1 h2
  split at h1
  ·rename_i hk
   rw[if_pos hk]at h2
   rw[<-Heap.size_push h {cls:=.type "cell",data:=.cell none}]at h1 h2
   refine cells_inj (h:=h.push _) (λp hp=>?_) (λx y c a b=>?_) h1 h2
   ·rw[Heap.size_push]
    rcases List.mem_cons.mp hp with rfl|hp
    ·exact Nat.lt_succ_self _
    ·exact Nat.lt_succ_of_lt (hl p hp)
   ·rcases List.mem_cons.mp a with e|a<;>rcases List.mem_cons.mp b with e'|b
    ·cases e;cases e';rfl
    ·cases e;exact absurd (hl _ b) (Nat.lt_irrefl _)
    ·cases e';exact absurd (hl _ a) (Nat.lt_irrefl _)
    ·exact hi _ _ _ a b
  ·rename_i hk
   rw[if_neg hk]at h2
   exact cells_inj hl hi h1 h2
theorem newEnv_comp {M:Model}{A:Around}{E:Value->Shared->Prop}{s:Shared}{scope:Scope}{globals:Addr}{closure:List (Str×Addr)}{qual:Str}{func:Option Addr}{code:Value}{around:Env}{builtins:Addr}{Q:Env->Shared->Prop}
  (h:Q (newEnv scope s.heap.objs.size globals (cellsFrom (s.heap.objs.size+1) scope.names closure) qual func code (some around) builtins)
   {s with heap:=pushCells (s.heap.push {cls:=.type "dict",data:=.dict #[]}) scope.names}):
  wpAny M A (newFunctionEnv scope globals closure [] qual func code (some around) builtins) Q E s:=by
 simp only[newFunctionEnv,Option.isSome_some,if_true]
 refine wpAny_bind (wpAny_alloc ?_)
 refine wpAny_bind (wpAny_layCells _ (λn k c=>rfl) scope.names closure _ _ ?_)
 rw[show({s with heap:=s.heap.push {cls:=.type "dict",data:=.dict #[]}}:Shared).heap.objs.size=s.heap.objs.size+1 from Heap.size_push ..]
 rw[List.forIn_nil]
 exact wpAny_bind (wpAny_pure (wpAny_pure h))
theorem lookup_relS {sc:Scope}:∀{names:List (Str×NameKind)} {x:Str} {k:NameKind},
  (names.map λ(n,k)=>if(k==NameKind.free&&sc.kind==.function&&sc.names.lookup n==some .cell)then(n,NameKind.cell)else(n,k)).lookup x=some k->
  ∃k',names.lookup x=some k'/\(k=k'\/(k'=.free/\k=.cell))
 |[],_,_,h=>by simp at h
 |(n,k₀)::r,x,k,h=>by
  have ih:= @lookup_relS sc r x k
  have h':List.lookup x ((if(k₀==NameKind.free&&sc.kind==.function&&sc.names.lookup n==some .cell)=true then(n,NameKind.cell)else(n,k₀))::(r.map _))=some k:=h
  cases hx:x==n with
  |true=>
   simp only[List.lookup_cons,hx]
   by_cases hc:(k₀==NameKind.free&&sc.kind==.function&&sc.names.lookup n==some .cell)=true
   ·rw[if_pos hc]at h'
    simp only[List.lookup_cons,hx]at h'
    cases h'
    simp only[Bool.and_eq_true,beq_iff_eq]at hc
    exact⟨k₀,rfl,.inr ⟨hc.1.1,rfl⟩⟩
   ·rw[if_neg hc]at h'
    simp only[List.lookup_cons,hx]at h'
    cases h'
    exact⟨_,rfl,.inl rfl⟩
  |false=>
   simp only[List.lookup_cons,hx]
   by_cases hc:(k₀==NameKind.free&&sc.kind==.function&&sc.names.lookup n==some .cell)=true
   ·rw[if_pos hc]at h'
    simp only[List.lookup_cons,hx]at h'
    exact ih h'
   ·rw[if_neg hc]at h'
    simp only[List.lookup_cons,hx]at h'
    exact ih h'
structure BlkOk (N:List Str)(sc scope:Scope)(own:List (Str×Nat)):Prop where
 kind:scope.kind=.function
 uniq:∀y∈scope.names,scope.names.lookup y.1=some y.2
 ix:∀p∈own,N[p.2]?=some p.1
 free:∀y∈scope.names,y.2=.free->sc.names.lookup y.1=some .cell\/sc.names.lookup y.1=some .free
 own:∀y∈scope.names,y.2=.local\/y.2=.cell->y.1∈own.map (·.1)\/y.1∉N
def wipe (Z:St):List Nat->St
 |[]=>Z
 |v::vs=>(wipe Z vs).set v none
theorem wipe_length (Z:St):∀vs:List Nat,(wipe Z vs).length=Z.length
 |[]=>rfl
 |v::vs=>by unfold wipe;rw[List.length_set,wipe_length Z vs]
theorem wipe_some {Z:St}{i:Nat}{x:V}:∀{vs:List Nat},(wipe Z vs)[i]?=some (some x)->Z[i]?=some (some x)/\i∉vs
 |[],h=>⟨h,by simp⟩
 |v::vs,h=>by
  unfold wipe at h
  by_cases hi:v=i
  ·subst hi
   by_cases hv:v<(wipe Z vs).length
   ·rw[List.getElem?_set_self hv]at h;cases h
   ·rw[List.getElem?_eq_none (by simpa using hv)]at h;cases h
  ·rw[List.getElem?_set_ne hi]at h
   obtain⟨h1,h2⟩:=wipe_some h
   exact⟨h1,by simp only[List.mem_cons,not_or];exact⟨λe=>hi e.symm,h2⟩⟩
abbrev Cx.blk (X:Cx)(s:Shared)(H:Hp)(scope:Scope)(cenv:Env)(fp:List Addr):Cx:={X with s_0:=s,H_0:=H,env:=cenv,outer:=X.stack,ex:=fp,fn:=λx=>scope.names.lookup x==some .cell,pn:=[],xe:=λ_ _=>False}
section
variable {X:Cx}{pins:List (Addr×Obj)}{Z:St}{H:Hp}{s:Shared}
theorem block_start {scope:Scope}{own:List (Str×Nat)}{fp:List Addr}(I:Inv X pins Z H s)(ok:BlkOk X.N X.env.scope scope own)(hN:X.N.Nodup)(hfp:∀b∈fp,FpOk X pins H b/\b<s.heap.objs.size):
  Inv (X.blk s H scope (compEnvC scope (cellsFrom (s.heap.objs.size+1) scope.names (cloFrom X.env.cells scope.names [])) s.heap.objs.size X.env) fp) [] (wipe Z (own.map (·.2))) H {s with heap:=pushCells (s.heap.push {cls:=.type "dict",data:=.dict #[]}) scope.names}:=by
 have hfree:∀y∈scope.names,y.2=.free->∃c,X.env.cells.lookup y.1=some c:=λy hy e=>by
  rcases ok.free y hy e with k|k
  ·exact I.ok.has _ (.inl k)
  ·exact I.ok.has _ (.inr k)
 generalize hcenv:compEnvC scope (cellsFrom (s.heap.objs.size+1) scope.names (cloFrom X.env.cells scope.names [])) s.heap.objs.size X.env=cenv
 have kp:∀b o,s.heap.get? b=some o->(pushCells (s.heap.push {cls:=.type "dict",data:=.dict #[]}) scope.names).get? b=some o:=λb o e=>pushCells_keeps _ _ _ _ (Heap.get?_push_of_some _ e)
 have hL:cenv.locals=s.heap.objs.size:=by rw[<-hcenv];rfl
 have hcl:cenv.cells=cellsFrom (s.heap.objs.size+1) scope.names (cloFrom X.env.cells scope.names []):=by rw[<-hcenv];rfl
 have hsc:cenv.scope=relS scope X.env.scope:=by rw[<-hcenv];rfl
 rw[<-Heap.size_push s.heap {cls:=.type "dict",data:=.dict #[]}]at hcl
 have cm:∀{y c},(y,c)∈cloFrom X.env.cells scope.names []->X.env.cells.lookup y=some c/\c<s.heap.objs.size:=λ{y c} hm=>by
  rcases cloFrom_mem hm with hm|⟨h1,rfl⟩
  ·cases hm
  ·obtain⟨c,hc⟩:=hfree _ h1 rfl
   rw[hc]
   obtain⟨w,z⟩:=I.cell _ _ hc
   exact⟨rfl,z.lt⟩
 have mem:∀{y c},cenv.cells.lookup y=some c->(X.env.cells.lookup y=some c/\c<s.heap.objs.size)\/(s.heap.objs.size+1<=c/\CellAt (pushCells (s.heap.push {cls:=.type "dict",data:=.dict #[]}) scope.names) c none):=λ{y c} e=>by
  rw[hcl]at e
  rcases cells_mem (PySem.mem_of_lookup e)with hm|⟨_,h2,h3⟩
  ·exact .inl (cm hm)
  ·rw[Heap.size_push]at h2;exact .inr ⟨h2,h3⟩
 have look:∀{y},scope.names.lookup y=some .free->∃c,cenv.cells.lookup y=some c/\X.env.cells.lookup y=some c:=λ{y} hl=>by
  have hy:(y,NameKind.free)∈scope.names:=PySem.mem_of_lookup hl
  obtain⟨c',e'⟩:=mem_lookup (cells_acc (names:=scope.names) (n:=(s.heap.push {cls:=.type "dict",data:=.dict #[]}).objs.size) (cloFrom_has (cells:=X.env.cells) (acc:=[]) hy))
  rw[<-hcl]at e'
  refine⟨c',e',?_⟩
  rw[hcl]at e'
  rcases cells_mem (PySem.mem_of_lookup e')with hm|⟨h1,_,_⟩
  ·exact(cm hm).1
  ·have:=ok.uniq _ h1
   rw[hl]at this;cases this
 have okB:(X.blk s H scope cenv fp).Ok:=by
  refine⟨I.ok.mod,by show cenv.scope.kind=_;rw[hsc];exact ok.kind,by show cenv.globals=_;rw[<-hcenv];exact I.ok.glob,by show cenv.builtins=_;rw[<-hcenv];exact I.ok.blt,by show s.heap.objs.size<=cenv.locals;rw[hL];exact Nat.le_refl _,
   λy z c e1 e2=>?_,λy hy=>?_,λy c z e=>?_,I.ok.hd,I.ok.frames,.inl rfl,λb hb=>⟨?_,λy c e z=>?_⟩,I.bs,Nat.le_trans I.ok.bsz I.sz,λb o e hb=>?_,λb hb z=>?_,I.stack,I.stkFree⟩
  ·have e1:cenv.cells.lookup y=some c:=e1
   have e2:cenv.cells.lookup z=some c:=e2
   rw[hcl]at e1 e2
   refine cells_inj (λp hp=>?_) (λy z c a b=>I.ok.inj y z c (cm a).1 (cm b).1) (PySem.mem_of_lookup e1) (PySem.mem_of_lookup e2)
   rw[Heap.size_push]
   exact Nat.lt_succ_of_lt (cm (y:=p.1) (c:=p.2) hp).2
  ·show∃c,cenv.cells.lookup y=some c
   have key:∀k,cenv.kindOf y=some k->(k=.cell\/k=.free)->∃c,cenv.cells.lookup y=some c:=λk hk hk'=>by
    unfold Env.kindOf at hk
    rw[hsc]at hk
    obtain⟨k',e,r⟩:=lookup_relS hk
    have:k'=.cell\/k'=.free:=by
     rcases r with rfl|⟨rfl,_⟩
     ·exact hk'
     ·exact .inr rfl
    rcases this with rfl|rfl
    ·obtain⟨c,hm⟩:=cells_has (n:=(s.heap.push {cls:=.type "dict",data:=.dict #[]}).objs.size) (acc:=cloFrom X.env.cells scope.names []) (PySem.mem_of_lookup e)
     obtain⟨c',e'⟩:=mem_lookup hm
     exact⟨c',by rw[hcl];exact e'⟩
    ·obtain⟨c,h1,_⟩:=look e
     exact⟨c,h1⟩
   rcases hy with hy|hy
   ·exact key _ hy (.inl rfl)
   ·exact key _ hy (.inr rfl)
  ·have z:(scope.names.lookup y==some NameKind.cell)=true:=z
   have z:scope.names.lookup y=some .cell:=by simpa using z
   have e:cenv.cells.lookup y=some c:=e
   rw[hcl]at e
   rcases cells_mem (PySem.mem_of_lookup e)with hm|⟨_,h2,_⟩
   ·rcases cloFrom_mem hm with hm|⟨h1,_⟩
    ·cases hm
    ·have q:=ok.uniq _ h1
     rw[z]at q;cases q
   ·rw[Heap.size_push]at h2
    exact Nat.le_of_succ_le h2
  ·show b≠cenv.locals
   rw[hL];exact Nat.ne_of_lt (hfp b hb).2
  ·have e:cenv.cells.lookup y=some c:=e
   rcases mem e with ⟨h1,_⟩|⟨h1,_⟩
   ·exact(hfp b hb).1.2.2.2.2.1 y c h1 z
   ·have h2:s.heap.objs.size+1<=b:=by rw[<-z];exact h1
    exact absurd (Nat.lt_of_lt_of_le (hfp b hb).2 (Nat.le_of_succ_le h2)) (Nat.lt_irrefl _)
  ·rcases(hfp b hb).1.2.2.2.1 with z|z
   ·exact I.ok.noex b o e z
   ·exact absurd (Nat.lt_of_lt_of_le (Heap.lt_size e) (Nat.le_trans I.ok.bsz z)) (Nat.lt_irrefl _)
  ·rcases List.mem_cons.mp (I.stkSub b z)with z|z
   ·exact(hfp b hb).1.2.1 z
   ·exact(hfp b hb).1.2.2.1 z
 refine⟨okB,rfl,I.bare,Un.kept kp,⟨λ_=>none,?_,λi y av e1 e2 e3=>?_⟩,λy c e=>?_,?_,λy c e=>?_,λp hp=>?_,I.hok.kept kp,by rw[wipe_length];exact I.len⟩
 ·show Heap.Ns _ cenv.locals _
  rw[hL]
  exact Heap.Ns.keeps (Heap.Ns.new ..) λb o e=>pushCells_keeps _ _ _ _ e
 ·obtain⟨e2,hne⟩:=wipe_some e2
  have hfr:scope.names.lookup y=some .free/\(cenv.kindOf y=some .cell\/cenv.kindOf y=some .free):=by
   have key:∀k,cenv.scope.names.lookup y=some k->k=.local\/k=.cell\/k=.free->scope.names.lookup y=some .free/\(cenv.kindOf y=some .cell\/cenv.kindOf y=some .free):=λk hk hk'=>by
    have hk0:=hk
    rw[hsc]at hk
    obtain⟨k',e,r⟩:=lookup_relS hk
    have no:¬(k'=.local\/k'=.cell):=λhh=>by
     rcases ok.own _ (PySem.mem_of_lookup e) hh with e'|e'
     ·obtain⟨p,hp,hpy⟩:=List.mem_map.mp e'
      have e3:=ok.ix p hp
      have:p.1=y:=hpy
      rw[this]at e3
      exact hne (List.mem_map.mpr ⟨p,hp,nodup_ix hN e3 e1⟩)
     ·exact e' (List.mem_of_getElem? e1)
    rcases r with rfl|⟨rfl,rfl⟩
    ·rcases hk' with rfl|rfl|rfl
     ·exact absurd (.inl rfl) no
     ·exact absurd (.inr rfl) no
     ·exact⟨e,.inr hk0⟩
    ·exact⟨e,.inl hk0⟩
   have e3:Vis cenv.scope y:=e3
   rcases e3 with e3|e3|e3
   ·exact key _ e3 (.inl rfl)
   ·exact key _ e3 (.inr (.inl rfl))
   ·exact key _ e3 (.inr (.inr rfl))
  obtain⟨m,hn,hl⟩:=I.loc
  have hvis:Vis X.env.scope y:=(ok.free _ (PySem.mem_of_lookup hfr.1) rfl).elim (λk=>.inr (.inl k)) (λk=>.inr (.inr k))
  obtain⟨w,r,q⟩:=hl i y av e1 e2 hvis
  refine⟨w,r,.inr ⟨hfr.2,?_⟩⟩
  obtain⟨c,h1,h2⟩:=look hfr.1
  rcases q with ⟨k,_⟩|⟨_,c',e',z⟩
  ·have k:X.env.scope.names.lookup y=some .local:=k
   rcases ok.free _ (PySem.mem_of_lookup hfr.1) rfl with k'|k'<;>rw[show X.env.scope.names.lookup y=_ from k']at k<;>cases k
  ·rw[h2]at e';cases e'
   exact⟨c,h1,z.keeps kp⟩
 ·have e:cenv.cells.lookup y=some c:=e
  rcases mem e with ⟨h1,_⟩|⟨_,z⟩
  ·obtain⟨w,z⟩:=I.cell y c h1
   exact⟨w,z.keeps kp⟩
  ·exact⟨_,z⟩
 ·show H cenv.locals=none
  rw[hL];exact I.hok.fresh (Nat.le_refl _)
 ·have e:cenv.cells.lookup y=some c:=e
  rcases mem e with ⟨h1,_⟩|⟨h1,_⟩
  ·exact I.freeC y c h1
  ·exact I.hok.fresh (Nat.le_of_succ_le h1)
 ·exact absurd (show p∈([]:List (Addr×Obj))++[]from hp) (by simp)
theorem app_ok {E:Value->Shared->Prop}{D:Addr}{xs:List V}{y:V}{v:Value}{Q:Value->Shared->Prop}(I:Inv X pins Z H s)(hD:H D=some (.lst xs))(hz:xs.length<sizeLine)(r:RelV y v)
  (h:∀s',Inv X pins Z (upd H D (.lst (xs++[y]))) s'->Q .none s'):wpAny (model X.prog X.w) X.A (call (.builtin "list.append") [.ref D,v]) Q E s:=by
 obtain⟨hz',its,n,ri,e⟩:=I.hok D _ hD
 have hl:=ri.length
 refine append_at (hsz:=by rw[List.size_toArray];omega) e λh' sb ho'=>?_
 refine h {s with heap:=h'} (I.write (t':=s.toks) (by rw[hD];trivial) (.inl rfl) (λb u hb q=>(sb.2 b hb).trans q) ⟨_,ho'⟩ ⟨by rw[List.length_append];exact hz,its++[v],n+1,ri.append (.cons r .nil),?_⟩)
 rw[ho']
 simp
def PTs (X:Cx)(ifs:List Expr)(t:TT):Prop:=
 ∀(pins:List (Addr×Obj)) (s:Shared) (Z:St) (H:Hp) (Q:Bool->Hp->Prop),Inv X pins Z H s->t Z H Q->
  wpAny (model X.prog X.w) X.A (forIn ifs true λc r=>if r=true then do let ok<-isTrue c X.env (eval c X.env);pure (ForInStep.yield ok)else pure (ForInStep.yield r)) (TP X pins Z Q) X.xe s
def tYes:TT:=λ_ H Q=>Q true H
theorem pts_nil:PTs X [] tYes:=λ_ _ _ H _ I h=>wpAny_tests_nil ⟨H,I,h⟩
theorem pts_one {c:Expr}{t:TT}(h:PT X c t):PTs X [c] t:=λpins s Z H Q I hw=>wpAny_tests_one (h pins s Z H Q I hw)
end
theorem thnF {α:Type}{t:Sem α}{Q Q':α->Shared->Prop}{M:Model}{A:Around}{E:Value->Shared->Prop}{s:Shared}(h:wpAny M A t Q (λ_ _=>False) s)(hQ:∀a s,Q a s->Q' a s):wpAny M A t Q' E s:=wpAny_mono h hQ λ_ _ z=>False.elim z
theorem compLoop_any {prog:Program}{w:World}{A:Around}{R:Result->Shared->Prop}{s:Shared}{elt target iter:Expr}{ifs:List Expr}{scope:Scope}{pos:Pos}{it acc:Value}{env:Env}(I:Nat->Shared->Prop)
  (turn:∀n s,I n s->wpAny (model prog w) A (pyNext it) (λr s₁=>match r with
   |none=>R (.ok .next) s₁
   |some v=>wpAny (model prog w) A (letOwnedTupleGo target it v) (λ_ s₁'=>wpAny (model prog w) A (assign target env v) (λ_ s₂=>
     wpAny (model prog w) A (forIn ifs true λc r=>if r=true then do let ok<-isTrue c env (eval c env);pure (ForInStep.yield ok)else pure (ForInStep.yield r)) (λok s₃=>
      if ok=true then wpAny (model prog w) A (eval elt env) (λx s₄=>
       wpAny (model prog w) A (call (.builtin "list.append") [acc,x]) (λ_ s₅=>∃m,m<n/\I m s₅) (notedBy (model prog w) A env λe s'=>R (.error e) s') s₄) (notedBy (model prog w) A env λe s'=>R (.error e) s') s₃
      else∃m,m<n/\I m s₃) (notedBy (model prog w) A env λe s'=>R (.error e) s') s₂) (notedBy (model prog w) A env λe s'=>R (.error e) s') s₁') (notedBy (model prog w) A env λe s'=>R (.error e) s') s₁) (notedBy (model prog w) A env λe s'=>R (.error e) s') s)
  (n:Nat) (h:I n s):
  codeAny (model prog w) A (.compLoop (.ListComp elt [⟨target,iter,ifs,0⟩] scope pos) 0 it acc env) R s:=by
 refine codeAny_loop rfl I (λn s hI=>?_) n h
 show wpAny _ A ((compTurn (.ListComp elt [⟨target,iter,ifs,0⟩] scope pos) 0 it acc env).onRaise (λx=>do noteFrame x env;theTreesLotGoes x)) _ _ s
 refine wpAny_noted ?_
 rw[compTurn_list]
 refine wpAny_bind (wpAny_standAt (wpAny_bind (wpAny_mono (turn n s hI) (λr s₁ h₁=>?_) λ_ _ h'=>h')))
 cases r with
 |none=>exact wpAny_pure h₁
 |some v=>
  refine wpAny_bind (wpAny_mono h₁ (λ_ s₁' h₁'=>?_) λ_ _ h'=>h')
  refine wpAny_bind (wpAny_mono h₁' (λ_ s₂ h₂=>wpAny_bind (wpAny_mono h₂ (λok s₃ h₃=>?_) λ_ _ h'=>h')) λ_ _ h'=>h')
  cases ok with
  |false=>exact wpAny_pure ⟨rfl,h₃⟩
  |true=>
   exact wpAny_bind (wpAny_bind (wpAny_mono h₃ (λx s₄ h₄=>wpAny_bind (wpAny_mono h₄ (λ_ s₅ h₅=>wpAny_pure (wpAny_pure ⟨rfl,h₅⟩)) λ_ _ h'=>h')) λ_ _ h'=>h'))
section
variable {X:Cx}
def tLc (wi:TI)(g:TG)(tt:TT)(te:TE)(vs:List Nat):TE:=λZ H Q=>wi Z H λJ H1=>∀D,H1 D=none->∃W:Nat->Nat->Hp->Prop,(∃m,W 0 m (upd H1 D (.lst [])))/\∀i m H,W i m H->
 (J.stop i H/\Q (.ref D) H)\/(J.go i H/\∃Nx:Hp->Prop,(∀H',Nx H'->∃m',m'<m/\W (i+1) m' H')/\∀x H',J.yld i H x H'->g x (wipe Z vs) H' λZ2 H2=>wipe Z2 vs=wipe Z vs/\tt Z2 H2 λb H3=>
  if b=true then te Z2 H3 λy H4=>∃acc,H4 D=some (.lst acc)/\acc.length<sizeLine/\Nx (upd H4 D (.lst (acc++[y])))else Nx H3)
theorem lc_core {pins:List (Addr×Obj)}{s:Shared}{Z:St}{H:Hp}{Q:VK}{elt tg iter:Expr}{ifs:List Expr}{scope:Scope}{own:List (Str×Nat)}{pos pos':Pos}{wi:TI}{g:TG}{tt:TT}{te:TE}{use:Option (Value->Sem Unit)}{Qf:Value->Shared->Prop}
  (hc:X.calm=true) (hN:X.N.Nodup) (I:Inv X pins Z H s) (hi:PI X tg iter wi) (ok:BlkOk X.N X.env.scope scope own)
  (hg:∀(s:Shared) (H:Hp) (C:Addr) (cl:List (Str×Addr)) (fp:List Addr),PG (X.blk s H scope (compEnvC scope cl C X.env) fp) tg g) (ht:∀(s:Shared) (H:Hp) (C:Addr) (cl:List (Str×Addr)) (fp:List Addr),PTs (X.blk s H scope (compEnvC scope cl C X.env) fp) ifs tt)
  (he:∀(s:Shared) (H:Hp) (C:Addr) (cl:List (Str×Addr)) (fp:List Addr),PE (X.blk s H scope (compEnvC scope cl C X.env) fp) elt te) (hs:∀x,foldedSetIterable iter X.env x=pure x)
  (h:tLc wi g tt te (own.map (·.2)) Z H Q)
  (hRR:∀D C s' m H',Inv X pins Z H' s'->Q (.ref D) H'->s'.heap.Ns C m->FpOk X pins H' C->compPost (model X.prog X.w) X.A X.xe use Qf (.ref D) C (.ok .next) s'):
  wpAny (model X.prog X.w) X.A (comprehension (.ListComp elt [⟨tg,iter,ifs,0⟩] scope pos) scope X.env pos' (newList []) false (eval iter X.env) use) Qf X.xe s:=by
 have hfree:∀y∈scope.names,y.2=.free->∃c,X.env.cells.lookup y.1=some c:=λy hy e=>by
  rcases ok.free y hy e with k|k
  ·exact I.ok.has _ (.inl k)
  ·exact I.ok.has _ (.inr k)
 refine wpAny_comprehension_free (use:=use) rfl hs (closure_ok hfree) ok.kind (λy hy e=>by rw[ok.uniq y hy,e])
  (thn (hi pins s Z H _ I h) λxv s1 hx=>thn hx λitv s2 h2=>?_)
 obtain⟨it,fp,tn,J,H2,e,I2,T,st2,f2,q⟩:=h2
 subst e
 refine wpAny_newObj_type (newEnv_comp ?_) (by show 0<=sizeLine;decide)
 generalize hD:s2.heap.objs.size=D
 have hDn:H2 D=none:=I2.hok.fresh (Nat.le_of_eq hD)
 obtain⟨W,⟨m0,w0⟩,turn⟩:=q D hDn
 generalize hs3:({s2 with heap:=s2.heap.push {cls:=.type "list",data:=.seq ([]:List Value).toArray}}:Shared)=s3
 have I3:Inv X pins Z (upd H2 D (.lst [])) s3:=by
  rw[<-hs3]
  refine I2.laid (t':=s2.toks) (λb o e=>Heap.get?_push_of_some _ e) (Nat.le_of_eq hD) ⟨Nat.zero_le _,[],0,.nil,?_⟩
  rw[<-hD]
  exact Heap.get?_push_size _ rfl
 have h3:s3.heap=s2.heap.push {cls:=.type "list",data:=.seq ([]:List Value).toArray}:=by rw[<-hs3]
 have sz:∀b∈fp,b<s2.heap.objs.size:=λb hb=>by
  obtain⟨o,e,_⟩:=T.obj _ _ st2 b hb
  exact Heap.lt_size e
 have f3:∀b∈fp,FpOk X pins (upd H2 D (.lst [])) b/\b<s3.heap.objs.size:=λb hb=>by
  have hlt:=sz b hb
  refine⟨⟨?_,(f2 b hb).2⟩,by rw[h3,Heap.size_push];exact Nat.lt_succ_of_lt hlt⟩
  rw[upd_ne (by rw[<-hD];exact Nat.ne_of_lt hlt)]
  exact(f2 b hb).1
 have st3:tn 0 s3.heap:=T.keep _ _ _ st2 λb _ o e=>by rw[h3];exact Heap.get?_push_of_some _ e
 have I4:=block_start I3 ok hN f3
 have pg:=hg s3 (upd H2 D (.lst [])) s3.heap.objs.size (cellsFrom (s3.heap.objs.size+1) scope.names (cloFrom X.env.cells scope.names [])) fp
 have pt:=ht s3 (upd H2 D (.lst [])) s3.heap.objs.size (cellsFrom (s3.heap.objs.size+1) scope.names (cloFrom X.env.cells scope.names [])) fp
 have pe:=he s3 (upd H2 D (.lst [])) s3.heap.objs.size (cellsFrom (s3.heap.objs.size+1) scope.names (cloFrom X.env.cells scope.names [])) fp
 show codeAny _ _ (.compStart (.ListComp elt [⟨tg,iter,ifs,0⟩] scope pos) 0 (.ref it) (.ref D) (compEnvC scope (cellsFrom (s3.heap.objs.size+1) scope.names (cloFrom X.env.cells scope.names [])) s3.heap.objs.size X.env)) (compPost (model X.prog X.w) X.A X.xe use Qf (.ref D) s3.heap.objs.size) {s3 with heap:=pushCells (s3.heap.push {cls:=.type "dict",data:=.dict #[]}) scope.names}
 have nfp:∀b∈fp,(upd H2 D (.lst [])) b=none:=λb hb=>(f3 b hb).1.1
 generalize hce:compEnvC scope (cellsFrom (s3.heap.objs.size+1) scope.names (cloFrom X.env.cells scope.names [])) s3.heap.objs.size X.env=ce at I4 pg pt pe⊢
 have cL:ce.locals=s3.heap.objs.size:=by subst hce;rfl
 generalize hH3:upd H2 D (.lst [])=H3 at I3 I4 pg pt pe w0 nfp f3
 generalize hs4:({s3 with heap:=pushCells (s3.heap.push {cls:=.type "dict",data:=.dict #[]}) scope.names}:Shared)=s4 at I4⊢
 have st4:tn 0 s4.heap:=T.keep _ _ _ st3 λb _ o e=>by rw[<-hs4];exact pushCells_keeps _ _ _ _ (Heap.get?_push_of_some _ e)
 have stat:∀{Z':St} {H':Hp} {s':Shared},Inv (X.blk s3 H3 scope ce fp) [] Z' H' s'->(∀b∈fp,H' b=none)->∀b∈fp,FpOk (X.blk s3 H3 scope ce fp) [] H' b:=λ{Z' H' s'} I' hn b hb=>
  ⟨hn b hb,(I'.ok.exf b hb).1,I'.ok.exfs b hb,.inl hb,λx c e=>(I'.ok.exf b hb).2 x c e,λp hp=>absurd (show p∈([]:List (Addr×Obj))++[]from hp) (by simp)⟩
 have loop:codeAny (model X.prog X.w) X.A (.compLoop (.ListComp elt [⟨tg,iter,ifs,0⟩] scope pos) 0 (.ref it) (.ref D) ce) (compPost (model X.prog X.w) X.A X.xe use Qf (.ref D) s3.heap.objs.size) s4:=by
  refine compLoop_any (λn s'=>∃i H',Inv (X.blk s3 H3 scope ce fp) [] (wipe Z (own.map (·.2))) H' s'/\tn i s'.heap/\(∀b∈fp,H' b=none)/\W i n H') ?_ m0 ⟨0,H3,I4,st4,nfp,w0⟩
  rintro n s5 ⟨i,H5,I5,st5,n5,w5⟩
  rcases turn i n H5 w5 with ⟨stop,qq⟩|⟨go,Nx,hNx,step⟩
  ·have td:=T.done (X.blk s3 H3 scope ce fp) rfl rfl rfl hc i [] s5 _ H5 (λ_ _=>False) I5 (stat I5 n5) st5 stop
   refine thnF td λr s6 ⟨hr,I6⟩=>?_
   subst hr
   have I7:Inv X pins Z H5 s6:=I3.call' (ch:=fp) I6.os I6.base I6.hok I6.bare λb hb=>⟨(f3 b hb).1.2.2.2.1,(f3 b hb).1.2.1,(f3 b hb).1.2.2.2.2.1,(f3 b hb).1.2.2.2.2.2⟩
   have nC:H5 s3.heap.objs.size=none:=by
    have z:H5 ce.locals=none:=I6.free
    rw[cL]at z
    exact z
   obtain⟨m,hn,_⟩:=I6.loc
   have hn:s6.heap.Ns ce.locals m:=hn
   rw[cL]at hn
   exact hRR D s3.heap.objs.size s6 m H5 I7 qq hn (I3.fpOk (Nat.le_refl _) nC)
  ·have ti:=T.item (X.blk s3 H3 scope ce fp) rfl rfl rfl hc i [] s5 _ H5 (λ_ _=>False) I5 (stat I5 n5) st5 go
   refine thnF ti λr s6 ⟨u,hr,h6⟩=>?_
   subst hr
   refine thnF h6 λ_ s7 ⟨x,H7,I7,r7,y7,st7,n7⟩=>?_
   have I7':=I7.pinned (stat I7 n7) (T.obj _ _ st7)
   refine thnF (pg _ s7 _ H7 x u _ I7' r7 (step x H7 y7)) λ_ s8 ⟨Z8,H8,I8,hw8,q8⟩=>?_
   refine thnF (pt _ s8 Z8 H8 _ I8 q8) λb s9 ⟨H9,I9,q9⟩=>?_
   have fin:∀{s':Shared} {H':Hp},Inv (X.blk s3 H3 scope ce fp) ([]++pinsAt fp s7.heap) Z8 H' s'->Nx H'->∃m,m<n/\∃i H',Inv (X.blk s3 H3 scope ce fp) [] (wipe Z (own.map (·.2))) H' s'/\tn i s'.heap/\(∀b∈fp,H' b=none)/\W i m H':=λ{s' H'} I' nx=>by
    obtain⟨m',hm,w'⟩:=hNx H' nx
    have pin':∀b∈fp,∀o,s7.heap.get? b=some o->s'.heap.get? b=some o/\H' b=none:=λb hb o e=>
     let z:=I'.pin (b,o) (List.mem_append_right _ (List.mem_append_right _ (mem_pinsAt hb e)))
     ⟨z.1,z.2.1⟩
    have hl:(wipe Z (own.map (·.2))).length=Z8.length:=by rw[<-hw8,wipe_length]
    refine⟨m',hm,i+1,H',(I'.unpinned (pins:=[])).weak hl (λj v e=>?_),T.keep _ _ _ st7 λb hb o e=>(pin' b hb o e).1,λb hb=>?_,w'⟩
    ·rw[<-hw8]at e
     exact(wipe_some e).1
    ·obtain⟨o,e,_⟩:=T.obj _ _ st7 b hb
     exact(pin' b hb o e).2
   cases b with
   |false=>
    simp only[Bool.false_eq_true,if_false]at q9⊢
    exact fin I9 q9
   |true=>
    simp only[if_true]at q9⊢
    refine thnF (pe _ s9 Z8 H9 _ I9 q9) λz s10 ⟨yv,H10,I10,r10,acc,hD10,hz10,nx⟩=>?_
    exact app_ok (X:=X.blk s3 H3 scope ce fp) I10 hD10 hz10 r10 λs11 I11=>fin I11 nx
 exact codeAny_compStart_list loop (T.self X.A 0 _ _ _ st4 loop)
theorem pe_lc {elt tg iter:Expr}{ifs:List Expr}{scope:Scope}{own:List (Str×Nat)}{pos:Pos}{wi:TI}{g:TG}{tt:TT}{te:TE}(hc:X.calm=true)(hN:X.N.Nodup)(hi:PI X tg iter wi)(ok:BlkOk X.N X.env.scope scope own)
  (hg:∀(s:Shared) (H:Hp) (C:Addr) (cl:List (Str×Addr)) (fp:List Addr),PG (X.blk s H scope (compEnvC scope cl C X.env) fp) tg g) (ht:∀(s:Shared) (H:Hp) (C:Addr) (cl:List (Str×Addr)) (fp:List Addr),PTs (X.blk s H scope (compEnvC scope cl C X.env) fp) ifs tt)
  (he:∀(s:Shared) (H:Hp) (C:Addr) (cl:List (Str×Addr)) (fp:List Addr),PE (X.blk s H scope (compEnvC scope cl C X.env) fp) elt te) (hs:∀x,foldedSetIterable iter X.env x=pure x:=by intro _;rfl):
  PE X (.ListComp elt [⟨tg,iter,ifs,0⟩] scope pos) (tLc wi g tt te (own.map (·.2))):=by
 intro pins s Z H Q I h
 rw[eval_ListComp]
 refine lc_core hc hN I hi ok hg ht he hs h λD C s' m H' I' q hn f=>⟨m,hn,λh'' sb=>?_⟩
 obtain⟨f0,f1,f2,f3,f4,f5⟩:=f
 exact⟨.ref D,H',I'.turned (t':=s'.toks) (λb o hb e=>(sb.2 b hb).trans e) f0 f1 f3 f4 f5,rfl,q⟩
theorem ps_setLc {i:Nat}{y:Str}{py:Pos}{elt tg iter:Expr}{ifs:List Expr}{scope:Scope}{own:List (Str×Nat)}{pos spos:Pos}{wi:TI}{g:TG}{tt:TT}{te:TE}(hc:X.calm=true)(hN:X.N.Nodup)(hy:X.N[i]?=some y)(hyl:X.env.scope.names.lookup y=some .local)
  (hsw:swapsWith (.ListComp elt [⟨tg,iter,ifs,0⟩] scope pos) (some (.Name y py)) spos.line X.env=pure true) (hi:PI X tg iter wi) (ok:BlkOk X.N X.env.scope scope own)
  (hg:∀(s:Shared) (H:Hp) (C:Addr) (cl:List (Str×Addr)) (fp:List Addr),PG (X.blk s H scope (compEnvC scope cl C X.env) fp) tg g) (ht:∀(s:Shared) (H:Hp) (C:Addr) (cl:List (Str×Addr)) (fp:List Addr),PTs (X.blk s H scope (compEnvC scope cl C X.env) fp) ifs tt)
  (he:∀(s:Shared) (H:Hp) (C:Addr) (cl:List (Str×Addr)) (fp:List Addr),PE (X.blk s H scope (compEnvC scope cl C X.env) fp) elt te) (hs:∀x,foldedSetIterable iter X.env x=pure x:=by intro _;rfl):
  PS X (.Assign [.Name y py] (.ListComp elt [⟨tg,iter,ifs,0⟩] scope pos) spos) (tAsg (tLc wi g tt te (own.map (·.2))) (gName i)):=by
 intro pins s Z H D I h
 rw[exec_Assign_Name_used _ _ _ _ hsw]
 refine wpAny_bind (wpAny_standAt (wpAny_bind ?_))
 show wpAny _ X.A (do let _<-comprehension (.ListComp elt [⟨tg,iter,ifs,0⟩] scope pos) scope X.env (firstIterPos [⟨tg,iter,ifs,0⟩] pos) (newList []) false (eval iter X.env) (some (assign (.Name y py) X.env))) _ _ s
 have h:tLc wi g tt te (own.map (·.2)) Z H (λx H1=>gName i x Z H1 D.nx):=h
 refine wpAny_bind (thn (lc_core (Qf:=λ_ s'=>SP X pins D .next s') hc hN I hi ok hg ht he hs h λL C s' m H' I' q hn f=>?_) λ_ s' hq=>wpAny_pure (wpAny_pure hq))
 show wpAny _ _ (assign (.Name y py) X.env (.ref L)) _ _ _
 refine wpAny_assign_Name (store_ok2 (v:=V.ref L) I' hN hy (.inl hyl) rfl (λs2 I2 ⟨a,sb,ha⟩=>?_) (.inr hyl))
 obtain⟨f0,f1,f2,f3,f4,f5⟩:=f
 have haC:C≠a:=by
  rcases ha with z|z
  ·rw[z];exact f1
  ·exact λe=>f4 y a z e.symm
 refine⟨m,hn.sameBut sb haC,λh3 sb3=>?_⟩
 exact⟨_,H',I2.turned (t':=s2.toks) (λb o hb e=>(sb3.2 b hb).trans e) f0 f1 f3 f4 f5,q⟩
end
end L2
namespace L2
open PySem PySem.Spec PyProof.Rows
section
variable {prog:Program}{w:World}{A:Around}{R:Result->Shared->Prop}{s:Shared}{elt t0 i0 t1 i1:Expr}{ifs0 ifs1:List Expr}{scope:Scope}{pos:Pos}{it acc:Value}{env:Env}
end
section
variable {X:Cx}
end
end L2
namespace L2
open PySem PySem.Spec PyProof.Rows
section
variable {κ:Type}[DecidableEq κ]
def valV (kvs:List (κ×V))(k:κ):Option V:=(kvs.find? λkv=>decide (kv.1=k)).map (·.2)
def putK (kvs:List (κ×V))(k:κ)(v:V):List (κ×V):=
 if(kvs.any λkv=>decide (kv.1=k))=true then kvs.map (λkv=>if kv.1=k then(kv.1,v)else kv)else kvs++[(k,v)]
def dropK (kvs:List (κ×V))(k:κ):List (κ×V):=kvs.filter λkv=>decide (kv.1≠k)
theorem valV_pos {p:κ×V}{r:List (κ×V)}{k:κ}(e:p.1=k):valV (p::r) k=some p.2:=by simp[valV,List.find?_cons,e]
theorem valV_neg {p:κ×V}{r:List (κ×V)}{k:κ}(e:¬p.1=k):valV (p::r) k=valV r k:=by simp[valV,List.find?_cons,e]
theorem valV_any (k:κ):∀kvs:List (κ×V),(kvs.any λkv=>decide (kv.1=k))=(valV kvs k).isSome
 |[]=>rfl
 |p::r=>by
  rw[List.any_cons]
  by_cases e:p.1=k
  ·simp only[valV_pos e,decide_eq_true e,Bool.true_or,Option.isSome_some]
  ·rw[valV_neg e,decide_eq_false e,Bool.false_or];exact valV_any k r
theorem length_putK (kvs:List (κ×V))(k:κ)(v:V):(putK kvs k v).length<=kvs.length+1:=by
 unfold putK
 split
 ·rw[List.length_map];omega
 ·rw[List.length_append,List.length_cons,List.length_nil];omega
theorem putK_new {kvs:List (κ×V)}{k:κ}(v:V)(h:valV kvs k=none):putK kvs k v=kvs++[(k,v)]:=by
 unfold putK
 rw[valV_any,h]
 exact if_neg (by decide)
theorem RelO.isSome_eq {o:Option V}{u:Option Value}(r:RelO o u):o.isSome=u.isSome:=by
 cases o with
 |none=>cases u with
  |none=>rfl
  |some _=>exact(show False from r).elim
 |some _=>cases u with
  |none=>exact(show False from r).elim
  |some _=>rfl
theorem RelO.getD {o:Option V}{u:Option Value}{d:V}{d':Value}(r:RelO o u)(rd:RelV d d'):RelV (o.getD d) (u.getD d'):=by
 cases o with
 |none=>cases u with
  |none=>exact rd
  |some _=>exact(show False from r).elim
 |some _=>cases u with
  |none=>exact(show False from r).elim
  |some _=>exact r
theorem KV.val {kvs:List (κ×V)}{vs:List (κ×Value)}(r:KV kvs vs)(k:κ):RelO (valV kvs k) (valueAt vs k):=by
 unfold KV at r
 induction r with
 |nil=>exact True.intro
 | @cons p q ps qs h t ih=>
  obtain⟨h1,h2⟩:=h
  by_cases e:p.1=k
  ·have e':q.1=k:=h1.symm.trans e
   have b:valueAt (q::qs) k=some q.2:=by simp[valueAt,List.find?_cons,e']
   rw[valV_pos e,b];exact h2
  ·have e':¬q.1=k:=λz=>e (h1.trans z)
   have b:valueAt (q::qs) k=valueAt qs k:=by simp[valueAt,List.find?_cons,e']
   rw[valV_neg e,b];exact ih
theorem KV.any {kvs:List (κ×V)}{vs:List (κ×Value)}(r:KV kvs vs)(k:κ):(kvs.any λkv=>decide (kv.1=k))=vs.any λkv=>decide (kv.1=k):=by
 unfold KV at r
 induction r with
 |nil=>rfl
 |cons h t ih=>rw[List.any_cons,List.any_cons,ih,h.1]
theorem KV.repl {kvs:List (κ×V)}{vs:List (κ×Value)}(r:KV kvs vs)(k:κ){y:V}{u:Value}(ry:RelV y u):
  KV (kvs.map λkv=>if kv.1=k then(kv.1,y)else kv) (vs.map λkv=>if kv.1=k then(kv.1,u)else kv):=by
 unfold KV at r⊢
 induction r with
 |nil=>exact .nil
 | @cons p q ps qs h t ih=>
  rw[List.map_cons,List.map_cons]
  refine .cons ?_ ih
  obtain⟨h1,h2⟩:=h
  by_cases e:p.1=k
  ·rw[if_pos e,if_pos (h1.symm.trans e)];exact⟨h1,ry⟩
  ·rw[if_neg e,if_neg (λz=>e (h1.trans z))];exact⟨h1,h2⟩
theorem KV.put {kvs:List (κ×V)}{vs:List (κ×Value)}(r:KV kvs vs)(k:κ){y:V}{u:Value}(ry:RelV y u):KV (putK kvs k y) (stored vs k u):=by
 unfold putK stored
 rw[r.any k]
 by_cases e:(vs.any λkv=>decide (kv.1=k))=true
 ·rw[if_pos e,if_pos e];exact r.repl k ry
 ·rw[if_neg e,if_neg e];exact Paired.snoc r ⟨rfl,ry⟩
theorem KV.drop {kvs:List (κ×V)}{vs:List (κ×Value)}(r:KV kvs vs)(k:κ):KV (dropK kvs k) (without vs k):=by
 unfold KV at r⊢
 unfold dropK without
 induction r with
 |nil=>exact .nil
 | @cons p q ps qs h t ih=>
  obtain⟨h1,h2⟩:=h
  rw[List.filter_cons,List.filter_cons]
  by_cases e:p.1=k
  ·have a:¬decide (p.1≠k)=true:=by simp[e]
   have b:¬decide (q.1≠k)=true:=by simp[h1.symm.trans e]
   rw[if_neg a,if_neg b];exact ih
  ·have e':¬q.1=k:=λz=>e (h1.trans z)
   have a:decide (p.1≠k)=true:=by simp[e]
   have b:decide (q.1≠k)=true:=by simp[e']
   rw[if_pos a,if_pos b];exact .cons ⟨h1,h2⟩ ih
theorem KV.keys {kvs:List (κ×V)}{vs:List (κ×Value)}(r:KV kvs vs):kvs.map (·.1)=vs.map (·.1):=by
 unfold KV at r
 induction r with
 |nil=>rfl
 |cons h t ih=>rw[List.map_cons,List.map_cons,ih,h.1]
theorem KV.length {kvs:List (κ×V)}{vs:List (κ×Value)}(r:KV kvs vs):kvs.length=vs.length:=Paired.length r
theorem dropK_le (kvs:List (κ×V))(k:κ):(dropK kvs k).length<=kvs.length:=List.length_filter_le _ _
end
theorem kV_is {P:Program}{w:World}{k:Key}{u:Value}(r:RelV (kV k) u):(mixKind P w).is k u=true:=by
 cases k with
 |inl i=>obtain⟨t,e⟩:=(show∃t,u=Value.int i t from r);subst e;exact mixKind_int P w i t
 |inr x=>obtain⟨t,e⟩:=(show∃t,u=Value.str x t from r);subst e;exact mixKind_str P w x t
theorem items_are {P:Program}{w:World}:∀{ks:List Key} {us:List Value},Vals (ks.map kV) us->ItemsAre (mixKind P w) ks us
 |[],_,r=>by rw[List.map_nil]at r;cases r;exact .nil
 |k::ks,_,r=>by
  rw[List.map_cons]at r
  cases r with
  |cons h t=>exact .cons (kV_is h) (items_are t)
abbrev KT (H:Hp):List (List Key×V)->List (List Key×Addr×Value)->Prop:=Paired λp q=>p.1=q.1/\H q.2.1=some (.tup (p.1.map kV))/\RelV p.2 q.2.2
theorem KT.val {H:Hp}{kvs:List (List Key×V)}{xs:List (List Key×Addr×Value)}(r:KT H kvs xs)(k:List Key):RelO (valV kvs k) ((atKey xs k).map (·.2)):=by
 induction r with
 |nil=>exact True.intro
 | @cons p q ps qs h t ih=>
  obtain⟨h1,_,h2⟩:=h
  by_cases e:p.1=k
  ·have e':q.1=k:=h1.symm.trans e
   have b:atKey (q::qs) k=some q.2:=by simp[atKey,List.find?_cons,e']
   rw[valV_pos e,b];exact h2
  ·have e':¬q.1=k:=λz=>e (h1.trans z)
   have b:atKey (q::qs) k=atKey qs k:=by simp[atKey,List.find?_cons,e']
   rw[valV_neg e,b];exact ih
theorem KT.repl {H:Hp}{kvs:List (List Key×V)}{xs:List (List Key×Addr×Value)}(r:KT H kvs xs)(k:List Key){y:V}{u:Value}(ry:RelV y u):
  KT H (kvs.map λkv=>if kv.1=k then(kv.1,y)else kv) (xs.map (putAt k u)):=by
 induction r with
 |nil=>exact .nil
 | @cons p q ps qs h t ih=>
  rw[List.map_cons,List.map_cons]
  refine .cons ?_ ih
  obtain⟨h1,h2,h3⟩:=h
  unfold putAt
  by_cases e:p.1=k
  ·rw[if_pos e,if_pos (h1.symm.trans e)];exact⟨h1,h2,ry⟩
  ·rw[if_neg e,if_neg (λz=>e (h1.trans z))];exact⟨h1,h2,h3⟩
theorem KT.put {H:Hp}{kvs:List (List Key×V)}{xs:List (List Key×Addr×Value)}(r:KT H kvs xs)(k:List Key){b:Addr}{y:V}{u:Value}(hb:H b=some (.tup (k.map kV)))(ry:RelV y u):
  KT H (putK kvs k y) (storedH xs k b u):=by
 have e:(kvs.any λkv=>decide (kv.1=k))=(atKey xs k).isSome:=by
  rw[valV_any,(r.val k).isSome_eq,Option.isSome_map]
 unfold putK storedH
 rw[e]
 by_cases q:(atKey xs k).isSome=true
 ·rw[if_pos q,if_pos q];exact r.repl k ry
 ·rw[if_neg q,if_neg q];exact Paired.snoc r ⟨rfl,hb,ry⟩
theorem KT.keeps {H H':Hp}{kvs:List (List Key×V)}{xs:List (List Key×Addr×Value)}(r:KT H kvs xs)(ht:∀b ys,H b=some (.tup ys)->H' b=some (.tup ys)):KT H' kvs xs:=
 Paired.mapP r λ_ _ z=>⟨z.1,ht _ _ z.2.1,z.2.2⟩
section
variable {P:Program}{w:World}{H:Hp}{h:Heap}{a:Addr}
theorem rd_of {u:HO}(ok:HOk P w H h)(e:Rd H a u):ObjOk P w H h a u:=e.ok ok
theorem dk_rd {kvs:List (Key×V)}(ok:HOk P w H h)(e:Rd H a (.dK kvs)):kvs.length<=sizeLine/\(a==sysModules)=false/\∃vs,KV kvs vs/\h.DictOf (mixKind P w) a vs:=
 show ObjOk P w H h a (.dK kvs)from rd_of ok e
theorem dk_of {kvs:List (Key×V)}(ok:HOk P w H h)(e:H a=some (.dK kvs)):kvs.length<=sizeLine/\(a==sysModules)=false/\∃vs,KV kvs vs/\h.DictOf (mixKind P w) a vs:=dk_rd ok (.inl e)
theorem key_of {ks:List Key}(ok:HOk P w H h)(e:H a=some (.tup (ks.map kV))):(tupleKind (mixKind P w)).is h ks a:=by
 obtain⟨_,its,r,o,h1,h2,n,h3⟩:=(show ObjOk P w H h a (.tup (ks.map kV))from ok a _ e)
 exact⟨o,its.toArray,n,h1,h2,h3,by simpa using items_are r⟩
theorem dt_rd {kvs:List (List Key×V)}(ok:HOk P w H h)(e:Rd H a (.dT kvs)):kvs.length<=sizeLine/\(a==sysModules)=false/\
  ∃xs,KT H kvs xs/\h.DictOfH (tupleKind (mixKind P w)) a xs:=by
 obtain⟨z,y,xs,r,o,es,ep,h1,h2,h3,h4,h5⟩:=(show ObjOk P w H h a (.dT kvs)from rd_of ok e)
 refine⟨z,y,xs,r,o,es,ep,h1,h2,h3,h4,λx hx=>?_,h5⟩
 have all:∀{l:List (List Key×V)} {m:List (List Key×Addr×Value)},KT H l m->∀x∈m,(tupleKind (mixKind P w)).is h x.1 x.2.1:=by
  intro l m q
  induction q with
  |nil=>intro x hx;exact nomatch hx
  | @cons p q ps qs hq t ih=>
   intro x hx
   rcases List.mem_cons.mp hx with e|hx
   ·subst e
    exact key_of ok (by rw[<-hq.1];exact hq.2.1)
   ·exact ih x hx
 exact all r x hx
theorem dt_of {kvs:List (List Key×V)}(ok:HOk P w H h)(e:H a=some (.dT kvs)):kvs.length<=sizeLine/\(a==sysModules)=false/\
  ∃xs,KT H kvs xs/\h.DictOfH (tupleKind (mixKind P w)) a xs:=dt_rd ok (.inl e)
end
def DGet (H:Hp)(a:Addr)(y:V)(r:Option V):Prop:=
 (∃kvs k,Rd H a (.dK kvs)/\y=kV k/\r=valV kvs k)\/∃kvs k b,Rd H a (.dT kvs)/\y=.ref b/\H b=some (.tup (k.map kV))/\r=valV kvs k
def DPut (H:Hp)(a:Addr)(y v:V)(H':Hp):Prop:=
 (∃kvs k,H a=some (.dK kvs)/\y=kV k/\kvs.length<sizeLine/\H'=upd H a (.dK (putK kvs k v)))\/
 ∃kvs k b,H a=some (.dT kvs)/\y=.ref b/\H b=some (.tup (k.map kV))/\kvs.length<sizeLine/\H'=upd H a (.dT (putK kvs k v))
theorem DGet.k {H:Hp}{a:Addr}{kvs:List (Key×V)}{k:Key}(e:H a=some (.dK kvs)):DGet H a (kV k) (valV kvs k):=.inl ⟨kvs,k,.inl e,rfl,rfl⟩
theorem DGet.t {H:Hp}{a b:Addr}{kvs:List (List Key×V)}{k:List Key}(e:H a=some (.dT kvs))(eb:H b=some (.tup (k.map kV))):DGet H a (.ref b) (valV kvs k):=.inr ⟨kvs,k,b,.inl e,rfl,eb,rfl⟩
theorem DPut.k {H:Hp}{a:Addr}{kvs:List (Key×V)}{k:Key}{v:V}(e:H a=some (.dK kvs))(hl:kvs.length<sizeLine):DPut H a (kV k) v (upd H a (.dK (putK kvs k v))):=.inl ⟨kvs,k,e,rfl,hl,rfl⟩
theorem DPut.t {H:Hp}{a b:Addr}{kvs:List (List Key×V)}{k:List Key}{v:V}(e:H a=some (.dT kvs))(eb:H b=some (.tup (k.map kV)))(hl:kvs.length<sizeLine):
  DPut H a (.ref b) v (upd H a (.dT (putK kvs k v))):=.inr ⟨kvs,k,b,e,rfl,eb,hl,rfl⟩
section
variable {X:Cx}{pins:List (Addr×Obj)}{Z:St}{H:Hp}{s:Shared}{a:Addr}{y v:V}{u r:Value}{o:Option V}{A:Around}{E:Value->Shared->Prop}
theorem Inv.big (I:Inv X pins Z H s):sysModules<s.heap.objs.size:=by
 have h:mainGlobals<s.heap.objs.size:=(I.mod.glob.keeps I.bk).lt
 exact Nat.lt_trans (by decide) h
theorem d_getItem {Q:Value->Shared->Prop}(hu:A.units+1<cLine)(I:Inv X pins Z H s)(g:DGet H a y (some v))(ry:RelV y u)(h:∀w' s',Inv X pins Z H s'->RelV v w'->Q w' s'):
  wpAny (model X.prog X.w) A (getItem (.ref a) u) Q E s:=by
 rcases g with ⟨kvs,k,e,ey,l⟩|⟨kvs,k,b,e,ey,eb,l⟩
 ·subst ey
  obtain⟨z,hd,vs,rel,dd⟩:=dk_rd I.hok e
  obtain⟨w',hw,rw'⟩:=RelO.some_of (v:=v) (o:=valueAt vs k) (by rw[l];exact rel.val k)
  exact wpAny_getItem_of (kV_is ry) dd.mapOf hw (h w' _ (I.tok _) rw')
 ·subst ey
  cases (show u=Value.ref b from ry)
  obtain⟨z,hd,xs,rel,dd⟩:=dt_rd I.hok e
  obtain⟨w',hw,rw'⟩:=RelO.some_of (v:=v) (o:=(atKey xs k).map (·.2)) (by rw[l];exact rel.val k)
  obtain⟨p,hp,hp2⟩:=Option.map_eq_some_iff.mp hw
  refine wpAny_getItem_heap (tupleKind_room_in1 hu) (key_of I.hok eb) dd hp ?_
  rw[hp2]
  exact h w' _ (I.tok _) rw'
theorem d_in {Q:Value->Shared->Prop}(hu:A.units+1<cLine)(I:Inv X pins Z H s)(g:DGet H a y o)(ry:RelV y u)(h:∀s',Inv X pins Z H s'->Q (.bool o.isSome) s'):
  wpAny (model X.prog X.w) A (compareOp .In u (.ref a)) Q E s:=by
 rcases g with ⟨kvs,k,e,ey,l⟩|⟨kvs,k,b,e,ey,eb,l⟩
 ·subst ey
  obtain⟨z,hd,vs,rel,dd⟩:=dk_rd I.hok e
  refine wpAny_in_of (kV_is ry) hd dd.mapOf ?_
  rw[<-(rel.val k).isSome_eq,<-l]
  exact h _ (I.tok _)
 ·subst ey
  cases (show u=Value.ref b from ry)
  obtain⟨z,hd,xs,rel,dd⟩:=dt_rd I.hok e
  refine wpAny_in_heap (tupleKind_room_in1 hu) (key_of I.hok eb) hd dd ?_
  have q:=(rel.val k).isSome_eq
  rw[Option.isSome_map]at q
  rw[<-q,<-l]
  exact h _ (I.tok _)
theorem d_notIn {Q:Value->Shared->Prop}(hu:A.units+1<cLine)(I:Inv X pins Z H s)(g:DGet H a y o)(ry:RelV y u)(h:∀s',Inv X pins Z H s'->Q (.bool (!o.isSome)) s'):
  wpAny (model X.prog X.w) A (compareOp .NotIn u (.ref a)) Q E s:=by
 rcases g with ⟨kvs,k,e,ey,l⟩|⟨kvs,k,b,e,ey,eb,l⟩
 ·subst ey
  obtain⟨z,hd,vs,rel,dd⟩:=dk_rd I.hok e
  refine wpAny_notIn_of (kV_is ry) hd dd.mapOf ?_
  rw[<-(rel.val k).isSome_eq,<-l]
  exact h _ (I.tok _)
 ·subst ey
  cases (show u=Value.ref b from ry)
  obtain⟨z,hd,xs,rel,dd⟩:=dt_rd I.hok e
  refine wpAny_notIn_heap (tupleKind_room_in1 hu) (key_of I.hok eb) hd dd ?_
  have q:=(rel.val k).isSome_eq
  rw[Option.isSome_map]at q
  rw[<-q,<-l]
  exact h _ (I.tok _)
theorem d_write {h':Heap}{t':Nat}{ob:HO}(I:Inv X pins Z H s)(mu:Mut (H a))(hs:Heap.SameBut a s.heap h')(he:∃q,h'.get? a=some q)(new:ObjOk X.prog X.w (upd H a ob) h' a ob):
  Inv X pins Z (upd H a ob) {s with heap:=h',toks:=t'}:=
 I.write (x:=a) (e:=a) mu (.inl rfl) (λb q hb z=>(hs.2 b hb).trans z) he new
theorem dk_new {P:Program}{w:World}{H':Hp}{h':Heap}{kvs:List (Key×V)}{vs:List (Key×Value)}(z:kvs.length<=sizeLine)(hd:(a==sysModules)=false)(rel:KV kvs vs)(dd:h'.DictOf (mixKind P w) a vs):
  ObjOk P w H' h' a (.dK kvs):=⟨z,hd,vs,rel,dd⟩
theorem d_setItem {H':Hp}{Q:Unit->Shared->Prop}(hu:A.units+1<cLine)(I:Inv X pins Z H s)(g:DPut H a y v H')(ry:RelV y u)(rv:RelV v r)(h:∀s',Inv X pins Z H' s'->Q () s'):
  wpAny (model X.prog X.w) A (setItem (.ref a) u r) Q E s:=by
 rcases g with ⟨kvs,k,e,ey,l,eH⟩|⟨kvs,k,b,e,ey,eb,l,eH⟩
 ·subst ey eH
  obtain⟨z,hd,vs,rel,dd⟩:=dk_of I.hok e
  have hz:vs.length<=sizeLine:=by rw[<-rel.length];exact z
  have hl:(putK kvs k v).length<=sizeLine:=by have:=length_putK kvs k v;omega
  refine wpAny_setItem_pairs (hsz:=hz) (kV_is ry) dd λh' dd' hs=>h _ ?_
  have he:∃q,h'.get? a=some q:=let⟨q,_,_,hq,_⟩:=dd';⟨q,hq⟩
  exact d_write I (by rw[e];exact True.intro) hs he (dk_new hl hd (rel.put k rv) dd')
 ·subst ey eH
  cases (show u=Value.ref b from ry)
  obtain⟨z,hd,xs,rel,dd⟩:=dt_of I.hok e
  have hz:xs.length<=sizeLine:=by rw[<-Paired.length rel];exact z
  have hl:(putK kvs k v).length<=sizeLine:=by have:=length_putK kvs k v;omega
  refine wpAny_setItem_heap (hsz:=hz) (tupleKind_room_in1 hu) (key_of I.hok eb) dd λh' dd' hs=>h _ ?_
  obtain⟨q,es,ep,hq,h2,h3,h4,_,h5⟩:=dd'
  refine d_write I (by rw[e];exact True.intro) hs ⟨q,hq⟩ ⟨hl,hd,_,(rel.put k eb rv).keeps λc ys ec=>?_,q,es,ep,hq,h2,h3,h4,h5⟩
  rw[upd_ne (ne_of ec e (λz=>nomatch z))]
  exact ec
end
section
variable {X:Cx}{pins:List (Addr×Obj)}{Z:St}{H:Hp}{s:Shared}{a:Addr}{kvs:List (Key×V)}{k:Key}{u:Value}{A:Around}{E:Value->Shared->Prop}
theorem d_pop {v:V}{more:List Value}{Q:Value->Shared->Prop}(I:Inv X pins Z H s)(e:H a=some (.dK kvs))(ry:RelV (kV k) u)(l:valV kvs k=some v)(hm:more=[]\/∃x,more=[x])
  (h:∀w' s',Inv X pins Z (upd H a (.dK (dropK kvs k))) s'->RelV v w'->Q w' s'):wpAny (model X.prog X.w) A (call (.builtin "dict.pop") (.ref a::u::more)) Q E s:=by
 obtain⟨z,hd,vs,rel,dd⟩:=dk_of I.hok e
 obtain⟨w',hw,rw'⟩:=RelO.some_of (v:=v) (o:=valueAt vs k) (by rw[<-l];exact rel.val k)
 have hp:(keyPart u).isSome=true:=by
  cases k with
  |inl i=>obtain⟨t,q⟩:=(show∃t,u=Value.int i t from ry);subst q;rfl
  |inr x=>obtain⟨t,q⟩:=(show∃t,u=Value.str x t from ry);subst q;rfl
 have ha:argsOk "dict.pop" ⟨.ref a::u::more,[]⟩:=by
  rcases hm with q|⟨x,q⟩
  ·subst q;exact PySem.F.args_dict_pop_2 _ _
  ·subst q;exact PySem.F.args_dict_pop_3 _ _ _
 refine call_meetsIn PySem.F.slot_dict_pop dd.typeIs PySem.F.entry_dict_pop ha (meets_dict_pop_there (mixKind X.prog X.w) a (kV_is ry) more hm hp)
  ⟨vs,w',dd,by rw[<-rel.length];exact z,hw,λh' dd' hs=>h w' _ ?_ rw'⟩
 have he:∃q,h'.get? a=some q:=let⟨q,_,_,hq,_⟩:=dd';⟨q,hq⟩
 exact d_write I (by rw[e];exact True.intro) hs he (dk_new (Nat.le_trans (dropK_le kvs k) z) hd (rel.drop k) dd')
theorem d_len {Q:Value->Shared->Prop}(I:Inv X pins Z H s)(e:Rd H a (.dK kvs))(h:∀t s',Inv X pins Z H s'->Q (.int kvs.length t) s'):wpAny (model X.prog X.w) A (call (.builtin "len") [.ref a]) Q E s:=by
 obtain⟨z,hd,vs,rel,dd⟩:=dk_rd I.hok e
 refine call_len_dict hd dd (by rw[<-rel.length];rw[sizeLine_eq]at z;omega) ?_
 rw[<-rel.length]
 exact h _ _ (I.tok _)
end
def NoSl (i:Expr):Prop:=∀ov iv,subscripted i false ov iv=operate [ov,iv] (getItem ov iv)
theorem subD_of {prog:Program}{w:World}{A:Around}{E:Value->Shared->Prop}{s:Shared}{env:Env}{value slice:Expr}{pos:Pos}{T id:String}{Q:Value->Shared->Prop}
  (hl:typeLookup (.type T) "__getitem__"=pure (some (.builtin id))) (hs:NoSl slice)
  (h:wpAny (model prog w) A (eval value env) (λo s₁=>wpAny (model prog w) A (eval slice env) (λi s₂=>s₂.TypeIs o T/\wpAny (model prog w) A (getItem o i) Q E s₂) E s₁) E s):
  wpAny (model prog w) A (eval (.Subscript value slice pos) env) Q E s:=by
 refine Subscript_ (wpAny_mono h (λo s₁ h₁=>wpAny_mono h₁ (λi s₂ h₂=>?_) λ_ _ x=>x) λ_ _ x=>x)
 obtain⟨hT,h₂⟩:=h₂
 unfold subscriptTail
 refine wpAny_bind ?_
 rw[getitemInPython_of_ne hT.not_modules]
 refine wpAny_bind (wpAny_specialOf hT hl ?_)
 have fin:wpAny (model prog w) A (subscripted slice false o i) (λr s₃=>wpAny (model prog w) A (letTemporaryGo value o r>>=λ_=>pure r) Q E s₃) E s₂:=by
  rw[hs o i]
  exact wpAny_operating (wpAny_mono h₂ (λr s₃ h₃=>wpAny_bind (wpAny_letTemporaryGo (wpAny_pure h₃))) λ_ _ x=>x)
 first
  |exact wpAny_pure (wpAny_bind fin)
  |exact wpAny_bind (wpAny_pure (wpAny_bind fin))
  |exact wpAny_bind fin
theorem dict_typeIs {X:Cx}{pins:List (Addr×Obj)}{Z:St}{H:Hp}{s:Shared}{a:Addr}{y:V}{o:Option V}(I:Inv X pins Z H s)(g:DGet H a y o):s.TypeIs (.ref a) "dict":=by
 rcases g with ⟨kvs,k,e,_,_⟩|⟨kvs,k,b,e,_,_,_⟩
 ·obtain⟨_,_,vs,_,dd⟩:=dk_rd I.hok e
  exact dd.typeIs
 ·obtain⟨_,_,xs,_,dd⟩:=dt_rd I.hok e
  exact dd.typeIs
def tDGet (td ty:TE):TE:=λZ H Q=>td Z H λx H1=>ty Z H1 λy H2=>∃a v,x=.ref a/\DGet H2 a y (some v)/\Q v H2
def tDIn (ty td:TE):TE:=λZ H Q=>ty Z H λy H1=>td Z H1 λx H2=>∃a o,x=.ref a/\DGet H2 a y o/\Q (.bl o.isSome) H2
def tDNotIn (ty td:TE):TE:=λZ H Q=>ty Z H λy H1=>td Z H1 λx H2=>∃a o,x=.ref a/\DGet H2 a y o/\Q (.bl (!o.isSome)) H2
def sDPut (td ty tv:TE):TS:=λD Z H=>tv Z H λv H1=>td Z H1 λx H2=>ty Z H2 λy H3=>∃a H4,x=.ref a/\DPut H3 a y v H4/\D.nx Z H4
section
variable {X:Cx}{o i e value:Expr}{pos pos' tpos:Pos}{td ty tv:TE}
theorem pe_dget (hu:X.A.units+1<cLine)(ho:PE X o td)(hi:PE X i ty)(hs:NoSl i):PE X (.Subscript o i pos) (tDGet td ty):=by
 intro pins s Z H Q I h
 refine subD_of PySem.F.slot_dict_getitem.lookup hs (thn (ho pins s Z H _ I h) λu s1 ⟨x,H1,I1,rx,q1⟩=>thn (hi pins s1 Z H1 _ I1 q1) λiv s2 ⟨y,H2,I2,ry,a,v,ex,g,q2⟩=>?_)
 subst ex
 obtain rfl:u=Value.ref a:=rx
 exact⟨dict_typeIs I2 g,d_getItem hu I2 g ry λw' s3 I3 rw'=>⟨v,H2,I3,rw',q2⟩⟩
theorem pc_din (hu:X.A.units+1<cLine)(hi:PE X i ty)(ho:PE X o td):PC X .In i o (tDIn ty td):=by
 intro pins s Z H Q I h
 refine thn (hi pins s Z H _ I h) λiv s1 ⟨y,H1,I1,ry,q1⟩=>thn (ho pins s1 Z H1 _ I1 q1) λu s2 ⟨x,H2,I2,rx,a,ov,ex,g,q2⟩=>?_
 subst ex
 obtain rfl:u=Value.ref a:=rx
 exact d_in hu I2 g ry λs3 I3=>⟨.bl ov.isSome,H2,I3,rfl,q2⟩
theorem pc_dnotin (hu:X.A.units+1<cLine)(hi:PE X i ty)(ho:PE X o td):PC X .NotIn i o (tDNotIn ty td):=by
 intro pins s Z H Q I h
 refine thn (hi pins s Z H _ I h) λiv s1 ⟨y,H1,I1,ry,q1⟩=>thn (ho pins s1 Z H1 _ I1 q1) λu s2 ⟨x,H2,I2,rx,a,ov,ex,g,q2⟩=>?_
 subst ex
 obtain rfl:u=Value.ref a:=rx
 exact d_notIn hu I2 g ry λs3 I3=>⟨.bl (!ov.isSome),H2,I3,rfl,q2⟩
theorem ps_dput (hu:X.A.units+1<cLine)(ho:PE X o td)(hi:PE X i ty)(hv:PE X value tv)(hs:swapsWith value (some (.Subscript o i pos')) pos.line X.env=pure false):
  PS X (.Assign [.Subscript o i pos'] value pos) (sDPut td ty tv):=by
 intro pins s Z H D I h
 refine wpAny_Assign_Subscript (thn (hv pins s Z H _ I h) λr s1 ⟨v,H1,I1,rv,q1⟩=>thn (ho pins s1 Z H1 _ I1 q1) λu s2 ⟨x,H2,I2,rx,q2⟩=>thn (hi pins s2 Z H2 _ I2 q2) λiv s3 ⟨y,H3,I3,ry,a,H4,ex,g,q3⟩=>?_) hs
 subst ex
 obtain rfl:u=Value.ref a:=rx
 exact d_setItem hu I3 g ry rv λs4 I4=>⟨Z,H4,I4,q3⟩
end
theorem dk_empty {P:Program}{w:World}{H:Hp}(h:Heap)(hb:sysModules<h.objs.size):ObjOk P w H (h.push {cls:=.type "dict",data:=.dict #[]}) h.objs.size (.dK []):=
 ⟨Nat.zero_le _,beq_eq_false_iff_ne.mpr (Ne.symm (Nat.ne_of_lt hb)),[],.nil,Heap.DictOf.new h⟩
theorem dt_empty {P:Program}{w:World}{H:Hp}(h:Heap)(hb:sysModules<h.objs.size):ObjOk P w H (h.push {cls:=.type "dict",data:=.dict #[]}) h.objs.size (.dT []):=
 ⟨Nat.zero_le _,beq_eq_false_iff_ne.mpr (Ne.symm (Nat.ne_of_lt hb)),[],.nil,_, #[],0,Heap.get?_push_size _ rfl,⟨rfl,rfl,rfl⟩,rfl,rfl,List.nodup_nil⟩
def tDNewK:TE:=λ_ H Q=>∀p,H p=none->Q (.ref p) (upd H p (.dK []))
def tDNewT:TE:=λ_ H Q=>∀p,H p=none->Q (.ref p) (upd H p (.dT []))
section
variable {X:Cx}{pos:Pos}
theorem pe_dnewK:PE X (.Dict [] [] pos) tDNewK:=λpins s Z H Q I h=>
 wpAny_Dict_empty ⟨.ref s.heap.objs.size,_,I.laid (a:=s.heap.objs.size) (o:=.dK []) (t':=s.toks) (λ_ _ q=>Heap.get?_push_of_some _ q) (Nat.le_refl _) (dk_empty s.heap I.big),rfl,h _ (I.hok.fresh (Nat.le_refl _))⟩
theorem pe_dnewT:PE X (.Dict [] [] pos) tDNewT:=λpins s Z H Q I h=>
 wpAny_Dict_empty ⟨.ref s.heap.objs.size,_,I.laid (a:=s.heap.objs.size) (o:=.dT []) (t':=s.toks) (λ_ _ q=>Heap.get?_push_of_some _ q) (Nat.le_refl _) (dt_empty s.heap I.big),rfl,h _ (I.hok.fresh (Nat.le_refl _))⟩
end
structure M1 (X:Cx)(o:Expr)(m:Str)(apos:Pos)(e:Expr)(cpos:Pos):Prop where
 base:attributeBase o m X.env (eval o X.env)=eval o X.env
 few:((backTo cpos (starEach [e] X.env)).all (λx=>!x.1)&&(backToKw cpos (keywordEach [] X.env)).all (λx=>x.1.isSome)
  &&decide (([e]:List Expr).length+([]:List Keyword).length+(if([]:List Keyword).isEmpty then 0 else 1)<30))=true
 line:(apos.endLine==cpos.line)=true
 trees:backTo cpos (starEach [e] X.env)=[(false,eval e X.env)]
structure M2 (X:Cx)(o:Expr)(m:Str)(apos:Pos)(e f:Expr)(cpos:Pos):Prop where
 base:attributeBase o m X.env (eval o X.env)=eval o X.env
 few:((backTo cpos (starEach [e,f] X.env)).all (λx=>!x.1)&&(backToKw cpos (keywordEach [] X.env)).all (λx=>x.1.isSome)
  &&decide (([e,f]:List Expr).length+([]:List Keyword).length+(if([]:List Keyword).isEmpty then 0 else 1)<30))=true
 line:(apos.endLine==cpos.line)=true
 trees:backTo cpos (starEach [e,f] X.env)=[(false,eval e X.env),(false,eval f X.env)]
def IsD (H:Hp)(a:Addr):Prop:=(∃kvs,Rd H a (.dK kvs))\/∃kvs,Rd H a (.dT kvs)
theorem isD_at {X:Cx}{pins:List (Addr×Obj)}{Z:St}{H:Hp}{s:Shared}{a:Addr}(I:Inv X pins Z H s)(d:IsD H a):
  s.TypeIs (.ref a) "dict"/\(∀b,Value.ref a=.ref b->∃ob,s.heap.get? b=some ob/\ob.dict=none)/\(a==sysModules)=false:=by
 rcases d with ⟨kvs,e⟩|⟨kvs,e⟩
 ·obtain⟨_,hd,vs,_,dd⟩:=dk_rd I.hok e
  refine⟨dd.typeIs,λb q=>?_,hd⟩
  cases q
  obtain⟨ob,_,_,h1,h2,_⟩:=dd
  exact⟨ob,h1,h2.2.1⟩
 ·obtain⟨_,hd,xs,_,dd⟩:=dt_rd I.hok e
  refine⟨dd.typeIs,λb q=>?_,hd⟩
  cases q
  obtain⟨ob,_,_,h1,h2,_⟩:=dd
  exact⟨ob,h1,h2.2.1⟩
section
variable {X:Cx}{pins:List (Addr×Obj)}{Z:St}{H:Hp}{s:Shared}{a:Addr}{y d:V}{u r:Value}{o:Option V}{A:Around}{E:Value->Shared->Prop}
theorem d_get1 {Q:Value->Shared->Prop}(hu:A.units+1<cLine)(I:Inv X pins Z H s)(g:DGet H a y o)(ry:RelV y u)(h:∀w' s',Inv X pins Z H s'->RelV (o.getD .non) w'->Q w' s'):
  wpAny (model X.prog X.w) A (call (.builtin "dict.get") [.ref a,u]) Q E s:=by
 rcases g with ⟨kvs,k,e,ey,l⟩|⟨kvs,k,b,e,ey,eb,l⟩
 ·subst ey
  obtain⟨z,hd,vs,rel,dd⟩:=dk_rd I.hok e
  refine call_meetsIn PySem.F.slot_dict_get dd.typeIs PySem.F.entry_dict_get (PySem.F.args_dict_get_2 _ _) (meets_dict_get (mixKind X.prog X.w) a (kV_is ry) hd) ⟨_,dd.mapOf,h _ _ (I.tok _) ?_⟩
  rw[l]
  exact(rel.val k).getD rfl
 ·subst ey
  cases (show u=Value.ref b from ry)
  obtain⟨z,hd,xs,rel,dd⟩:=dt_rd I.hok e
  refine call_meetsIn PySem.F.slot_dict_get dd.typeIs PySem.F.entry_dict_get (PySem.F.args_dict_get_2 _ _) (meetsH_dict_get (tupleKind (mixKind X.prog X.w)) a b hd) ⟨tupleKind_room_in1 hu,k,xs,key_of I.hok eb,dd,h _ _ (I.tok _) ?_⟩
  rw[l]
  exact(rel.val k).getD rfl
theorem d_get2 {Q:Value->Shared->Prop}(hu:A.units+1<cLine)(I:Inv X pins Z H s)(g:DGet H a y o)(ry:RelV y u)(rd:RelV d r)(h:∀w' s',Inv X pins Z H s'->RelV (o.getD d) w'->Q w' s'):
  wpAny (model X.prog X.w) A (call (.builtin "dict.get") [.ref a,u,r]) Q E s:=by
 rcases g with ⟨kvs,k,e,ey,l⟩|⟨kvs,k,b,e,ey,eb,l⟩
 ·subst ey
  obtain⟨z,hd,vs,rel,dd⟩:=dk_rd I.hok e
  refine call_meetsIn PySem.F.slot_dict_get dd.typeIs PySem.F.entry_dict_get (PySem.F.args_dict_get_3 _ _ _) (meets_dict_get_default (mixKind X.prog X.w) a (kV_is ry) hd r) ⟨_,dd.mapOf,h _ _ (I.tok _) ?_⟩
  rw[l]
  exact(rel.val k).getD rd
 ·subst ey
  cases (show u=Value.ref b from ry)
  obtain⟨z,hd,xs,rel,dd⟩:=dt_rd I.hok e
  refine call_meetsIn PySem.F.slot_dict_get dd.typeIs PySem.F.entry_dict_get (PySem.F.args_dict_get_3 _ _ _) (meetsH_dict_get_default (tupleKind (mixKind X.prog X.w)) a b hd r) ⟨tupleKind_room_in1 hu,k,xs,key_of I.hok eb,dd,h _ _ (I.tok _) ?_⟩
  rw[l]
  exact(rel.val k).getD rd
end
def tDGet1 (td ty:TE):TE:=λZ H Q=>td Z H λx H1=>∃a,x=.ref a/\IsD H1 a/\ty Z H1 λy H2=>∃o,DGet H2 a y o/\Q (o.getD .non) H2
def tDGet2 (td ty tx:TE):TE:=λZ H Q=>td Z H λx H1=>∃a,x=.ref a/\IsD H1 a/\ty Z H1 λy H2=>tx Z H2 λz H3=>∃o,DGet H3 a y o/\Q (o.getD z) H3
def tDPop1 (td ty:TE):TE:=λZ H Q=>td Z H λx H1=>∃a,x=.ref a/\IsD H1 a/\ty Z H1 λy H2=>∃kvs k v,H2 a=some (.dK kvs)/\y=kV k/\valV kvs k=some v/\Q v (upd H2 a (.dK (dropK kvs k)))
section
variable {X:Cx}{o e f:Expr}{apos cpos:Pos}{td ty tx:TE}
theorem pe_dget1 (hu:X.A.units+1<cLine)(ho:PE X o td)(he:PE X e ty)(m:M1 X o "get" apos e cpos):PE X (.Call (.Attribute o "get" apos) [e] [] cpos) (tDGet1 td ty):=by
 intro pins s Z H Q I h
 refine wpAny_Call_method m.base m.few m.line PySem.F.plainAttrs_dict PySem.F.slot_dict_get PySem.F.type_dict_get (thn (ho pins s Z H _ I h) λu s1 ⟨x,H1,I1,rx,a,ex,d,q1⟩=>?_)
 subst ex
 obtain rfl:u=Value.ref a:=rx
 obtain⟨t1,t2,_⟩:=isD_at I1 d
 refine⟨t1,t2,?_⟩
 rw[m.trees]
 refine Calls.callWith_builtin rfl (Calls.evalArgs_plain (Calls.spliced_cons (thn (he pins s1 Z H1 _ I1 q1) λiv s2 ⟨y,H2,I2,ry,ov,g,q2⟩=>Calls.spliced_nil ?_)))
 exact d_get1 hu I2 g ry λw' s3 I3 rw'=>⟨_,H2,I3,rw',q2⟩
theorem pe_dget2 (hu:X.A.units+1<cLine)(ho:PE X o td)(he:PE X e ty)(hf:PE X f tx)(m:M2 X o "get" apos e f cpos):PE X (.Call (.Attribute o "get" apos) [e,f] [] cpos) (tDGet2 td ty tx):=by
 intro pins s Z H Q I h
 refine wpAny_Call_method m.base m.few m.line PySem.F.plainAttrs_dict PySem.F.slot_dict_get PySem.F.type_dict_get (thn (ho pins s Z H _ I h) λu s1 ⟨x,H1,I1,rx,a,ex,d,q1⟩=>?_)
 subst ex
 obtain rfl:u=Value.ref a:=rx
 obtain⟨t1,t2,_⟩:=isD_at I1 d
 refine⟨t1,t2,?_⟩
 rw[m.trees]
 refine Calls.callWith_builtin rfl (Calls.evalArgs_plain (Calls.spliced_cons (thn (he pins s1 Z H1 _ I1 q1) λiv s2 ⟨y,H2,I2,ry,q2⟩=>
  Calls.spliced_cons (thn (hf pins s2 Z H2 _ I2 q2) λfv s3 ⟨z,H3,I3,rz,ov,g,q3⟩=>Calls.spliced_nil ?_))))
 exact d_get2 hu I3 g ry rz λw' s4 I4 rw'=>⟨_,H3,I4,rw',q3⟩
theorem pe_dpop1 (ho:PE X o td)(he:PE X e ty)(m:M1 X o "pop" apos e cpos):PE X (.Call (.Attribute o "pop" apos) [e] [] cpos) (tDPop1 td ty):=by
 intro pins s Z H Q I h
 refine wpAny_Call_method m.base m.few m.line PySem.F.plainAttrs_dict PySem.F.slot_dict_pop PySem.F.type_dict_pop (thn (ho pins s Z H _ I h) λu s1 ⟨x,H1,I1,rx,a,ex,d,q1⟩=>?_)
 subst ex
 obtain rfl:u=Value.ref a:=rx
 obtain⟨t1,t2,_⟩:=isD_at I1 d
 refine⟨t1,t2,?_⟩
 rw[m.trees]
 refine Calls.callWith_builtin rfl (Calls.evalArgs_plain (Calls.spliced_cons (thn (he pins s1 Z H1 _ I1 q1) λiv s2 ⟨y,H2,I2,ry,kvs,k,v,ea,ey,l,q2⟩=>Calls.spliced_nil ?_)))
 subst ey
 exact d_pop I2 ea ry l (.inl rfl) λw' s3 I3 rw'=>⟨v,_,I3,rw',q2⟩
end
section
variable {X:Cx}{pins:List (Addr×Obj)}{Z:St}{H:Hp}{s:Shared}{a:Addr}{kvs:List (Key×V)}{A:Around}{E:Value->Shared->Prop}
end
section
variable {X:Cx}{pins:List (Addr×Obj)}{Z:St}{H:Hp}{s:Shared}{a:Addr}{y:V}{u:Value}{A:Around}{E:Value->Shared->Prop}
end
end L2
namespace L2
open PySem PySem.Spec PyProof.Rows
section
variable {prog:Program}{w:World}{A:Around}{E:Value->Shared->Prop}
end
section
variable {X:Cx}
end
end L2
namespace L2
open PySem PySem.Spec PyProof.Rows
section
variable {X:Cx}{pins:List (Addr×Obj)}{Z:St}{H:Hp}{s:Shared}{h':Heap}
theorem Inv.turnedL {t':Nat}{ch:List Addr}(I:Inv X pins Z H s)(k:∀b o,b∉ch->s.heap.get? b=some o->h'.get? b=some o)(hf:∀b∈ch,FpOk X pins H b):Inv X pins Z H {s with heap:=h',toks:=t'}:=by
 have nit:∀b u,H b=some u->b∉ch:=λb u e z=>by
  have q:=(hf b z).1
  rw[q]at e;cases e
 refine I.step (g':=s.gens) (d':=s.drawn) (ch:=ch) (λb hb=>⟨(hf b hb).2.2.2.1,(hf b hb).2.1,(hf b hb).2.2.2.2.1,(hf b hb).2.2.2.2.2⟩) (λb o _ _ hc e _=>k b o hc e) (λb o _ _ hc e _=>⟨o.slots,k b o hc e⟩)
  (λ_ _ _ _ n=>n) (λb o hc e=>⟨o,k b o hc e⟩) (λ_ _ e=>e) (λ_ _ _ e=>e) (λb ps e=>⟨#[],by rw[e];simp⟩) (λm hm=>?_) (λb u e=>?_) I.bare
 ·obtain⟨o,es,ep,ho,r⟩:=hm
  exact⟨o,es,ep,k _ o (λz=>(hf _ z).2.1 rfl) ho,r⟩
 ·refine(I.hok b u e).stay (λc v hc q=>k c v ?_ q) (λ_ q=>q) λ_ _ q=>q
  rcases hc with z|z
  ·rw[z];exact nit b u e
  ·exact nit c _ z
theorem Inv.turnedNew {t':Nat}{ch:List Addr}{T:Addr}{ob:HO}(I:Inv X pins Z H s)(k:∀b o,b∉ch->s.heap.get? b=some o->h'.get? b=some o)(hf:∀b∈ch,FpOk X pins H b)(hT:s.heap.objs.size<=T)
  (new:ObjOk X.prog X.w (upd H T ob) h' T ob):Inv X pins Z (upd H T ob) {s with heap:=h',toks:=t'}:=by
 have hn:H T=none:=I.hok.fresh hT
 have nit:∀b u,H b=some u->b∉ch:=λb u e z=>by
  have q:=(hf b z).1
  rw[q]at e;cases e
 refine I.step (g':=s.gens) (d':=s.drawn) (ch:=ch) (λb hb=>⟨(hf b hb).2.2.2.1,(hf b hb).2.1,(hf b hb).2.2.2.2.1,(hf b hb).2.2.2.2.2⟩) (λb o _ _ hc e _=>k b o hc e) (λb o _ _ hc e _=>⟨o.slots,k b o hc e⟩)
  (λb o _ e n=>?_) (λb o hc e=>⟨o,k b o hc e⟩) (λb xs e=>?_) (λb o u e=>?_) (λb ps e=>⟨#[],?_⟩) (λm hm=>?_) (λb u e=>?_) I.bare
 ·rw[upd_ne (Nat.ne_of_lt (Nat.lt_of_lt_of_le (Heap.lt_size e) hT))];exact n
 ·rw[upd_ne (ne_of_none e hn)];exact e
 ·rw[upd_ne (ne_of_none e hn)];exact e
 ·rw[upd_ne (ne_of_none e hn),e];simp
 ·obtain⟨o,es,ep,ho,r⟩:=hm
  exact⟨o,es,ep,k _ o (λz=>(hf _ z).2.1 rfl) ho,r⟩
 ·by_cases hb:b=T
  ·subst hb
   rw[upd_same]at e
   cases e
   exact new
  ·rw[upd_ne hb]at e
   refine(I.hok b u e).stay (λc v hc q=>k c v ?_ q) (λc q=>by rw[upd_ne (ne_of_none q hn)];exact q) λc xs q=>by rw[upd_ne (ne_of_none q hn)];exact q
   rcases hc with z|z
   ·rw[z];exact nit b u e
   ·exact nit c _ z
theorem Inv.lock {d:Addr}{u:HO}(I:Inv X pins Z H s)(h:H d=some u)(mu:Mut (some u)):∃od,Inv X pins Z (upd H d (.frz od u)) s:=by
 have x:=I.hok d u h
 have ex:∃od,s.heap.get? d=some od:=by
  cases u with
  |lst xs=>obtain⟨_,_,_,_,e⟩:=x;exact⟨_,e⟩
  |dK kvs=>obtain⟨_,_,_,_,o,_,_,e,_⟩:=x;exact⟨o,e⟩
  |dT kvs=>obtain⟨_,_,_,_,o,_,_,e,_⟩:=x;exact⟨o,e⟩
  |set S n=>obtain⟨o,_,_,_,e,_⟩:=x;exact⟨o,e⟩
  |ins C dx fs=>obtain⟨_,_,_,e,_⟩:=x;exact⟨_,e⟩
  |ext φ=>obtain⟨_,⟨_,e⟩,_⟩:=x;exact⟨_,e⟩
  |_=>exact False.elim mu
 obtain⟨od,e⟩:=ex
 have new:ObjOk X.prog X.w (upd H d (.frz od u)) s.heap d (.frz od u):=by
  refine⟨e,x.stay (λb v _ q=>q) (λb q=>?_) λb xs q=>?_⟩
  ·rw[upd_ne (λz=>by rw[z,h]at q;cases q;exact mu)];exact q
  ·rw[upd_ne (λz=>by rw[z,h]at q;cases q;exact mu)];exact q
 exact⟨od,I.write (x:=d) (e:=d) (t':=s.toks) (h':=s.heap) (by rw[h];exact mu) (.inl rfl) (λb v _ q=>q) ⟨od,e⟩ new⟩
theorem Inv.nofrz {d:Addr}{u:HO}(I:Inv X pins Z H s)(h:H d=some u)(mu:Mut (some u)):∀o' u',X.H_0 d≠some (.frz o' u'):=λo' u' e=>by
 have q:=I.base.frzs d o' u' e
 rw[h]at q
 cases q
 exact mu
theorem Inv.unlock {d:Addr}{od:Obj}{u:HO}(I:Inv X pins Z H s)(h:H d=some (.frz od u))(hn:∀o' u',X.H_0 d≠some (.frz o' u')):Inv X pins Z (upd H d u) s:=by
 have neH:∀b o,H b=some o->(∀o' u',o≠ .frz o' u')->b≠d:=λb o e hne z=>by
  rw[z,h]at e
  cases e
  exact hne _ _ rfl
 have neN:∀b,H b=none->b≠d:=λb e z=>by rw[z,h]at e;cases e
 refine⟨I.ok,I.os,I.bare,⟨I.base.keep,I.base.slot,λb o e n hx=>?_,I.base.there,λb xs e=>?_,λb o x e=>?_,λb ps e=>?_⟩,I.loc,I.cell,?_,λx c e=>?_,λp hp=>?_,λb o e=>?_,I.len⟩
 ·rw[upd_ne (neN b (I.base.free b o e n hx))];exact I.base.free b o e n hx
 ·have q:=I.base.tups b xs e
  rw[upd_ne (neH b _ q (λ_ _ z=>nomatch z))];exact q
 ·have q:=I.base.frzs b o x e
  rw[upd_ne (λz=>by rw[z]at e;exact hn _ _ e)];exact q
 ·obtain⟨m,q⟩:=I.base.tbls b ps e
  exact⟨m,by rw[upd_ne (neH b _ q (λ_ _ z=>nomatch z))];exact q⟩
 ·rw[upd_ne (neN _ I.free)];exact I.free
 ·rw[upd_ne (neN c (I.freeC x c e))];exact I.freeC x c e
 ·obtain⟨e,n,r⟩:=I.pin p hp
  exact⟨e,by rw[upd_ne (neN _ n)];exact n,r⟩
 ·by_cases hb:b=d
  ·rw[hb,upd_same]at e
   cases e
   rw[hb]
   obtain⟨_,x⟩:=I.hok d _ h
   exact x.stay (λc v _ q=>q) (λc q=>by rw[upd_ne (neH c _ q (λ_ _ z=>nomatch z))];exact q) λc xs q=>by rw[upd_ne (neH c _ q (λ_ _ z=>nomatch z))];exact q
  ·rw[upd_ne hb]at e
   exact(I.hok b o e).stay (λc v _ q=>q) (λc q=>by rw[upd_ne (neH c _ q (λ_ _ z=>nomatch z))];exact q) λc xs q=>by rw[upd_ne (neH c _ q (λ_ _ z=>nomatch z))];exact q
end
def tLock (t:TS):TS:=λD Z H=>∃d u,H d=some u/\Mut (some u)/\∀od,t ⟨λZ' H'=>H' d=some (.frz od u)/\D.nx Z' (upd H' d u),λv H'=>H' d=some (.frz od u)/\D.rt v (upd H' d u),λZ' H'=>H' d=some (.frz od u)/\D.bk Z' (upd H' d u),λZ' H'=>H' d=some (.frz od u)/\D.ct Z' (upd H' d u)⟩ Z (upd H d (.frz od u))
section
variable {X:Cx}
theorem ps_lock {st:Stmt}{t:TS}(h:PS X st t):PS X st (tLock t):=by
 intro pins s Z H D I hw
 obtain⟨d,u,hd,mu,hw⟩:=hw
 obtain⟨od,I1⟩:=I.lock hd mu
 refine thn (h pins s Z _ _ I1 (hw od)) λf s1 q=>?_
 cases f with
 |next=>obtain⟨Z',H',I2,e,q⟩:=q;exact⟨Z',_,I2.unlock e (I.nofrz hd mu),q⟩
 |brk=>obtain⟨Z',H',I2,e,q⟩:=q;exact⟨Z',_,I2.unlock e (I.nofrz hd mu),q⟩
 |cont=>obtain⟨Z',H',I2,e,q⟩:=q;exact⟨Z',_,I2.unlock e (I.nofrz hd mu),q⟩
 |ret v=>obtain⟨x,Z',H',I2,r,e,q⟩:=q;exact⟨x,Z',_,I2.unlock e (I.nofrz hd mu),r,q⟩
theorem pi_one {tg:Expr}{pins:List (Addr×Obj)}{Z:St}{H:Hp}{s:Shared}{R:It->Hp->Prop}{J:It}{tn:Nat->Heap->Prop}{tk:Nat}(I:Inv X pins Z H s)(o:Obj)
  (T:Turn X.prog X.w X.K tg J [s.heap.objs.size] s.heap.objs.size tn) (st:tn 0 (s.heap.push o)) (q:R J H):PIE X pins Z tg R (.ref s.heap.objs.size) {s with heap:=s.heap.push o,toks:=tk}:=by
 refine⟨s.heap.objs.size,[s.heap.objs.size],tn,J,H,rfl,I.kept λb ob e=>Heap.get?_push_of_some _ e,T,st,λb hb=>?_,q⟩
 have e:b=s.heap.objs.size:=by simpa using hb
 subst e
 exact I.fpOk (Nat.le_refl _) (I.hok.fresh (Nat.le_refl _))
end
section
variable {X:Cx}{tg:Expr}
end
section
variable {X:Cx}{tg:Expr}
end
section
variable {prog:Program}{w:World}{A:Around}{E:Value->Shared->Prop}{s:Shared}
theorem iter_keys {d:Addr}{o:Obj}{es:Array DictEntry}{ep:Nat}{Q:Value->Shared->Prop}(hd:(d==sysModules)=false)(ho:s.heap.get? d=some o)(hc:o.ExactDict)(hdat:o.data=.dict es ep)
  (hQ:Q (.ref s.heap.objs.size) {s with heap:=s.heap.push {cls:=.type "dict_keyiterator",data:=.fields #[.ref d,.int 0 0,.int es.size 0,.int ep 0]}}):
  wpAny (model prog w) A (pyIter (.ref d)) Q E s:=by
 have hT:s.TypeIs (.ref d) "dict":=⟨o,ho,hc.1⟩
 refine wpAny_pyIter_slot hT F.slot_dict_iter (wpAny_call_entry F.slot_dict_iter hT F.entry_dict_iter ?_ (F.args_dict_iter_1 _))
 unfold Builtin.«dict.__iter__»
 refine wpAny_bind ?_
 unfold Builtin.Dict.dictSlotNone
 refine wpAny_bind (wpAny_notOrdered_dict hT ?_)
 show wpAny _ _ (pure (Value.ref d)) _ _ s
 refine wpAny_pure ?_
 show wpAny _ _ (Builtin.Dict.showsAll d>>=_) _ _ s
 unfold Builtin.Dict.showsAll
 rw[if_neg (by rw[hd];exact Bool.false_ne_true)]
 refine wpAny_bind (wpAny_pure ?_)
 refine wpAny_bind (wpAny_dictEntries ho hdat ?_)
 refine wpAny_bind (wpAny_dictEpoch ho hdat ?_)
 refine wpAny_bind (wpAny_newObj_type (wpAny_pure ⟨_,rfl,"dict_keyiterator",_,⟨_,Heap.get?_push_size _ rfl,rfl⟩,F.slot_dict_keyiterator_next.lookup,?_⟩))
 simpa[rawInt]using hQ
theorem next_key_item {it d:Addr}{i n ep:Nat}{od:Obj}{es:Array DictEntry}{en:DictEntry}{Q:Option Value->Shared->Prop}(hit:s.heap.IsKeyIter it d i n ep)(hod:s.heap.get? d=some od)(hdd:od.data=.dict es ep)
  (hsz:es.size=n) (hx:es[i]?=some en) (hQ:∀h',h'.IsKeyIter it d (i+1) n ep->Heap.SameBut it s.heap h'->Q (some en.key) {s with heap:=h'}):wpAny (model prog w) A (pyNext (.ref it)) Q E s:=by
 obtain⟨o,ho,hc,hd⟩:=id hit
 unfold pyNext
 refine wpAny_bind (wpAny_attempt (wpAny_callSpecial?_slot (name:=Str.ofString "__next__") hit.typeIs F.slot_dict_keyiterator_next
  (wpAny_call_entry F.slot_dict_keyiterator_next hit.typeIs F.entry_dict_keyiterator_next ?_ (F.args_dict_keyiterator_next_1 _))))
 refine wpAny_bind (wpAny_pure ?_)
 refine wpAny_bind ?_
 refine wpAny_bind ?_
 first|refine wpAny_bind (wpAny_typeNameOfWhole_keyiter hit.typeIs (wpAny_pure ?_))|refine wpAny_bind (wpAny_typeNameOf_keyiter hit.typeIs (wpAny_pure ?_))
 refine wpAny_bind (wpAny_fieldsOf ho hd ?_)
 have hown:Builtin.Dict_items.ownsTuple "dict_keyiterator"=false:=by decide
 simp only[hown,Bool.false_eq_true,if_false]
 show wpAny _ _ (if(Value.ref d==Value.none)=true then _ else _) _ _ s
 rw[if_neg (show ¬((Value.ref d==Value.none)=true)from Bool.false_ne_true)]
 refine wpAny_bind (wpAny_pure ?_)
 refine wpAny_bind (wpAny_dictEntries hod hdd ?_)
 rw[if_neg (by rw[hsz];simp)]
 refine wpAny_bind (wpAny_pure ?_)
 refine wpAny_bind (wpAny_dictEpoch hod hdd ?_)
 rw[if_neg (by simp)]
 refine wpAny_pure ?_
 obtain⟨hlt',hen⟩:=Array.getElem?_eq_some_iff.mp hx
 simp only[show ¬((i:Int)<0)from by omega,if_false,Int.toNat_natCast,Array.getElem?_eq_getElem hlt']
 refine wpAny_bind ?_
 first|refine wpAny_bind (wpAny_typeNameOfWhole_keyiter hit.typeIs (wpAny_pure ?_))|refine wpAny_bind (wpAny_typeNameOf_keyiter hit.typeIs (wpAny_pure ?_))
 refine wpAny_bind (wpAny_isOneOf_keyiter hit.typeIs ?_)
 show wpAny _ _ (setField (.ref it) 1 (rawInt ((i:Int)+1))>>=_) _ _ s
 refine wpAny_bind (wpAny_setField ho hd (by simp) ?_)
 have hit':(s.heap.update it (Obj.mapFields (·.setIfInBounds 1 (rawInt ((i:Int)+1))))).IsKeyIter it d (i+1) n ep:=
  ⟨_,Heap.get?_update_self _ ho (Obj.isFreed_of_fields (Obj.data_mapFields hd _)),(Obj.cls_mapFields ..).trans hc,by rw[Obj.data_mapFields hd];simp[rawInt]⟩
 refine wpAny_bind (wpAny_holding ?_)
 refine wpAny_bind (wpAny_isOneOf_keyiter (s:={s with heap:=s.heap.update it (Obj.mapFields (·.setIfInBounds 1 (rawInt ((i:Int)+1))))}) hit'.typeIs ?_)
 show wpAny _ _ (pure es[i].key) _ _ _
 rw[hen]
 exact wpAny_pure (wpAny_pure ⟨_,rfl,wpAny_pure (hQ _ hit' (Heap.SameBut.update ..))⟩)
theorem next_key_end {it d:Addr}{i n ep:Nat}{od:Obj}{es:Array DictEntry}{Q:Option Value->Shared->Prop}(hh:A.handled=none)(hit:s.heap.IsKeyIter it d i n ep)(hod:s.heap.get? d=some od)(hdd:od.data=.dict es ep)
  (hsz:es.size=n) (hge:n<=i) (hQ:∀h',Heap.ExtBut it s.heap h'->Q none {s with heap:=h'}):wpAny (model prog w) A (pyNext (.ref it)) Q E s:=by
 obtain⟨o,ho,hc,hd⟩:=id hit
 unfold pyNext
 refine wpAny_bind (wpAny_attempt (wpAny_callSpecial?_slot (name:=Str.ofString "__next__") hit.typeIs F.slot_dict_keyiterator_next
  (wpAny_call_entry F.slot_dict_keyiterator_next hit.typeIs F.entry_dict_keyiterator_next ?_ (F.args_dict_keyiterator_next_1 _))))
 refine wpAny_bind (wpAny_pure ?_)
 refine wpAny_bind ?_
 refine wpAny_bind ?_
 first|refine wpAny_bind (wpAny_typeNameOfWhole_keyiter hit.typeIs (wpAny_pure ?_))|refine wpAny_bind (wpAny_typeNameOf_keyiter hit.typeIs (wpAny_pure ?_))
 refine wpAny_bind (wpAny_fieldsOf ho hd ?_)
 have hown:Builtin.Dict_items.ownsTuple "dict_keyiterator"=false:=by decide
 simp only[hown,Bool.false_eq_true,if_false]
 show wpAny _ _ (if(Value.ref d==Value.none)=true then _ else _) _ _ s
 rw[if_neg (show ¬((Value.ref d==Value.none)=true)from Bool.false_ne_true)]
 refine wpAny_bind (wpAny_pure ?_)
 refine wpAny_bind (wpAny_dictEntries hod hdd ?_)
 rw[if_neg (by rw[hsz];simp)]
 refine wpAny_bind (wpAny_pure ?_)
 refine wpAny_bind (wpAny_dictEpoch hod hdd ?_)
 rw[if_neg (by simp)]
 refine wpAny_pure ?_
 have hge':es.size<=i:=by rw[hsz];exact hge
 simp only[show ¬((i:Int)<0)from by omega,if_false,Int.toNat_natCast,Array.getElem?_eq_none hge']
 refine wpAny_bind ?_
 first|refine wpAny_bind (wpAny_typeNameOfWhole_keyiter hit.typeIs (wpAny_pure ?_))|refine wpAny_bind (wpAny_typeNameOf_keyiter hit.typeIs (wpAny_pure ?_))
 show wpAny _ _ (setField (.ref it) 0 .none>>=_) _ _ s
 refine wpAny_bind (wpAny_setField ho hd (by simp) ?_)
 show wpAny _ _ (newExc (.type "StopIteration") []>>=_) _ _ _
 refine wpAny_bind ?_
 simp only[newExc,newTuple]
 refine wpAny_bind (wpAny_newObj_type ?_ (by size_fits))
 refine wpAny_bind (m:=firstArgMember _ _) (wpAny_of_eq (a:=Value.none) (by first|rfl|(simp only[firstArgMember];rfl)) ?_)
 refine wpAny_newObj_type ?_ (by size_fits)
 simp only[raiseNew]
 refine wpAny_bind (wpAny_handled ?_)
 rw[show A.in1.handled=none from hh]
 refine wpAny_bind (wpAny_pure (wpAny_throw ?_))
 refine wpAny_bind (wpAny_isInstance (T:="StopIteration") (b:=true) ⟨_,Heap.get?_push_size _ rfl,rfl⟩ isSubtype_stop ?_)
 exact wpAny_pure (hQ _ (((Heap.SameBut.update ..).extBut.push _).push _))
end
theorem kv_get {κ:Type}{kvs:List (κ×V)}{vs:List (κ×Value)}(h:KV kvs vs):∀{i:Nat} {k:κ} {v:V},kvs[i]?=some (k,v)->∃u,vs[i]?=some (k,u)/\RelV v u:=by
 unfold KV at h
 induction h with
 |nil=>intro i k v e;simp at e
 | @cons a b l₁ l₂ r t ih=>
  intro i k v e
  cases i with
  |zero=>
   simp only[List.getElem?_cons_zero,Option.some.injEq]at e
   subst e
   refine⟨b.2,?_,r.2⟩
   simp only[List.getElem?_cons_zero]
   exact congrArg some (Prod.ext r.1.symm rfl)
  |succ j=>
   simp only[List.getElem?_cons_succ]at e⊢
   exact ih e
theorem paired_get {α β:Type}{G:α->β->Prop}{l₁:List α}{l₂:List β}(h:Paired G l₁ l₂):∀{i:Nat} {a:α},l₁[i]?=some a->∃b,l₂[i]?=some b/\G a b:=by
 induction h with
 |nil=>intro i a e;simp at e
 | @cons a b l₁ l₂ r t ih=>
  intro i a' e
  cases i with
  |zero=>
   simp only[List.getElem?_cons_zero,Option.some.injEq]at e
   subst e
   exact⟨b,rfl,r⟩
  |succ j=>
   simp only[List.getElem?_cons_succ]at e⊢
   exact ih e
theorem relV_key {k:Key}{u:Value}(h:keyIs k u=true):RelV (kV k) u:=by
 rcases keyIs_shape h with ⟨i,t,rfl,rfl⟩|⟨x,t,rfl,rfl⟩
 ·exact⟨t,rfl⟩
 ·exact⟨t,rfl⟩
section
variable {X:Cx}{pins:List (Addr×Obj)}{Z:St}{H:Hp}{s:Shared}{d:Addr}{o:Obj}
theorem Inv.frzK {kvs:List (Key×V)}(I:Inv X pins Z H s)(h:H d=some (.frz o (.dK kvs))):
  (d==sysModules)=false/\s.heap.get? d=some o/\o.ExactDict/\∃(es:Array DictEntry) (ep:Nat) (vs:List (Key×Value)),o.data=.dict es ep/\es.size=kvs.length/\KV kvs vs/\s.heap.DictAt (mixKind X.prog X.w) d vs ep:=by
 obtain⟨hd,z,hs,vs,kv,o',es,ep,ho,hx,hdt,r⟩:=I.hok d _ h
 rw[hd]at ho
 cases ho
 refine⟨hs,hd,hx,es,ep,vs,hdt,?_,kv,o,es,hd,hx,hdt,r⟩
 have l1:=r.2.1.length
 have l2:kvs.length=vs.length:=Paired.length kv
 rw[Array.length_toList]at l1
 omega
theorem Inv.frzT {kvs:List (List Key×V)}(I:Inv X pins Z H s)(h:H d=some (.frz o (.dT kvs))):
  (d==sysModules)=false/\s.heap.get? d=some o/\o.ExactDict/\∃(es:Array DictEntry) (ep:Nat),o.data=.dict es ep/\es.size=kvs.length/\
   ∀(i:Nat) (k:List Key) (v:V),kvs[i]?=some (k,v)->∃(en:DictEntry) (q:Addr),es[i]?=some en/\en.key=.ref q/\H q=some (.tup (k.map kV)):=by
 obtain⟨hd,z,hs,xs,pr,o',es,ep,ho,hx,hdt,he,_⟩:=I.hok d _ h
 rw[hd]at ho
 cases ho
 refine⟨hs,hd,hx,es,ep,hdt,?_,λi k v e=>?_⟩
 ·have l1:es.size=xs.length:=size_of_entries he
  have l2:kvs.length=xs.length:=Paired.length pr
  omega
 ·obtain⟨b,hb,e1,e2,_⟩:=paired_get pr e
  have q:=entry_at he i
  rw[hb]at q
  exact⟨_,b.2.1,q,rfl,e2⟩
end
def Itk (d:Addr)(o:Obj)(kvs:List (Key×V)):It:=
 ⟨λi H=>H d=some (.frz o (.dK kvs))/\i<kvs.length,λi H x H'=>H'=H/\∃k v,kvs[i]?=some (k,v)/\x=kV k,λi H=>H d=some (.frz o (.dK kvs))/\kvs.length<=i⟩
def Itkt (d:Addr)(o:Obj)(kvs:List (List Key×V)):It:=
 ⟨λi H=>H d=some (.frz o (.dT kvs))/\i<kvs.length,λi H x H'=>H'=H/\∃(k:List Key) (v:V) (q:Addr),kvs[i]?=some (k,v)/\x=.ref q/\H q=some (.tup (k.map kV)),λi H=>H d=some (.frz o (.dT kvs))/\kvs.length<=i⟩
def Iti (d:Addr)(o:Obj)(kvs:List (Key×V)):It:=
 ⟨λi H=>H d=some (.frz o (.dK kvs))/\i<kvs.length,λi H x H'=>∃T k v,kvs[i]?=some (k,v)/\x=.ref T/\H T=none/\H'=upd H T (.tup [kV k,v]),λi H=>H d=some (.frz o (.dK kvs))/\kvs.length<=i⟩
theorem dict_ep {o:Obj}{es es':Array DictEntry}{ep ep':Nat}(h:o.data=.dict es ep)(h':o.data=.dict es' ep'):es'=es/\ep'=ep:=by
 rw[h]at h'
 cases h'
 exact⟨rfl,rfl⟩
section
variable {P:Program}{w:World}{K:Fg}{tg:Expr}{d:Addr}{o:Obj}{es:Array DictEntry}{ep:Nat}
theorem turn_keys {kvs:List (Key×V)}(it:Addr)(hod:o.data=.dict es ep):Turn P w K tg (Itk d o kvs) [it] it (λi h=>h.IsKeyIter it d i kvs.length ep) where
 mem:=by simp
 obj:=λi h st b hb=>by
  have e:b=it:=by simpa using hb
  subst e
  obtain⟨oi,e,c,dd⟩:=st
  exact⟨oi,e,λv z=>by rw[dd]at z;cases z⟩
 keep:=λi h h' st k=>st.at λoi e=>k it (by simp) oi e
 item:=by
  intro X hP hw hK hc i pins s Z H E I hf st hg
  subst hP hw hK
  obtain⟨hd,hi⟩:=hg
  obtain⟨f0,f1,f2,f3,f4,f5⟩:=hf it (by simp)
  obtain⟨hs,hgd,hx,es',ep',vs,hdt,hsz,kv,hm⟩:=I.frzK hd
  obtain⟨rfl,rfl⟩:=dict_ep hod hdt
  obtain⟨⟨k,v⟩,hkv⟩:∃p,kvs[i]?=some p:=⟨kvs[i],List.getElem?_eq_getElem hi⟩
  obtain⟨u,hu,ru⟩:=kv_get kv hkv
  have hl:kvs.length=vs.length:=Paired.length kv
  rw[hl]at st
  refine wpAny_pyNext_dict_item st hm hu λkey h' hkey st' sb=>?_
  have I1:Inv X pins Z H {s with heap:=h'}:=I.turned (t':=s.toks) (λb ob hb e=>(sb.2 b hb).trans e) f0 f1 f3 f4 f5
  obtain⟨oi,e,c,dd⟩:=id st'
  refine⟨key,rfl,go_of (s:={s with heap:=h'}) e c dd (by decide) ⟨kV k,H,I1,relV_key (show keyIs k key=true from hkey),⟨rfl,k,v,hkv,rfl⟩,?_,λb hb=>(hf b hb).1⟩⟩
  show h'.IsKeyIter it d (i+1) kvs.length _
  rw[hl]
  exact st'
 done:=by
  intro X hP hw hK hc i pins s Z H E I hf st hg
  subst hP hw hK
  obtain⟨hd,hi⟩:=hg
  obtain⟨f0,f1,f2,f3,f4,f5⟩:=hf it (by simp)
  obtain⟨hs,hgd,hx,es',ep',vs,hdt,hsz,kv,hm⟩:=I.frzK hd
  obtain⟨rfl,rfl⟩:=dict_ep hod hdt
  exact next_key_end (I.ok.hd hc) st hgd hdt hsz hi λh' eb=>⟨rfl,I.turned (t':=s.toks) (λb ob hb e=>eb b ob hb e) f0 f1 f3 f4 f5⟩
 self:=λA i s Q E st h=>wpAny_pyIter_keyiter st h
theorem turn_keysT {kvs:List (List Key×V)}(it:Addr)(hod:o.data=.dict es ep):Turn P w K tg (Itkt d o kvs) [it] it (λi h=>h.IsKeyIter it d i kvs.length ep) where
 mem:=by simp
 obj:=λi h st b hb=>by
  have e:b=it:=by simpa using hb
  subst e
  obtain⟨oi,e,c,dd⟩:=st
  exact⟨oi,e,λv z=>by rw[dd]at z;cases z⟩
 keep:=λi h h' st k=>st.at λoi e=>k it (by simp) oi e
 item:=by
  intro X hP hw hK hc i pins s Z H E I hf st hg
  subst hP hw hK
  obtain⟨hd,hi⟩:=hg
  obtain⟨f0,f1,f2,f3,f4,f5⟩:=hf it (by simp)
  obtain⟨hs,hgd,hx,es',ep',hdt,hsz,ent⟩:=I.frzT hd
  obtain⟨rfl,rfl⟩:=dict_ep hod hdt
  obtain⟨⟨k,v⟩,hkv⟩:∃p,kvs[i]?=some p:=⟨kvs[i],List.getElem?_eq_getElem hi⟩
  obtain⟨en,q,hen,hkey,hq⟩:=ent i k v hkv
  refine next_key_item st hgd hdt hsz hen λh' st' sb=>?_
  have I1:Inv X pins Z H {s with heap:=h'}:=I.turned (t':=s.toks) (λb ob hb e=>(sb.2 b hb).trans e) f0 f1 f3 f4 f5
  obtain⟨oi,e,c,dd⟩:=id st'
  exact⟨en.key,rfl,go_of (s:={s with heap:=h'}) e c dd (by decide) ⟨.ref q,H,I1,hkey,⟨rfl,k,v,q,hkv,rfl,hq⟩,st',λb hb=>(hf b hb).1⟩⟩
 done:=by
  intro X hP hw hK hc i pins s Z H E I hf st hg
  subst hP hw hK
  obtain⟨hd,hi⟩:=hg
  obtain⟨f0,f1,f2,f3,f4,f5⟩:=hf it (by simp)
  obtain⟨hs,hgd,hx,es',ep',hdt,hsz,ent⟩:=I.frzT hd
  obtain⟨rfl,rfl⟩:=dict_ep hod hdt
  exact next_key_end (I.ok.hd hc) st hgd hdt hsz hi λh' eb=>⟨rfl,I.turned (t':=s.toks) (λb ob hb e=>eb b ob hb e) f0 f1 f3 f4 f5⟩
 self:=λA i s Q E st h=>by
  refine wpAny_pyIter_slot st.typeIs F.slot_dict_keyiterator_iter (wpAny_call_entry F.slot_dict_keyiterator_iter st.typeIs F.entry_dict_keyiterator_iter ?_ (F.args_dict_keyiterator_iter_1 _))
  show wpAny _ _ (ret (.ref it)) _ _ s
  exact wpAny_pure ⟨_,rfl,"dict_keyiterator",_,st.typeIs,F.slot_dict_keyiterator_next.lookup,h⟩
theorem turn_items {kvs:List (Key×V)}{elts:List Expr}{kk:Nat}{tpos:Pos}(it:Addr)(hod:o.data=.dict es ep):
  Turn P w K (.Tuple elts kk tpos) (Iti d o kvs) [it] it (λi h=>∃ok ov,IsItemIter h it d i kvs.length ep ok ov) where
 mem:=by simp
 obj:=λi h st b hb=>by
  have e:b=it:=by simpa using hb
  subst e
  obtain⟨ok,ov,e⟩:=st
  exact⟨_,e,λv z=>nomatch z⟩
 keep:=λi h h' st k=>let⟨ok,ov,e⟩:=st;⟨ok,ov,k it (by simp) _ e⟩
 item:=by
  intro X hP hw hK hc i pins s Z H E I hf st hg
  subst hP hw hK
  obtain⟨hd,hi⟩:=hg
  obtain⟨hs,hgd,hx,es',ep',vs,hdt,hsz,kv,hm⟩:=I.frzK hd
  obtain⟨rfl,rfl⟩:=dict_ep hod hdt
  obtain⟨⟨k,v⟩,hkv⟩:∃p,kvs[i]?=some p:=⟨kvs[i],List.getElem?_eq_getElem hi⟩
  obtain⟨u,hu,ru⟩:=kv_get kv hkv
  have hl:kvs.length=vs.length:=Paired.length kv
  obtain⟨ok,ov,he⟩:=st
  rw[hl]at he
  have hlt:it<s.heap.objs.size:=Heap.lt_size he
  refine wpAny_pyNext_items_item he hm hu λkey h' hkey ho hT hz hk=>?_
  refine⟨_,rfl,wpAny_letOwnedTupleGo_items (s:={s with heap:=h'}) ho λh'' he' sb=>?_⟩
  have hT2:h''.get? s.heap.objs.size=some {cls:=.type "tuple",data:=.seq #[key,u]}:=(sb.2 _ (Nat.ne_of_gt hlt)).trans hT
  have new:ObjOk X.prog X.w (upd H s.heap.objs.size (.tup [kV k,v])) h'' s.heap.objs.size (.tup [kV k,v]):=
   ⟨by show 2<=sizeLine;decide,[key,u],.cons (relV_key (show keyIs k key=true from hkey)) (.cons ru .nil),⟨_,hT2,rfl,_,rfl⟩⟩
  have I1:Inv X pins Z (upd H s.heap.objs.size (.tup [kV k,v])) {s with heap:=h''}:=
   I.turnedNew (t':=s.toks) (ch:=[it]) (λb ob hb e=>(sb.2 b (by simpa using hb)).trans (hk b ob (by simpa using hb) e)) hf (Nat.le_refl _) new
  refine⟨.ref s.heap.objs.size,_,I1,rfl,⟨_,k,v,hkv,rfl,I.hok.fresh (Nat.le_refl _),rfl⟩,⟨key,u,?_⟩,λb hb=>?_⟩
  ·rw[hl];exact he'
  ·have e:b=it:=by simpa using hb
   rw[e,upd_ne (Nat.ne_of_lt hlt)]
   exact(hf it (by simp)).1
 done:=by
  intro X hP hw hK hc i pins s Z H E I hf st hg
  subst hP hw hK
  obtain⟨hd,hi⟩:=hg
  obtain⟨f0,f1,f2,f3,f4,f5⟩:=hf it (by simp)
  obtain⟨hs,hgd,hx,es',ep',vs,hdt,hsz,kv,hm⟩:=I.frzK hd
  obtain⟨rfl,rfl⟩:=dict_ep hod hdt
  have hl:kvs.length=vs.length:=Paired.length kv
  obtain⟨ok,ov,he⟩:=st
  rw[hl]at he
  exact wpAny_pyNext_items_end (I.ok.hd hc) he hm (List.getElem?_eq_none (by omega)) λh' eb=>⟨rfl,I.turned (t':=s.toks) (λb ob hb e=>eb b ob hb e) f0 f1 f3 f4 f5⟩
 self:=λA i s Q E st h=>let⟨_,_,e⟩:=st;PySem.W.kcp_self e h
end
def iKeys (td:TE):TI:=λZ H R=>td Z H λx H1=>∃d o,x=.ref d/\((∃kvs,H1 d=some (.frz o (.dK kvs))/\R (Itk d o kvs) H1)\/∃kvs,H1 d=some (.frz o (.dT kvs))/\R (Itkt d o kvs) H1)
def iItems (td:TE):TI:=λZ H R=>td Z H λx H1=>∃d o kvs,x=.ref d/\H1 d=some (.frz o (.dK kvs))/\R (Iti d o kvs) H1
section
variable {X:Cx}{tg e:Expr}{td:TE}{apos cpos:Pos}
theorem pi_keys (he:PE X e td):PI X tg e (iKeys td):=by
 intro pins s Z H R I h
 refine thn (he pins s Z H _ I h) λu s1 ⟨x,H1,I1,rx,d,o,ex,q⟩=>?_
 subst ex
 obtain rfl:u=Value.ref d:=rx
 rcases q with ⟨kvs,hd,q⟩|⟨kvs,hd,q⟩
 ·obtain⟨hs,hgd,hx,es,ep,vs,hdt,hsz,kv,hm⟩:=I1.frzK hd
  refine iter_keys hs hgd hx hdt (pi_one (tk:=s1.toks) I1 _ (turn_keys _ hdt) ⟨_,Heap.get?_push_size _ rfl,rfl,?_⟩ q)
  rw[hsz]<;>rfl
 ·obtain⟨hs,hgd,hx,es,ep,hdt,hsz,ent⟩:=I1.frzT hd
  refine iter_keys hs hgd hx hdt (pi_one (tk:=s1.toks) I1 _ (turn_keysT _ hdt) ⟨_,Heap.get?_push_size _ rfl,rfl,?_⟩ q)
  rw[hsz]<;>rfl
theorem pi_items {elts:List Expr}{kk:Nat}{tpos:Pos}(he:PE X e td)(hbase:attributeBase e "items" X.env (eval e X.env)=eval e X.env:=by rfl)(hline:(apos.endLine==cpos.line)=true:=by rfl):
  PI X (.Tuple elts kk tpos) (.Call (.Attribute e "items" apos) [] [] cpos) (iItems td):=by
 intro pins s Z H R I h
 refine wpAny_Call_method (T:="dict") (id:="dict.items") hbase rfl hline F.plainAttrs_dict F.slot_dict_items F.type_dict_items (thn (he pins s Z H _ I h) λu s1 ⟨x,H1,I1,rx,d,o,kvs,ex,hd,q⟩=>?_)
 subst ex
 obtain rfl:u=Value.ref d:=rx
 obtain⟨hs,hgd,hx,es,ep,vs,hdt,hsz,kv,hm⟩:=I1.frzK hd
 have hl:kvs.length=vs.length:=Paired.length kv
 refine⟨hm.dictOf.typeIs,hm.dictOf.mapOf.noDict,?_⟩
 have I2:Inv X pins Z H1 {s1 with heap:=s1.heap.push {cls:=.type "dict_items",data:=.fields #[.ref d]}}:=I1.kept (t':=s1.toks) λb ob q=>Heap.get?_push_of_some _ q
 have fin:wpAny (model X.prog X.w) X.A (pyIter (.ref s1.heap.objs.size)) (PIE X pins Z (.Tuple elts kk tpos) R) X.xe {s1 with heap:=s1.heap.push {cls:=.type "dict_items",data:=.fields #[.ref d]}}:=by
  refine wpAny_pyIter_items (d:=d) (knd:=mixKind X.prog X.w) ⟨_,Heap.get?_push_size _ rfl,rfl,rfl⟩ (hm.push _) (pi_one (tk:=s1.toks) I2 _ (turn_items _ hdt) ⟨.none,.none,?_⟩ q)
  rw[hl]
  exact Heap.get?_push_size _ rfl
 show wpAny _ _ (callWith cpos (.builtin "dict.items") [.ref d] [] []) _ X.xe s1
 exact method_meetsIn F.slot_dict_items F.entry_dict_items rfl (PySem.evalArgs_none ⟨rfl,hm.dictOf.typeIs,F.args_dict_items_1 _,_,meets_dict_items (mixKind X.prog X.w) d hs,⟨vs,hm.dictOf⟩,fin⟩)
end
theorem boot_zip5:bootBuiltins "zip"=some (.type "zip"):=by decide+kernel
end L2
section
namespace Bits
open PySem PyProof.Rows
end Bits
end
section
namespace TL
open PySem PySem.Builtin PySem.Builtin.Str PySem.StrLaws
end TL
end
namespace L2
open PySem PySem.Spec PyProof.Rows
section
variable {X:Cx}{pins:List (Addr×Obj)}{Z:St}{H:Hp}{s:Shared}{Q:VK}
end
section
variable {X:Cx}
end
section
variable {X:Cx}{o e:Expr}{to te:TE}
end
end L2
namespace L2
open PySem PySem.Spec PyProof.Rows
section
variable {X:Cx}
end
end L2
namespace Att
open PySem PySem.W PySem.Calls PyProof.Rows
section
variable {prog:Program}{w:World}{A:Around}{E:Value->Shared->Prop}{s:Shared}{K:Frag}
end
end Att
namespace L2
open PySem PySem.Spec PyProof.Rows
end L2
namespace L2
open PySem PySem.Spec PyProof.Rows
end L2
namespace L2
open PySem PySem.Spec PyProof.Rows
def inClass (s:Stmt)(j:Nat):Stmt:=match s with
 |.ClassDef _ _ _ body _ _ _ _ _ _ _=>body.getD j (.Pass ⟨0,0,0,0⟩)
 |_=>.Pass ⟨0,0,0,0⟩
def defArgs (s:Stmt):Arguments:=match s with
 |.FunctionDef _ a _ _ _ _ _ _ _ _=>a
 |_=>{posonlyargs:=[],args:=[],vararg:=none,kwonlyargs:=[],kw_defaults:=[],kwarg:=none,defaults:=[]}
def defBody (s:Stmt):List Stmt:=match s with
 |.FunctionDef _ _ b _ _ _ _ _ _ _=>b
 |_=>[]
def defScope (s:Stmt):Scope:=match s with
 |.FunctionDef _ _ _ _ _ _ sc _ _ _=>sc
 |_=>{kind:=.function,names:=[],isGenerator:=false,isCoroutine:=false}
abbrev CX0:CXT:=λ_ _ _ _ _ _=>False
abbrev E0:XK:=λ_ _ _=>False
theorem pass0 {X:Cx}:Passes CX0 X E0:=λ_ _ _ _ _ _ _ h=>h.elim
structure Fun (K:Fg)(x qual:Str)(st:Stmt)(f:Addr)(fd:FuncData):Prop where
 ex:∃(oc:Value) (od:Option Addr) (kV doc pm:Value) (an:Option Addr) (cdv ct:Value) (osl:Array (Option Value)),
  fd=PySem.W.fnOf x qual (defArgs st) (defBody st) (defScope st) .none kV doc pm an cdv ct/\K.lookup f=some ⟨oc,od,.func fd,osl⟩/\PySem.W.codeIn K cdv qual=true
 kp:PySem.W.keepIn K (.ref f)=true
section
variable {P:Program}{w:World}{K:Fg}{mg:Str->Option Value}{base:Heap}
theorem Fun.ok {x qual:Str}{st:Stmt}{f:Addr}{fd:FuncData}{N ps:List Str}{k:Nat}{sp:Sp}(F:Fun K x qual st f fd)(S:FnScope N ps (defScope st))(len:∀vs H Q E,sp vs H Q E->vs.length=ps.length)
  (hbody:∀(cdv:Value) (A:Around) (outer:List Env) (s:Shared) (H:Hp) (vs:List V) (Q:VK) (E:XK),Room k (A.deeper (envOfC qual (defScope st) s.heap.objs.size f cdv))->sp vs H Q E->
   ∃t,PSs (cxOf CX0 P w K mg base N qual (defScope st) f cdv A outer s H E).nox (defBody st) t/\t {nx:=λ_ H'=>Q .non H',rt:=Q} (start N vs) H):FnOk P w K mg base CX0 (k+1) f fd ps sp:=by
 obtain⟨oc,od,kV,doc,pm,an,cdv,ct,osl,rfl,lk,hcd⟩:=F.ex
 refine fn_of lk hcd S len λA outer s H vs Q E hr hsp=>?_
 obtain⟨t,h,q⟩:=hbody cdv A outer s H vs Q E hr hsp
 exact⟨t,h.nox,q⟩
theorem Fun.binds {x qual:Str}{st:Stmt}{f:Addr}{fd:FuncData}{ps:List Str}(F:Fun K x qual st f fd)
  (h:∀(kV doc pm:Value) (an:Option Addr) (cdv ct:Value) (us:List Value),us.length=ps.length->bindArgs (PySem.W.fnOf x qual (defArgs st) (defBody st) (defScope st) .none kV doc pm an cdv ct) ⟨us,[]⟩=pure (ps.zip us)):Binds K fd ps []:=by
 obtain⟨oc,od,kV,doc,pm,an,cdv,ct,osl,rfl,lk,hcd⟩:=F.ex
 exact .all (h kV doc pm an cdv ct)
theorem fun_mk {x qual:Str}{st:Stmt}{f:Addr}{oc:Value}{od an:Option Addr}{osl:Array (Option Value)}{kV doc pm cdv ct:Value}(l:K.lookup f=some ⟨oc,od,.func (PySem.W.fnOf x qual (defArgs st) (defBody st) (defScope st) .none kV doc pm an cdv ct),osl⟩)
  (c:PySem.W.codeIn K cdv qual=true) (k:PySem.W.keepIn K (.ref f)=true):Fun K x qual st f (PySem.W.fnOf x qual (defArgs st) (defBody st) (defScope st) .none kV doc pm an cdv ct):=⟨⟨oc,od,kV,doc,pm,an,cdv,ct,osl,rfl,l,c⟩,k⟩
end
theorem hu_of {A:Around}{k:Nat}(hr:Room k A):A.units+1<cLine:=Nat.lt_of_le_of_lt (Nat.add_le_add_left (by decide:1<=64) _) hr.units
theorem small1000 {n:Nat}(h:n<=1000):n<sizeLine:=Nat.lt_of_le_of_lt h (by decide)
section
variable {X:Cx}
theorem call_lenD:CallR X (.builtin "len") (λxs H Q=>∃a kvs,xs=[V.ref a]/\H a=some (.dK kvs)/\Q (.int kvs.length) H):=by
 intro pins s Z H xs us Q I r h
 obtain⟨a,kvs,rfl,ha,q⟩:=h
 obtain⟨u,rfl,ru⟩:=vals1 r
 cases ru
 exact d_len I (.inl ha) λt s' I'=>⟨.int kvs.length,H,I',⟨t,rfl⟩,q⟩
end
def Same (H H':Hp):Prop:=∀b o,H b=some o->H' b=some o
theorem Same.refl (H:Hp):Same H H:=λ_ _ h=>h
theorem Same.trans {H H1 H2:Hp}(a:Same H H1)(b:Same H1 H2):Same H H2:=λc o h=>b c o (a c o h)
theorem Same.free {H H':Hp}(e:Same H H'){l:Addr}(h:H' l=Option.none):H l=Option.none:=by
 cases q:H l with
 |none=>rfl
 |some o=>
  rw[e l o q]at h
  cases h
theorem Same.seq {K:Fg}{H H':Hp}{a:Addr}{xs:List V}(e:Same H H')(h:SqL K H a xs):SqL K H' a xs:=by
 rcases h with (h|⟨o,h⟩)|h
 ·exact .inl (.inl (e _ _ h))
 ·exact .inl (.inr ⟨o,e _ _ h⟩)
 ·exact .inr h
section
variable {κ:Type}[DecidableEq κ]
theorem nd_snoc:∀{l:List κ} {k:κ},l.Nodup->¬k∈l->(l++[k]).Nodup
 |[],k,_,_=>by simp
 |a::r,k,h,hk=>by
  obtain⟨h1,h2⟩:=List.nodup_cons.mp h
  show(a::(r++[k])).Nodup
  refine List.nodup_cons.mpr ⟨λm=>?_,nd_snoc h2 λm=>hk (List.mem_cons.mpr (Or.inr m))⟩
  rcases List.mem_append.mp m with q|q
  ·exact h1 q
  ·exact hk (List.mem_cons.mpr (Or.inl (List.mem_singleton.mp q).symm))
end
end L2
namespace Kn
open Vbsoaa
abbrev Ris (l:List Nat):Prop:=l.Pairwise (·<·)
theorem mem_putIn {x y:Nat}:∀{l:List Nat},y∈putIn x l<->y=x\/y∈l
 |[]=>by simp[putIn]
 |z::l=>by
  unfold putIn
  split
  ·simp
  ·split
   ·rename_i h;subst h;simp
   ·simp only[List.mem_cons,mem_putIn (l:=l)]
    constructor
    ·rintro(h|h|h)<;>simp[h]
    ·rintro(h|h|h)<;>simp[h]
theorem ris_putIn {x:Nat}:∀{l:List Nat},Ris l->Ris (putIn x l)
 |[],_=>by simp[putIn,Ris]
 |z::l,h=>by
  have h1:=List.pairwise_cons.mp h
  unfold putIn
  split
  ·rename_i c
   refine List.pairwise_cons.mpr ⟨λa ha=>?_,h⟩
   rcases List.mem_cons.mp ha with e|e
   ·omega
   ·have:=h1.1 a e;omega
  ·split
   ·exact h
   ·refine List.pairwise_cons.mpr ⟨λa ha=>?_,ris_putIn h1.2⟩
    rcases mem_putIn.mp ha with e|e
    ·omega
    ·exact h1.1 a e
theorem putIn_mem {x:Nat}:∀{l:List Nat},Ris l->x∈l->putIn x l=l
 |[],_,h=>by simp at h
 |z::l,hr,h=>by
  have h1:=List.pairwise_cons.mp hr
  unfold putIn
  rcases List.mem_cons.mp h with e|e
  ·subst e;simp
  ·have:=h1.1 x e
   rw[if_neg (by omega),if_neg (by omega),putIn_mem h1.2 e]
theorem ris_nodup:∀{l:List Nat},Ris l->l.Nodup:=λh=>h.imp (λh=>by omega)
theorem ris_ext:∀{l m:List Nat},Ris l->Ris m->(∀x,x∈l<->x∈m)->l=m
 |[],[],_,_,_=>rfl
 |[],y::m,_,_,h=>absurd ((h y).mpr (by simp)) (by simp)
 |x::l,[],_,_,h=>absurd ((h x).mp (by simp)) (by simp)
 |x::l,y::m,hl,hm,h=>by
  have l1:=List.pairwise_cons.mp hl
  have m1:=List.pairwise_cons.mp hm
  have e:x=y:=by
   rcases List.mem_cons.mp ((h x).mp (by simp))with e|e
   ·exact e
   ·rcases List.mem_cons.mp ((h y).mpr (by simp))with f|f
    ·exact f.symm
    ·have:=m1.1 x e;have:=l1.1 y f;omega
  subst e
  congr 1
  refine ris_ext l1.2 m1.2 λz=>?_
  have:=h z
  simp only[List.mem_cons]at this
  constructor
  ·intro hz
   have:=l1.1 z hz
   rcases ‹z=x\/z∈l<->z=x\/z∈m›.mp (.inr hz)with e|e
   ·omega
   ·exact e
  ·intro hz
   have:=m1.1 z hz
   rcases ‹z=x\/z∈l<->z=x\/z∈m›.mpr (.inr hz)with e|e
   ·omega
   ·exact e
theorem sorted_aux:∀(l a:List Nat),Ris a->Ris (l.foldl (λa x=>putIn x a) a)/\∀y,y∈l.foldl (λa x=>putIn x a) a<->y∈l\/y∈a
 |[],a,h=>by simp[h]
 |x::l,a,h=>by
  have ih:=sorted_aux l (putIn x a) (ris_putIn h)
  refine⟨ih.1,λy=>?_⟩
  rw[List.foldl_cons,ih.2 y,mem_putIn,List.mem_cons]
  constructor
  ·rintro(h|h|h)<;>simp[h]
  ·rintro((h|h)|h)<;>simp[h]
theorem ris_sorted (l:List Nat):Ris (sorted l):=(sorted_aux l [] List.Pairwise.nil).1
theorem mem_sorted {l:List Nat}{y:Nat}:y∈sorted l<->y∈l:=by
 have:=(sorted_aux l [] List.Pairwise.nil).2 y
 unfold sorted;rw[this];simp
theorem sorted_ris {l:List Nat}(h:Ris l):sorted l=l:=ris_ext (ris_sorted l) h λ_=>mem_sorted
theorem row_ris {l:List Nat}(h:Ris l):row l=(l.length:Int)::nums l:=by unfold row;rw[sorted_ris h]
theorem ris_le {l m:List Nat}(h:l.Nodup)(hs:∀x∈l,x∈m):l.length<=m.length:=by
 induction l generalizing m with
 |nil=>simp
 |cons x l ih=>
  have h1:=List.nodup_cons.mp h
  have hx:=hs x (by simp)
  have:=ih (m:=m.erase x) h1.2 λy hy=>by
   have hne:y≠x:=λe=>h1.1 (e▸hy)
   exact(List.mem_erase_of_ne hne).mpr (hs y (by simp[hy]))
  rw[List.length_erase_of_mem hx]at this
  have:=List.length_pos_of_mem hx
  simp;omega
open Vbsoae (Known sureWay mayWay sureLeft mayLeft sureCut mayCut low high aids keeps foreign attackLow attackHigh preventLow preventHigh holdLow holdHigh wallLow wallHigh rivals sureGoes mayGo sureOut mayOut sureChain mayChain learn sizes)
theorem con_false {l:List Nat}{a:Nat}:l.contains a=false<->¬a∈l:=by
 rw[<-List.contains_iff_mem,Bool.not_eq_true]
structure Sub (k j:Known):Prop where
 goes:∀p,p∈k.goes->p∈j.goes
 stuck:∀p,p∈k.stuck->p∈j.stuck
 way:∀p,p∈k.way->p∈j.way
 noway:∀p,p∈k.noway->p∈j.noway
 cut:∀p,p∈k.cut->p∈j.cut
 uncut:∀p,p∈k.uncut->p∈j.uncut
theorem Sub.refl (k:Known):Sub k k:=⟨λ_ h=>h,λ_ h=>h,λ_ h=>h,λ_ h=>h,λ_ h=>h,λ_ h=>h⟩
theorem Sub.trans {a b c:Known}(x:Sub a b)(y:Sub b c):Sub a c:=
 ⟨λp h=>y.goes p (x.goes p h),λp h=>y.stuck p (x.stuck p h),λp h=>y.way p (x.way p h),λp h=>y.noway p (x.noway p h),λp h=>y.cut p (x.cut p h),λp h=>y.uncut p (x.uncut p h)⟩
structure Con (k:Known):Prop where
 go:∀p,p∈k.goes->p∉k.stuck
 wa:∀p,p∈k.way->p∉k.noway
 cu:∀p,p∈k.cut->p∉k.uncut
theorem any_mono {α:Type}{l:List α}{f g:α->Bool}(h:∀x∈l,f x=true->g x=true)(a:l.any f=true):l.any g=true:=by
 obtain⟨x,hx,e⟩:=List.any_eq_true.mp a
 exact List.any_eq_true.mpr ⟨x,hx,h x hx e⟩
theorem all_mono {α:Type}{l:List α}{f g:α->Bool}(h:∀x∈l,f x=true->g x=true)(a:l.all f=true):l.all g=true:=
 List.all_eq_true.mpr λx hx=>h x hx (List.all_eq_true.mp a x hx)
theorem filter_le {α:Type}{f g:α->Bool}:∀{l:List α},(∀x∈l,f x=true->g x=true)->(l.filter f).length<=(l.filter g).length
 |[],_=>by simp
 |x::l,h=>by
  have ih:=filter_le (l:=l) λy hy=>h y (by simp[hy])
  simp only[List.filter_cons]
  split
  ·rename_i c
   rw[if_pos (h x (by simp) c)];simp;exact ih
  ·split
   ·simp;omega
   ·exact ih
section
variable {k j:Known}{ms:Men}{m x:Man}{p:Nat}
theorem sureWay_mono (s:Sub k j)(h:sureWay k m=true):sureWay j m=true:=by
 unfold sureWay at h⊢
 simp only[Bool.or_eq_true,List.contains_iff_mem]at h⊢
 exact h.imp id (s.way _)
theorem mayWay_mono (s:Sub k j)(h:mayWay j m=true):mayWay k m=true:=by
 unfold mayWay at h⊢
 simp only[Bool.or_eq_true,Bool.not_eq_true',con_false]at h⊢
 exact h.imp id λn q=>n (s.noway _ q)
theorem sureLeft_mono (s:Sub k j)(h:sureLeft k m=true):sureLeft j m=true:=by
 unfold sureLeft at h⊢
 simp only[Bool.and_eq_true,List.contains_iff_mem]at h⊢
 exact⟨h.1,s.goes _ h.2⟩
theorem mayLeft_mono (s:Sub k j)(h:mayLeft j m=true):mayLeft k m=true:=by
 unfold mayLeft at h⊢
 simp only[Bool.and_eq_true,Bool.not_eq_true',con_false]at h⊢
 exact⟨h.1,λq=>h.2 (s.stuck _ q)⟩
theorem sureCut_mono (s:Sub k j)(h:sureCut ms k m=true):sureCut ms j m=true:=by
 unfold sureCut at h⊢
 refine any_mono (λx _ e=>?_) h
 simp only[Bool.and_eq_true,Bool.or_eq_true,List.contains_iff_mem]at e⊢
 exact⟨e.1,sureWay_mono s e.2.1,e.2.2.imp id (s.goes _)⟩
theorem mayCut_mono (s:Sub k j)(h:mayCut ms j m=true):mayCut ms k m=true:=by
 unfold mayCut at h⊢
 refine any_mono (λx _ e=>?_) h
 simp only[Bool.and_eq_true,Bool.or_eq_true,Bool.not_eq_true',con_false]at e⊢
 exact⟨e.1,mayWay_mono s e.2.1,e.2.2.imp id λn q=>n (s.stuck _ q)⟩
theorem low_mono (s:Sub k j)(l:Men):low k l<=low j l:=by
 unfold low
 refine filter_le λx _ e=>?_
 simp only[List.contains_iff_mem]at e⊢
 exact s.uncut _ e
theorem high_mono (s:Sub k j)(l:Men):high j l<=high k l:=by
 unfold high
 refine filter_le λx _ e=>?_
 simp only[Bool.not_eq_true',con_false]at e⊢
 exact λq=>e (s.cut _ q)
theorem low_foreign (l:Men)(w:Nat):low k (foreign l w)<=low k l:=by
 unfold low foreign
 rw[List.filter_filter]
 refine filter_le λx _ e=>?_
 simp only[Bool.and_eq_true]at e;exact e.1
theorem high_foreign (l:Men)(w:Nat):high k (foreign l w)<=high k l:=by
 unfold high foreign
 rw[List.filter_filter]
 refine filter_le λx _ e=>?_
 simp only[Bool.and_eq_true]at e;exact e.1
theorem attackLow_mono (s:Sub k j):attackLow ms k m p<=attackLow ms j m p:=by
 unfold attackLow
 by_cases c:sureWay k m=false
 ·rw[if_pos c];exact Nat.zero_le _
 ·have c':=sureWay_mono s (by simpa using c)
  rw[if_neg c,if_neg (by simp[c'])]
  cases manAt ms p with
  |none=>have:=low_mono s (aids ms m p);simp only;omega
  |some x=>
   simp only
   have a1:=low_mono s (aids ms m p)
   have a2:=low_mono s (foreign (aids ms m p) x.power)
   have a3:=low_foreign (k:=j) (aids ms m p) x.power
   by_cases d:sureLeft k x=true/\headOn m x=false
   ·rw[if_pos d,if_pos ⟨sureLeft_mono s d.1,d.2⟩];omega
   ·rw[if_neg d]
    by_cases e:sureLeft j x=true/\headOn m x=false
    ·rw[if_pos e];split<;>omega
    ·rw[if_neg e];split<;>omega
theorem attackHigh_mono (s:Sub k j):attackHigh ms j m p<=attackHigh ms k m p:=by
 unfold attackHigh
 by_cases c:mayWay j m=false
 ·rw[if_pos c];exact Nat.zero_le _
 ·have c':=mayWay_mono s (by simpa using c)
  rw[if_neg c,if_neg (by simp[c'])]
  cases manAt ms p with
  |none=>have:=high_mono s (aids ms m p);simp only;omega
  |some x=>
   simp only
   have a1:=high_mono s (aids ms m p)
   have a2:=high_mono s (foreign (aids ms m p) x.power)
   have a3:=high_foreign (k:=k) (aids ms m p) x.power
   by_cases d:mayLeft j x=true/\headOn m x=false
   ·rw[if_pos d,if_pos ⟨mayLeft_mono s d.1,d.2⟩];omega
   ·rw[if_neg d]
    by_cases e:mayLeft k x=true/\headOn m x=false
    ·rw[if_pos e];split<;>omega
    ·rw[if_neg e];split<;>omega
theorem preventLow_mono (s:Sub k j):preventLow ms k m p<=preventLow ms j m p:=by
 unfold preventLow
 by_cases c:sureWay k m=false
 ·rw[if_pos c];exact Nat.zero_le _
 ·have c':=sureWay_mono s (by simpa using c)
  rw[if_neg c,if_neg (by simp[c'])]
  have a1:=low_mono s (aids ms m p)
  cases manAt ms p with
  |none=>simp only;omega
  |some x=>
   simp only
   by_cases d:headOn m x=true/\k.stuck.contains x.prov=false
   ·rw[if_pos d];exact Nat.zero_le _
   ·rw[if_neg d,if_neg]
    ·omega
    ·rintro⟨h1,h2⟩
     refine d ⟨h1,?_⟩
     simp only[con_false]at h2⊢
     exact λq=>h2 (s.stuck _ q)
theorem preventHigh_mono (s:Sub k j):preventHigh ms j m p<=preventHigh ms k m p:=by
 unfold preventHigh
 by_cases c:mayWay j m=false
 ·rw[if_pos c];exact Nat.zero_le _
 ·have c':=mayWay_mono s (by simpa using c)
  rw[if_neg c,if_neg (by simp[c'])]
  have a1:=high_mono s (aids ms m p)
  cases manAt ms p with
  |none=>simp only;omega
  |some x=>
   simp only
   by_cases d:headOn m x=true/\j.goes.contains x.prov=true
   ·rw[if_pos d];exact Nat.zero_le _
   ·rw[if_neg d,if_neg]
    ·omega
    ·rintro⟨h1,h2⟩
     refine d ⟨h1,?_⟩
     simp only[List.contains_iff_mem]at h2⊢
     exact s.goes _ h2
theorem holdLow_mono (s:Sub k j):holdLow ms k p<=holdLow ms j p:=by
 unfold holdLow
 cases manAt ms p with
 |none=>exact Nat.le_refl _
 |some x=>
  simp only
  have a1:=low_mono s (keeps ms x)
  split
  ·by_cases c:k.stuck.contains x.prov=true
   ·rw[if_pos c,if_pos]
    ·exact Nat.le_refl _
    ·simp only[List.contains_iff_mem]at c⊢;exact s.stuck _ c
   ·rw[if_neg c];exact Nat.zero_le _
  ·omega
theorem holdHigh_mono (s:Sub k j):holdHigh ms j p<=holdHigh ms k p:=by
 unfold holdHigh
 cases manAt ms p with
 |none=>exact Nat.le_refl _
 |some x=>
  simp only
  have a1:=high_mono s (keeps ms x)
  split
  ·by_cases c:j.goes.contains x.prov=true
   ·rw[if_pos c];exact Nat.zero_le _
   ·rw[if_neg c,if_neg]
    ·exact Nat.le_refl _
    ·simp only[List.contains_iff_mem]at c⊢;exact λq=>c (s.goes _ q)
  ·omega
theorem wallLow_mono (s:Sub k j):wallLow ms k m p<=wallLow ms j m p:=by
 unfold wallLow
 cases manAt ms p with
 |none=>exact holdLow_mono s
 |some x=>
  simp only
  have a1:=low_mono s (aids ms x m.prov)
  split
  ·omega
  ·exact holdLow_mono s
theorem wallHigh_mono (s:Sub k j):wallHigh ms j m p<=wallHigh ms k m p:=by
 unfold wallHigh
 cases manAt ms p with
 |none=>exact holdHigh_mono s
 |some x=>
  simp only
  have a1:=high_mono s (aids ms x m.prov)
  split
  ·omega
  ·exact holdHigh_mono s
theorem sureGoes_mono (s:Sub k j)(h:sureGoes ms k m=true):sureGoes ms j m=true:=by
 unfold sureGoes at h⊢
 cases e:goal m with
 |none=>rw[e]at h;simp at h
 |some p=>
  rw[e]at h
  simp only[Option.any_some,Bool.and_eq_true,decide_eq_true_eq]at h⊢
  have a1:=attackLow_mono (ms:=ms) (m:=m) (p:=p) s
  refine⟨sureWay_mono s h.1,?_,all_mono (λx _ q=>?_) h.2.2⟩
  ·have:=wallHigh_mono (ms:=ms) (m:=m) (p:=p) s;have:=h.2.1;omega
  ·have:=preventHigh_mono (ms:=ms) (m:=x) (p:=p) s
   simp only[decide_eq_true_eq]at q⊢;omega
theorem mayGo_mono (s:Sub k j)(h:mayGo ms j m=true):mayGo ms k m=true:=by
 unfold mayGo at h⊢
 cases e:goal m with
 |none=>rw[e]at h;simp at h
 |some p=>
  rw[e]at h
  simp only[Option.any_some,Bool.and_eq_true,decide_eq_true_eq]at h⊢
  have a1:=attackHigh_mono (ms:=ms) (m:=m) (p:=p) s
  refine⟨mayWay_mono s h.1,?_,all_mono (λx _ q=>?_) h.2.2⟩
  ·have:=wallLow_mono (ms:=ms) (m:=m) (p:=p) s;have:=h.2.1;omega
  ·have:=preventLow_mono (ms:=ms) (m:=x) (p:=p) s
   simp only[decide_eq_true_eq]at q⊢;omega
theorem sureWay_may (c:Con k)(h:sureWay k m=true):mayWay k m=true:=by
 unfold sureWay at h;unfold mayWay
 simp only[Bool.or_eq_true,List.contains_iff_mem,Bool.not_eq_true',con_false]at h⊢
 exact h.imp id (c.wa _)
theorem sureLeft_may (c:Con k)(h:sureLeft k m=true):mayLeft k m=true:=by
 unfold sureLeft at h;unfold mayLeft
 simp only[Bool.and_eq_true,List.contains_iff_mem,Bool.not_eq_true',con_false]at h⊢
 exact⟨h.1,c.go _ h.2⟩
theorem sureCut_may (c:Con k)(h:sureCut ms k m=true):mayCut ms k m=true:=by
 unfold sureCut at h;unfold mayCut
 refine any_mono (λx _ e=>?_) h
 simp only[Bool.and_eq_true,Bool.or_eq_true,List.contains_iff_mem,Bool.not_eq_true',con_false]at e⊢
 exact⟨e.1,sureWay_may c e.2.1,e.2.2.imp id (c.go _)⟩
theorem low_high (c:Con k)(l:Men):low k l<=high k l:=by
 unfold low high
 refine filter_le λx _ e=>?_
 simp only[List.contains_iff_mem,Bool.not_eq_true',con_false]at e⊢
 exact λq=>c.cu _ q e
theorem attack_le (c:Con k):attackLow ms k m p<=attackHigh ms k m p:=by
 unfold attackLow attackHigh
 by_cases d:sureWay k m=false
 ·rw[if_pos d];exact Nat.zero_le _
 ·have d':=sureWay_may c (by simpa using d)
  rw[if_neg d,if_neg (by simp[d'])]
  cases manAt ms p with
  |none=>have:=low_high c (aids ms m p);simp only;omega
  |some x=>
   simp only
   have a1:=low_high c (aids ms m p)
   have a2:=low_high c (foreign (aids ms m p) x.power)
   have a3:=high_foreign (k:=k) (aids ms m p) x.power
   by_cases d:sureLeft k x=true/\headOn m x=false
   ·rw[if_pos d,if_pos ⟨sureLeft_may c d.1,d.2⟩];omega
   ·rw[if_neg d]
    by_cases e:mayLeft k x=true/\headOn m x=false
    ·rw[if_pos e];split<;>omega
    ·rw[if_neg e];split<;>omega
theorem prevent_le (c:Con k):preventLow ms k m p<=preventHigh ms k m p:=by
 unfold preventLow preventHigh
 by_cases d:sureWay k m=false
 ·rw[if_pos d];exact Nat.zero_le _
 ·have d':=sureWay_may c (by simpa using d)
  rw[if_neg d,if_neg (by simp[d'])]
  have a1:=low_high c (aids ms m p)
  cases manAt ms p with
  |none=>simp only;omega
  |some x=>
   simp only
   by_cases d:headOn m x=true/\k.stuck.contains x.prov=false
   ·rw[if_pos d];exact Nat.zero_le _
   ·rw[if_neg d,if_neg]
    ·omega
    ·rintro⟨h1,h2⟩
     refine d ⟨h1,?_⟩
     simp only[List.contains_iff_mem,con_false]at h2⊢
     exact c.go _ h2
theorem hold_le (c:Con k):holdLow ms k p<=holdHigh ms k p:=by
 unfold holdLow holdHigh
 cases manAt ms p with
 |none=>exact Nat.le_refl _
 |some x=>
  simp only
  have a1:=low_high c (keeps ms x)
  split
  ·by_cases d:k.stuck.contains x.prov=true
   ·rw[if_pos d,if_neg]
    ·exact Nat.le_refl _
    ·simp only[List.contains_iff_mem]at d⊢;exact λq=>c.go _ q d
   ·rw[if_neg d];exact Nat.zero_le _
  ·omega
theorem wall_le (c:Con k):wallLow ms k m p<=wallHigh ms k m p:=by
 unfold wallLow wallHigh
 cases manAt ms p with
 |none=>exact hold_le c
 |some x=>
  simp only
  have a1:=low_high c (aids ms x m.prov)
  split
  ·omega
  ·exact hold_le c
theorem sureGoes_may (c:Con k)(h:sureGoes ms k m=true):mayGo ms k m=true:=by
 unfold sureGoes at h;unfold mayGo
 cases e:goal m with
 |none=>rw[e]at h;simp at h
 |some p=>
  rw[e]at h
  simp only[Option.any_some,Bool.and_eq_true,decide_eq_true_eq]at h⊢
  have a1:=attack_le (ms:=ms) (m:=m) (p:=p) c
  refine⟨sureWay_may c h.1,?_,all_mono (λx _ q=>?_) h.2.2⟩
  ·have:=wall_le (ms:=ms) (m:=m) (p:=p) c;have:=h.2.1;omega
  ·have:=prevent_le (ms:=ms) (m:=x) (p:=p) c
   simp only[decide_eq_true_eq]at q⊢;omega
theorem sureOut_mono (s:Sub k j){q:Nat}(h:q∈sureOut ms k):q∈sureOut ms j:=by
 unfold sureOut at h⊢
 obtain⟨m,hm,e⟩:=List.mem_map.mp h
 refine List.mem_map.mpr ⟨m,?_,e⟩
 obtain⟨h1,h2⟩:=List.mem_filter.mp hm
 refine List.mem_filter.mpr ⟨h1,?_⟩
 simp only[Bool.and_eq_true,Bool.not_eq_true']at h2⊢
 refine⟨?_,any_mono (λx _ e=>?_) h2.2⟩
 ·cases d:mayLeft j m with
  |false=>rfl
  |true=>have:=mayLeft_mono s d;rw[h2.1]at this;cases this
 ·simp only[List.contains_iff_mem]at e⊢;exact s.goes _ e
theorem mayOut_mono (s:Sub k j){q:Nat}(h:q∈mayOut ms j):q∈mayOut ms k:=by
 unfold mayOut at h⊢
 obtain⟨m,hm,e⟩:=List.mem_map.mp h
 refine List.mem_map.mpr ⟨m,?_,e⟩
 obtain⟨h1,h2⟩:=List.mem_filter.mp hm
 refine List.mem_filter.mpr ⟨h1,?_⟩
 simp only[Bool.and_eq_true,Bool.not_eq_true']at h2⊢
 refine⟨?_,any_mono (λx _ e=>?_) h2.2⟩
 ·cases d:sureLeft k m with
  |false=>rfl
  |true=>have:=sureLeft_mono s d;rw[h2.1]at this;cases this
 ·simp only[Bool.not_eq_true',con_false]at e⊢;exact λq=>e (s.stuck _ q)
theorem sureOut_may (c:Con k){q:Nat}(h:q∈sureOut ms k):q∈mayOut ms k:=by
 unfold sureOut at h;unfold mayOut
 obtain⟨m,hm,e⟩:=List.mem_map.mp h
 refine List.mem_map.mpr ⟨m,?_,e⟩
 obtain⟨h1,h2⟩:=List.mem_filter.mp hm
 refine List.mem_filter.mpr ⟨h1,?_⟩
 simp only[Bool.and_eq_true,Bool.not_eq_true']at h2⊢
 refine⟨?_,any_mono (λx _ e=>?_) h2.2⟩
 ·cases d:sureLeft k m with
  |false=>rfl
  |true=>have:=sureLeft_may c d;rw[h2.1]at this;cases this
 ·simp only[Bool.not_eq_true',con_false,List.contains_iff_mem]at e⊢;exact c.go _ e
end
inductive Reach (b:Board)(l:Men)(s:Man->Bool):Man->Prop
 |start {x:Man}:x∈l->s x=true->Reach b l s x
 |step {x y:Man}:Reach b l s y->x∈l->meets b x y=true->Reach b l s x
theorem Reach.mono {b:Board}{l l':Men}{s:Man->Bool}{x:Man}(h:∀y∈l,y∈l')(r:Reach b l s x):Reach b l' s x:=by
 induction r with
 |start hx e=>exact .start (h _ hx) e
 |step _ hx e ih=>exact .step ih (h _ hx) e
def fresh (b:Board)(l r:Men):Men:=l.filter λx=>!(r.any λy=>y.prov==x.prov)&&r.any λy=>meets b x y
theorem spread_succ (b:Board)(l:Men)(n:Nat)(r:Men):spread b l (n+1) r=spread b l n (r++fresh b l r):=rfl
theorem spread_sound {b:Board}{l:Men}{s:Man->Bool}:∀(n:Nat) (r:Men),(∀x∈r,Reach b l s x)->∀x∈spread b l n r,Reach b l s x
 |0,r,h=>h
 |n+1,r,h=>by
  rw[spread_succ]
  refine spread_sound n _ λx hx=>?_
  rcases List.mem_append.mp hx with e|e
  ·exact h x e
  ·obtain⟨h1,h2⟩:=List.mem_filter.mp e
   rw[Bool.and_eq_true]at h2
   obtain⟨y,hy,e⟩:=List.any_eq_true.mp h2.2
   exact .step (h y hy) h1 e
theorem spread_stay {b:Board}{l:Men}:∀(n:Nat) {r:Men},fresh b l r=[]->spread b l n r=r
 |0,_,_=>rfl
 |n+1,r,h=>by rw[spread_succ,h,List.append_nil,spread_stay n h]
theorem spread_keeps {b:Board}{l:Men}:∀(n:Nat) (r:Men) {x:Man},x∈r->x∈spread b l n r
 |0,_,_,h=>h
 |n+1,r,x,h=>by rw[spread_succ];exact spread_keeps n _ (List.mem_append_left _ h)
theorem nd_len {r l:Men}(h:(r.map (·.prov)).Nodup)(hs:∀x∈r,x∈l):r.length<=l.length:=by
 have:=ris_le (l:=r.map (·.prov)) (m:=l.map (·.prov)) h λp hp=>by
  obtain⟨x,hx,e⟩:=List.mem_map.mp hp
  exact List.mem_map.mpr ⟨x,hs x hx,e⟩
 simpa using this
theorem fresh_nd {b:Board}{l r:Men}(hl:(l.map (·.prov)).Nodup)(hr:(r.map (·.prov)).Nodup):((r++fresh b l r).map (·.prov)).Nodup:=by
 rw[List.map_append]
 refine List.nodup_append.mpr ⟨hr,?_,?_⟩
 ·exact List.Nodup.sublist (List.Sublist.map _ List.filter_sublist) hl
 ·rintro p hp q hq rfl
  obtain⟨x,hx,rfl⟩:=List.mem_map.mp hq
  obtain⟨y,hy,e⟩:=List.mem_map.mp hp
  obtain⟨_,h2⟩:=List.mem_filter.mp hx
  rw[Bool.and_eq_true,Bool.not_eq_true']at h2
  have:=h2.1
  rw[List.any_eq_false]at this
  exact this y hy (by simp[e])
theorem spread_closed {b:Board}{l:Men}(hl:(l.map (·.prov)).Nodup):∀(n:Nat) (r:Men),(r.map (·.prov)).Nodup->(∀x∈r,x∈l)->l.length<r.length+n->fresh b l (spread b l n r)=[]
 |0,r,h1,h2,h3=>by have:=nd_len h1 h2;omega
 |n+1,r,h1,h2,h3=>by
  by_cases c:fresh b l r=[]
  ·rw[spread_stay _ c];exact c
  ·rw[spread_succ]
   refine spread_closed hl n _ (fresh_nd hl h1) (λx hx=>?_) ?_
   ·rcases List.mem_append.mp hx with e|e
    ·exact h2 x e
    ·exact(List.mem_filter.mp e).1
   ·have:0<(fresh b l r).length:=List.length_pos_iff.mpr c
    rw[List.length_append];omega
theorem prov_inj {ms:Men}(h:(ms.map (·.prov)).Nodup){x y:Man}(hx:x∈ms)(hy:y∈ms)(e:x.prov=y.prov):x=y:=by
 induction ms with
 |nil=>simp at hx
 |cons a l ih=>
  have h1:=List.nodup_cons.mp (show((a.prov)::l.map (·.prov)).Nodup from h)
  rcases List.mem_cons.mp hx with ex|hx'
  ·rcases List.mem_cons.mp hy with ey|hy'
   ·rw[ex,ey]
   ·exact absurd (List.mem_map.mpr ⟨y,hy',by rw[<-e,ex]⟩) h1.1
  ·rcases List.mem_cons.mp hy with ey|hy'
   ·exact absurd (List.mem_map.mpr ⟨x,hx',by rw[e,ey]⟩) h1.1
   ·exact ih h1.2 hx' hy'
theorem mem_spread {b:Board}{l:Men}{s:Man->Bool}(hl:(l.map (·.prov)).Nodup){x:Man}:x∈spread b l l.length (l.filter s)<->Reach b l s x:=by
 constructor
 ·exact spread_sound _ _ (λy hy=>.start (List.mem_filter.mp hy).1 (List.mem_filter.mp hy).2) x
 ·intro h
  have hsub:∀n r,(∀x∈r,x∈l)->∀x∈spread b l n r,x∈l:=by
   intro n
   induction n with
   |zero=>exact λr h=>h
   |succ n ih=>
    intro r h x hx
    rw[spread_succ]at hx
    refine ih _ (λy hy=>?_) x hx
    rcases List.mem_append.mp hy with e|e
    ·exact h y e
    ·exact(List.mem_filter.mp e).1
  have h0:∀x∈l.filter s,x∈l:=λx hx=>(List.mem_filter.mp hx).1
  have nd0:((l.filter s).map (·.prov)).Nodup:=List.Nodup.sublist (List.Sublist.map _ List.filter_sublist) hl
  have ne:l.filter s≠[]:=by
   intro e
   have:∀x,Reach b l s x->False:=by
    intro x r
    induction r with
    |start hx q=>have:=List.mem_filter.mpr ⟨hx,q⟩;rw[e]at this;simp at this
    |step _ _ _ ih=>exact ih
   exact this x h
  have cl:=spread_closed (b:=b) hl l.length (l.filter s) nd0 h0 (by have:0<(l.filter s).length:=List.length_pos_iff.mpr ne;omega)
  induction h with
  |start hx q=>exact spread_keeps _ _ (List.mem_filter.mpr ⟨hx,q⟩)
  | @step x y hy hx q ih=>
   by_cases c:((spread b l l.length (l.filter s)).any λz=>z.prov==x.prov)=true
   ·obtain⟨z,hz,e⟩:=List.any_eq_true.mp c
    have:z=x:=prov_inj hl (hsub _ _ h0 z hz) hx (by simpa using e)
    exact this▸hz
   ·exfalso
    have:x∈fresh b l (spread b l l.length (l.filter s)):=by
     refine List.mem_filter.mpr ⟨hx,?_⟩
     rw[Bool.and_eq_true,Bool.not_eq_true']
     exact⟨by simpa using c,List.any_eq_true.mpr ⟨y,ih,q⟩⟩
    rw[cl]at this;simp at this
abbrev PNd (ms:Men):Prop:=(ms.map (·.prov)).Nodup
theorem carriers_nd {ms:Men}(h:PNd ms)(out:List Nat)(p q:Nat):PNd (carriers ms out p q):=List.Nodup.sublist (List.Sublist.map _ List.filter_sublist) h
theorem chain_iff {b:Board}{ms:Men}(h:PNd ms){out:List Nat}{p q:Nat}:chain b ms out p q=true<->∃x,Reach b (carriers ms out p q) (λx=>beside b x p) x/\beside b x q=true:=by
 unfold chain
 simp only[List.any_eq_true]
 constructor
 ·rintro⟨x,hx,e⟩
  exact⟨x,(mem_spread (carriers_nd h out p q)).mp hx,e⟩
 ·rintro⟨x,hx,e⟩
  exact⟨x,(mem_spread (carriers_nd h out p q)).mpr hx,e⟩
theorem chain_mono {b:Board}{ms:Men}(h:PNd ms){o o':List Nat}{p q:Nat}(s:∀x,x∈o'->x∈o)(c:chain b ms o p q=true):chain b ms o' p q=true:=by
 obtain⟨x,hx,e⟩:=(chain_iff h).mp c
 refine(chain_iff h).mpr ⟨x,hx.mono λy hy=>?_,e⟩
 obtain⟨h1,h2⟩:=List.mem_filter.mp hy
 refine List.mem_filter.mpr ⟨h1,?_⟩
 simp only[Bool.and_eq_true,Bool.not_eq_true',con_false]at h2⊢
 exact⟨h2.1,λz=>h2.2 (s _ z)⟩
section
variable {k j:Known}{b:Board}{ms:Men}{m x:Man}{p:Nat}
theorem any_opt {α:Type}{o:Option α}{f g:α->Bool}(h:∀x,f x=true->g x=true)(a:o.any f=true):o.any g=true:=by
 cases o with
 |none=>simp at a
 |some x=>simp only[Option.any_some]at a⊢;exact h x a
theorem sureChain_mono (nd:PNd ms)(s:Sub k j)(h:sureChain b ms k m=true):sureChain b ms j m=true:=by
 unfold sureChain at h⊢
 exact any_opt (λq c=>chain_mono nd (λx hx=>mayOut_mono s hx) c) h
theorem mayChain_mono (nd:PNd ms)(s:Sub k j)(h:mayChain b ms j m=true):mayChain b ms k m=true:=by
 unfold mayChain at h⊢
 exact any_opt (λq c=>chain_mono nd (λx hx=>sureOut_mono s hx) c) h
theorem sureChain_may (nd:PNd ms)(c:Con k)(h:sureChain b ms k m=true):mayChain b ms k m=true:=by
 unfold sureChain at h;unfold mayChain
 exact any_opt (λq d=>chain_mono nd (λx hx=>sureOut_may c hx) d) h
end
def isSup (m:Man):Bool:=match m.order with
 |.aid _ _=>true
 |.stay _=>true
 |_=>false
structure Ris6 (k:Known):Prop where
 goes:Ris k.goes
 stuck:Ris k.stuck
 way:Ris k.way
 noway:Ris k.noway
 cut:Ris k.cut
 uncut:Ris k.uncut
structure Told (b:Board)(ms:Men)(k j:Known):Prop where
 goes:∀p∈j.goes,∃m,manAt ms p=some m/\sureGoes ms k m=true
 stuck:∀p∈j.stuck,∃m,manAt ms p=some m/\(goal m).isSome=true/\mayGo ms k m=false
 way:∀p∈j.way,∃m,manAt ms p=some m/\byWater m=true/\sureChain b ms k m=true
 noway:∀p∈j.noway,∃m,manAt ms p=some m/\byWater m=true/\mayChain b ms k m=false
 cut:∀p∈j.cut,∃m,manAt ms p=some m/\isSup m=true/\sureCut ms k m=true
 uncut:∀p∈j.uncut,∃m,manAt ms p=some m/\isSup m=true/\mayCut ms k m=false
structure Good (b:Board)(ms:Men)(k:Known):Prop where
 ris:Ris6 k
 con:Con k
 told:Told b ms k k
section
variable {k j:Known}{b:Board}{ms:Men}{m x:Man}{p:Nat}
theorem ff_of {a c:Bool}(h:a=true->c=true)(e:c=false):a=false:=by
 cases a with
 |false=>rfl
 |true=>rw[h rfl]at e;exact e
theorem good_grow (nd:PNd ms)(g:Good b ms k)(s:Sub k j)(r:Ris6 j)(t:Told b ms k j):Good b ms j:=by
 refine⟨r,⟨λp h1 h2=>?_,λp h1 h2=>?_,λp h1 h2=>?_⟩,⟨λp h=>?_,λp h=>?_,λp h=>?_,λp h=>?_,λp h=>?_,λp h=>?_⟩⟩
 ·obtain⟨m,e,q⟩:=t.goes p h1
  obtain⟨m',e',_,q'⟩:=t.stuck p h2
  rw[e]at e';cases e'
  rw[sureGoes_may g.con q]at q';cases q'
 ·obtain⟨m,e,_,q⟩:=t.way p h1
  obtain⟨m',e',_,q'⟩:=t.noway p h2
  rw[e]at e';cases e'
  rw[sureChain_may nd g.con q]at q';cases q'
 ·obtain⟨m,e,_,q⟩:=t.cut p h1
  obtain⟨m',e',_,q'⟩:=t.uncut p h2
  rw[e]at e';cases e'
  rw[sureCut_may g.con q]at q';cases q'
 ·obtain⟨m,e,q⟩:=t.goes p h;exact⟨m,e,sureGoes_mono s q⟩
 ·obtain⟨m,e,z,q⟩:=t.stuck p h;exact⟨m,e,z,ff_of (mayGo_mono s) q⟩
 ·obtain⟨m,e,z,q⟩:=t.way p h;exact⟨m,e,z,sureChain_mono nd s q⟩
 ·obtain⟨m,e,z,q⟩:=t.noway p h;exact⟨m,e,z,ff_of (mayChain_mono nd s) q⟩
 ·obtain⟨m,e,z,q⟩:=t.cut p h;exact⟨m,e,z,sureCut_mono s q⟩
 ·obtain⟨m,e,z,q⟩:=t.uncut p h;exact⟨m,e,z,ff_of (mayCut_mono s) q⟩
theorem mem_put {l:List Nat}{P:Nat->Prop}(h:∀q∈l,P q)(hp:P p):∀q∈putIn p l,P q:=λq hq=>by
 rcases mem_putIn.mp hq with e|e
 ·exact e▸hp
 ·exact h q e
theorem sub_put {l:List Nat}:∀q,q∈l->q∈putIn p l:=λ_ h=>mem_putIn.mpr (.inr h)
theorem same {l:List Nat}:∀q,q∈l->q∈l:=λ_ h=>h
def learn0 (ms:Men)(k:Known)(p:Nat)(m:Man):Known:=if sureCut ms k m=true then {k with cut:=putIn p k.cut}else if mayCut ms k m=false then {k with uncut:=putIn p k.uncut}else k
def learn1 (b:Board)(ms:Men)(k:Known)(p:Nat)(m:Man):Known:=if sureChain b ms k m=true then {k with way:=putIn p k.way}else if mayChain b ms k m=false then {k with noway:=putIn p k.noway}else k
def learn2 (ms:Men)(k:Known)(p:Nat)(m:Man):Known:=if sureGoes ms k m=true then {k with goes:=putIn p k.goes}else if mayGo ms k m=false then {k with stuck:=putIn p k.stuck}else k
theorem learn_none {w:Nat}(h:manAt ms p=none):learn b ms k w p=k:=by unfold learn;rw[h]
theorem learn_0 (h:manAt ms p=some m):learn b ms k 0 p=if isSup m=true then learn0 ms k p m else k:=by
 unfold learn;rw[h]
 simp only
 rw[if_pos True.intro]
 unfold isSup learn0
 cases m.order<;>simp
theorem learn_1 (h:manAt ms p=some m):learn b ms k 1 p=if byWater m=true then learn1 b ms k p m else k:=by
 unfold learn;rw[h]
 simp only
 rw[if_neg (by decide),if_pos True.intro]
 unfold learn1
 cases byWater m<;>simp
theorem learn_2 (h:manAt ms p=some m):learn b ms k 2 p=if(goal m).isSome=true then learn2 ms k p m else k:=by
 unfold learn;rw[h]
 simp only
 rw[if_neg (by decide),if_neg (by decide)]
 unfold learn2
 cases goal m<;>simp
theorem good_learn0 (nd:PNd ms)(g:Good b ms k)(h:manAt ms p=some m)(z:isSup m=true):Good b ms (learn0 ms k p m)/\Sub k (learn0 ms k p m):=by
 obtain⟨r,c,t⟩:=g
 unfold learn0
 split
 ·rename_i q
  have s:Sub k {k with cut:=putIn p k.cut}:=⟨same,same,same,same,sub_put,same⟩
  exact⟨good_grow nd ⟨r,c,t⟩ s ⟨r.goes,r.stuck,r.way,r.noway,ris_putIn r.cut,r.uncut⟩ ⟨t.goes,t.stuck,t.way,t.noway,mem_put t.cut ⟨m,h,z,q⟩,t.uncut⟩,s⟩
 ·split
  ·rename_i q
   have s:Sub k {k with uncut:=putIn p k.uncut}:=⟨same,same,same,same,same,sub_put⟩
   exact⟨good_grow nd ⟨r,c,t⟩ s ⟨r.goes,r.stuck,r.way,r.noway,r.cut,ris_putIn r.uncut⟩ ⟨t.goes,t.stuck,t.way,t.noway,t.cut,mem_put t.uncut ⟨m,h,z,q⟩⟩,s⟩
  ·exact⟨⟨r,c,t⟩,Sub.refl k⟩
theorem good_learn1 (nd:PNd ms)(g:Good b ms k)(h:manAt ms p=some m)(z:byWater m=true):Good b ms (learn1 b ms k p m)/\Sub k (learn1 b ms k p m):=by
 obtain⟨r,c,t⟩:=g
 unfold learn1
 split
 ·rename_i q
  have s:Sub k {k with way:=putIn p k.way}:=⟨same,same,sub_put,same,same,same⟩
  exact⟨good_grow nd ⟨r,c,t⟩ s ⟨r.goes,r.stuck,ris_putIn r.way,r.noway,r.cut,r.uncut⟩ ⟨t.goes,t.stuck,mem_put t.way ⟨m,h,z,q⟩,t.noway,t.cut,t.uncut⟩,s⟩
 ·split
  ·rename_i q
   have s:Sub k {k with noway:=putIn p k.noway}:=⟨same,same,same,sub_put,same,same⟩
   exact⟨good_grow nd ⟨r,c,t⟩ s ⟨r.goes,r.stuck,r.way,ris_putIn r.noway,r.cut,r.uncut⟩ ⟨t.goes,t.stuck,t.way,mem_put t.noway ⟨m,h,z,q⟩,t.cut,t.uncut⟩,s⟩
  ·exact⟨⟨r,c,t⟩,Sub.refl k⟩
theorem good_learn2 (nd:PNd ms)(g:Good b ms k)(h:manAt ms p=some m)(z:(goal m).isSome=true):Good b ms (learn2 ms k p m)/\Sub k (learn2 ms k p m):=by
 obtain⟨r,c,t⟩:=g
 unfold learn2
 split
 ·rename_i q
  have s:Sub k {k with goes:=putIn p k.goes}:=⟨sub_put,same,same,same,same,same⟩
  exact⟨good_grow nd ⟨r,c,t⟩ s ⟨ris_putIn r.goes,r.stuck,r.way,r.noway,r.cut,r.uncut⟩ ⟨mem_put t.goes ⟨m,h,q⟩,t.stuck,t.way,t.noway,t.cut,t.uncut⟩,s⟩
 ·split
  ·rename_i q
   have s:Sub k {k with stuck:=putIn p k.stuck}:=⟨same,sub_put,same,same,same,same⟩
   exact⟨good_grow nd ⟨r,c,t⟩ s ⟨r.goes,ris_putIn r.stuck,r.way,r.noway,r.cut,r.uncut⟩ ⟨t.goes,mem_put t.stuck ⟨m,h,z,q⟩,t.way,t.noway,t.cut,t.uncut⟩,s⟩
  ·exact⟨⟨r,c,t⟩,Sub.refl k⟩
theorem learn_big {w:Nat}(h:2<=w):learn b ms k w p=learn b ms k 2 p:=by
 unfold learn
 cases manAt ms p with
 |none=>rfl
 |some m=>
  simp only
  rw[if_neg (show ¬w=0 by omega),if_neg (show ¬w=1 by omega),if_neg (show ¬(2:Nat)=0 by decide),if_neg (show ¬(2:Nat)=1 by decide)]
theorem good_learn (nd:PNd ms)(g:Good b ms k)(w p:Nat):Good b ms (learn b ms k w p)/\Sub k (learn b ms k w p):=by
 cases h:manAt ms p with
 |none=>rw[learn_none h];exact⟨g,Sub.refl k⟩
 |some m=>
  match w with
  |0=>
   rw[learn_0 h]
   split
   ·exact good_learn0 nd g h (by assumption)
   ·exact⟨g,Sub.refl k⟩
  |1=>
   rw[learn_1 h]
   split
   ·exact good_learn1 nd g h (by assumption)
   ·exact⟨g,Sub.refl k⟩
  |w+2=>
   rw[learn_big (by omega),learn_2 h]
   split
   ·exact good_learn2 nd g h (by assumption)
   ·exact⟨g,Sub.refl k⟩
theorem good_empty:Good b ms {}:=by
 refine⟨⟨.nil,.nil,.nil,.nil,.nil,.nil⟩,⟨?_,?_,?_⟩,⟨?_,?_,?_,?_,?_,?_⟩⟩<;>(intro p h;cases h)
def look3 (b:Board)(ms:Men)(k:Known)(m:Man):Known:=learn b ms (learn b ms (learn b ms k 0 m.prov) 1 m.prov) 2 m.prov
theorem good_look3 (nd:PNd ms)(g:Good b ms k)(m:Man):Good b ms (look3 b ms k m)/\Sub k (look3 b ms k m):=by
 have h1:=good_learn nd g 0 m.prov
 have h2:=good_learn nd h1.1 1 m.prov
 have h3:=good_learn nd h2.1 2 m.prov
 exact⟨h3.1,(h1.2.trans h2.2).trans h3.2⟩
theorem good_fold (nd:PNd ms):∀(l:Men) {k:Known},Good b ms k->Good b ms (l.foldl (look3 b ms) k)/\Sub k (l.foldl (look3 b ms) k)
 |[],k,g=>⟨g,Sub.refl k⟩
 |m::l,k,g=>by
  have h1:=good_look3 nd g m
  have h2:=good_fold nd l h1.1
  exact⟨h2.1,h1.2.trans h2.2⟩
theorem good_pass (nd:PNd ms)(g:Good b ms k):Good b ms (Vbsoae.pass b ms k)/\Sub k (Vbsoae.pass b ms k):=good_fold nd ms g
theorem len_sub {l m:List Nat}(hl:Ris l)(hs:∀x,x∈l->x∈m):l.length<=m.length:=ris_le (ris_nodup hl) hs
theorem eq_sub {l m:List Nat}(hl:Ris l)(hm:Ris m)(hs:∀x,x∈l->x∈m)(e:l.length=m.length):l=m:=by
 refine ris_ext hl hm λx=>⟨hs x,λhx=>?_⟩
 apply Classical.byContradiction
 intro n
 have:(x::l).length<=m.length:=ris_le (List.nodup_cons.mpr ⟨n,ris_nodup hl⟩) λy hy=>by
  rcases List.mem_cons.mp hy with e|e
  ·exact e▸hx
  ·exact hs y e
 simp at this;omega
theorem sizes_le (r:Ris6 k)(s:Sub k j):sizes k<=sizes j:=by
 unfold sizes
 have h1:=len_sub r.goes s.goes
 have h2:=len_sub r.stuck s.stuck
 have h3:=len_sub r.way s.way
 have h4:=len_sub r.noway s.noway
 have h5:=len_sub r.cut s.cut
 have h6:=len_sub r.uncut s.uncut
 omega
theorem sizes_eq (r:Ris6 k)(r':Ris6 j)(s:Sub k j)(e:sizes j=sizes k):j=k:=by
 unfold sizes at e
 have h1:=len_sub r.goes s.goes
 have h2:=len_sub r.stuck s.stuck
 have h3:=len_sub r.way s.way
 have h4:=len_sub r.noway s.noway
 have h5:=len_sub r.cut s.cut
 have h6:=len_sub r.uncut s.uncut
 have e1:=eq_sub r.goes r'.goes s.goes (by omega)
 have e2:=eq_sub r.stuck r'.stuck s.stuck (by omega)
 have e3:=eq_sub r.way r'.way s.way (by omega)
 have e4:=eq_sub r.noway r'.noway s.noway (by omega)
 have e5:=eq_sub r.cut r'.cut s.cut (by omega)
 have e6:=eq_sub r.uncut r'.uncut s.uncut (by omega)
 cases k;cases j;simp only at*;subst e1 e2 e3 e4 e5 e6;rfl
theorem manAt_mem {q:Nat}(h:manAt ms q=some m):m∈ms/\m.prov=q:=by
 unfold manAt at h
 exact⟨List.mem_of_find?_eq_some h,by have:=List.find?_some h;simpa using this⟩
theorem two_le {a c:List Nat}{n:Nat}{l:List Nat}(ha:Ris a)(hc:Ris c)(d:∀p,p∈a->p∉c)(i:∀p,p∈a->p∈l)(i':∀p,p∈c->p∈l)(hl:l.length=n):a.length+c.length<=n:=by
 have:=ris_le (l:=a++c) (m:=l) (List.nodup_append.mpr ⟨ris_nodup ha,ris_nodup hc,λp hp q hq e=>d p hp (e▸hq)⟩) λp hp=>by
  rcases List.mem_append.mp hp with h|h
  ·exact i p h
  ·exact i' p h
 rw[List.length_append]at this;omega
theorem sizes_bound (g:Good b ms k):sizes k<=3*ms.length:=by
 have pr:∀{p m},manAt ms p=some m->p∈ms.map (·.prov):=λe=>List.mem_map.mpr ⟨_,(manAt_mem e).1,(manAt_mem e).2⟩
 have hl:(ms.map (·.prov)).length=ms.length:=by simp
 have h1:=two_le g.ris.goes g.ris.stuck g.con.go (λp h=>let⟨_,e,_⟩:=g.told.goes p h;pr e) (λp h=>let⟨_,e,_⟩:=g.told.stuck p h;pr e) hl
 have h2:=two_le g.ris.way g.ris.noway g.con.wa (λp h=>let⟨_,e,_⟩:=g.told.way p h;pr e) (λp h=>let⟨_,e,_⟩:=g.told.noway p h;pr e) hl
 have h3:=two_le g.ris.cut g.ris.uncut g.con.cu (λp h=>let⟨_,e,_⟩:=g.told.cut p h;pr e) (λp h=>let⟨_,e,_⟩:=g.told.uncut p h;pr e) hl
 unfold sizes;omega
inductive Lim (b:Board)(ms:Men):Known->Known->Prop
 |stop {k:Known}:Vbsoae.pass b ms k=k->Lim b ms k k
 |go {k j:Known}:sizes k<sizes (Vbsoae.pass b ms k)->Lim b ms (Vbsoae.pass b ms k) j->Lim b ms k j
theorem lim_passes (nd:PNd ms):∀(n:Nat) {k:Known},Good b ms k->3*ms.length<sizes k+n->Lim b ms k (Vbsoae.passes b ms n k)/\Good b ms (Vbsoae.passes b ms n k)
 |0,k,g,h=>by have:=sizes_bound g;omega
 |n+1,k,g,h=>by
  have gp:=good_pass nd g
  unfold Vbsoae.passes
  simp only
  split
  ·rename_i e
   exact⟨.stop (sizes_eq g.ris gp.1.ris gp.2 e),g⟩
  ·rename_i e
   have le:=sizes_le g.ris gp.2
   have ih:=lim_passes nd n gp.1 (by omega)
   exact⟨.go (by omega) ih.1,ih.2⟩
theorem lim_all (nd:PNd ms)(g:Good b ms k):Lim b ms k (Vbsoae.all_ b ms k)/\Good b ms (Vbsoae.all_ b ms k):=lim_passes nd _ g (by omega)
end
theorem shape_cases {p:Int}{x:Nat×Nat}(h:PyVbsoae.shape p=some x):(p=0/\x=(0,0))\/(p=1/\x=(1,0))\/(p=2/\x=(2,0))\/(p=3/\x=(4,0))\/(p=4/\x=(4,0))\/(p=5/\x=(1,0))\/(p=6/\x=(1,0))\/(p=7/\x=(4,0))\/(p=8/\x=(2,0))\/(p=9/\x=(3,0))\/(p=10/\x=(3,0))\/(p=11/\x=(0,0))\/(p=12/\x=(2,0))\/(p=13/\x=(0,0))\/(p=14/\x=(0,0))\/(p=15/\x=(0,0))\/(p=16/\x=(1,0))\/(p=17/\x=(0,0))\/(p=18/\x=(1,0))\/(p=19/\x=(0,0)):=by
 unfold PyVbsoae.shape at h
 by_cases c0:p=0
 ·rw[if_pos c0]at h;exact .inl ⟨c0,(Option.some.inj h).symm⟩
 rw[if_neg c0]at h
 by_cases c1:p=1
 ·rw[if_pos c1]at h;exact .inr<|.inl ⟨c1,(Option.some.inj h).symm⟩
 rw[if_neg c1]at h
 by_cases c2:p=2
 ·rw[if_pos c2]at h;exact .inr<|.inr<|.inl ⟨c2,(Option.some.inj h).symm⟩
 rw[if_neg c2]at h
 by_cases c3:p=3
 ·rw[if_pos c3]at h;exact .inr<|.inr<|.inr<|.inl ⟨c3,(Option.some.inj h).symm⟩
 rw[if_neg c3]at h
 by_cases c4:p=4
 ·rw[if_pos c4]at h;exact .inr<|.inr<|.inr<|.inr<|.inl ⟨c4,(Option.some.inj h).symm⟩
 rw[if_neg c4]at h
 by_cases c5:p=5
 ·rw[if_pos c5]at h;exact .inr<|.inr<|.inr<|.inr<|.inr<|.inl ⟨c5,(Option.some.inj h).symm⟩
 rw[if_neg c5]at h
 by_cases c6:p=6
 ·rw[if_pos c6]at h;exact .inr<|.inr<|.inr<|.inr<|.inr<|.inr<|.inl ⟨c6,(Option.some.inj h).symm⟩
 rw[if_neg c6]at h
 by_cases c7:p=7
 ·rw[if_pos c7]at h;exact .inr<|.inr<|.inr<|.inr<|.inr<|.inr<|.inr<|.inl ⟨c7,(Option.some.inj h).symm⟩
 rw[if_neg c7]at h
 by_cases c8:p=8
 ·rw[if_pos c8]at h;exact .inr<|.inr<|.inr<|.inr<|.inr<|.inr<|.inr<|.inr<|.inl ⟨c8,(Option.some.inj h).symm⟩
 rw[if_neg c8]at h
 by_cases c9:p=9
 ·rw[if_pos c9]at h;exact .inr<|.inr<|.inr<|.inr<|.inr<|.inr<|.inr<|.inr<|.inr<|.inl ⟨c9,(Option.some.inj h).symm⟩
 rw[if_neg c9]at h
 by_cases c10:p=10
 ·rw[if_pos c10]at h;exact .inr<|.inr<|.inr<|.inr<|.inr<|.inr<|.inr<|.inr<|.inr<|.inr<|.inl ⟨c10,(Option.some.inj h).symm⟩
 rw[if_neg c10]at h
 by_cases c11:p=11
 ·rw[if_pos c11]at h;exact .inr<|.inr<|.inr<|.inr<|.inr<|.inr<|.inr<|.inr<|.inr<|.inr<|.inr<|.inl ⟨c11,(Option.some.inj h).symm⟩
 rw[if_neg c11]at h
 by_cases c12:p=12
 ·rw[if_pos c12]at h;exact .inr<|.inr<|.inr<|.inr<|.inr<|.inr<|.inr<|.inr<|.inr<|.inr<|.inr<|.inr<|.inl ⟨c12,(Option.some.inj h).symm⟩
 rw[if_neg c12]at h
 by_cases c13:p=13
 ·rw[if_pos c13]at h;exact .inr<|.inr<|.inr<|.inr<|.inr<|.inr<|.inr<|.inr<|.inr<|.inr<|.inr<|.inr<|.inr<|.inl ⟨c13,(Option.some.inj h).symm⟩
 rw[if_neg c13]at h
 by_cases c14:p=14
 ·rw[if_pos c14]at h;exact .inr<|.inr<|.inr<|.inr<|.inr<|.inr<|.inr<|.inr<|.inr<|.inr<|.inr<|.inr<|.inr<|.inr<|.inl ⟨c14,(Option.some.inj h).symm⟩
 rw[if_neg c14]at h
 by_cases c15:p=15
 ·rw[if_pos c15]at h;exact .inr<|.inr<|.inr<|.inr<|.inr<|.inr<|.inr<|.inr<|.inr<|.inr<|.inr<|.inr<|.inr<|.inr<|.inr<|.inl ⟨c15,(Option.some.inj h).symm⟩
 rw[if_neg c15]at h
 by_cases c16:p=16
 ·rw[if_pos c16]at h;exact .inr<|.inr<|.inr<|.inr<|.inr<|.inr<|.inr<|.inr<|.inr<|.inr<|.inr<|.inr<|.inr<|.inr<|.inr<|.inr<|.inl ⟨c16,(Option.some.inj h).symm⟩
 rw[if_neg c16]at h
 by_cases c17:p=17
 ·rw[if_pos c17]at h;exact .inr<|.inr<|.inr<|.inr<|.inr<|.inr<|.inr<|.inr<|.inr<|.inr<|.inr<|.inr<|.inr<|.inr<|.inr<|.inr<|.inr<|.inl ⟨c17,(Option.some.inj h).symm⟩
 rw[if_neg c17]at h
 by_cases c18:p=18
 ·rw[if_pos c18]at h;exact .inr<|.inr<|.inr<|.inr<|.inr<|.inr<|.inr<|.inr<|.inr<|.inr<|.inr<|.inr<|.inr<|.inr<|.inr<|.inr<|.inr<|.inr<|.inl ⟨c18,(Option.some.inj h).symm⟩
 rw[if_neg c18]at h
 by_cases c19:p=19
 ·rw[if_pos c19]at h;exact .inr<|.inr<|.inr<|.inr<|.inr<|.inr<|.inr<|.inr<|.inr<|.inr<|.inr<|.inr<|.inr<|.inr<|.inr<|.inr<|.inr<|.inr<|.inr<|⟨c19,(Option.some.inj h).symm⟩
 rw[if_neg c19]at h
 cases h
theorem shape_snd {p:Int}{n k:Nat}(h:PyVbsoae.shape p=some (n,k)):k=0:=by
 rcases shape_cases h with ⟨_,e⟩|⟨_,e⟩|⟨_,e⟩|⟨_,e⟩|⟨_,e⟩|⟨_,e⟩|⟨_,e⟩|⟨_,e⟩|⟨_,e⟩|⟨_,e⟩|⟨_,e⟩|⟨_,e⟩|⟨_,e⟩|⟨_,e⟩|⟨_,e⟩|⟨_,e⟩|⟨_,e⟩|⟨_,e⟩|⟨_,e⟩|⟨_,e⟩<;>exact(Prod.mk.inj e).2
def OkRow (r:List Int):Prop:=∃p a,r=p::a/\PyVbsoae.shape p=some (a.length,0)
def runs:Vbsoae.State->List (List Int)->List Int
 |_,[]=>[]
 |s,r::l=>((Vbsoae.step s (VbsoaeNeutral.callOf r)).2.length:Int)::((Vbsoae.step s (VbsoaeNeutral.callOf r)).2++runs (Vbsoae.step s (VbsoaeNeutral.callOf r)).1 l)
theorem told_runs:∀(s:Vbsoae.State) (rs:List (List Int)),PyFlat.told (PyFlat.played VbsoaeNeutral.step s (rs.map λr=>[r]))=runs s rs
 |_,[]=>rfl
 |s,r::l=>by
  show((Vbsoae.step s (VbsoaeNeutral.callOf r)).2.length:Int)::((Vbsoae.step s (VbsoaeNeutral.callOf r)).2++PyFlat.told (PyFlat.played VbsoaeNeutral.step (Vbsoae.step s (VbsoaeNeutral.callOf r)).1 (l.map λr=>[r])))=_
  rw[told_runs];rfl
theorem put_flat:∀rs:List (List Int),PyFlat.put (rs.map λr=>[r])=rs.flatten
 |[]=>rfl
 |r::l=>by
  show(r++PyFlat.putRows [])++PyFlat.put (l.map λr=>[r])=r++l.flatten
  rw[put_flat l];simp[PyFlat.putRows]
theorem rows_of:∀cs:List (List (List Int)),(∀c∈cs,PyFlat.okCall PyVbsoae.shape c)->∃rs:List (List Int),cs=rs.map (λr=>[r])/\∀r∈rs,OkRow r
 |[],_=>⟨[],rfl,by simp⟩
 |c::cs,h=>by
  obtain⟨rs,e,h2⟩:=rows_of cs λd hd=>h d (by simp[hd])
  obtain⟨p,a,xs,e1,e2⟩:=h c (by simp)
  have e3:=shape_snd e2
  have e4:xs=[]:=List.length_eq_zero_iff.mp e3
  subst e4
  refine⟨(p::a)::rs,by rw[e,e1];rfl,λr hr=>?_⟩
  rcases List.mem_cons.mp hr with z|z
  ·exact z▸⟨p,a,rfl,e2⟩
  ·exact h2 r z
theorem okRow_cases {r:List Int}(h:OkRow r):r=[0]\/(∃a,r=[1,a])\/(∃a b,r=[2,a,b])\/(∃a b c d,r=[3,a,b,c,d])\/(∃a b c d,r=[4,a,b,c,d])\/(∃a,r=[5,a])\/(∃a,r=[6,a])\/(∃a b c d,r=[7,a,b,c,d])\/(∃a b,r=[8,a,b])\/(∃a b c,r=[9,a,b,c])\/(∃a b c,r=[10,a,b,c])\/r=[11]\/(∃a b,r=[12,a,b])\/r=[13]\/r=[14]\/r=[15]\/(∃a,r=[16,a])\/r=[17]\/(∃a,r=[18,a])\/r=[19]:=by
 obtain⟨p,a,rfl,h⟩:=h
 have L0:∀{a:List Int},0=a.length->a=[]:=λh=>List.length_eq_zero_iff.mp h.symm
 have L1:∀{a:List Int},1=a.length->∃x,a=[x]:=λ{a} h=>match a,h with|[x],_=>⟨x,rfl⟩
 have L2:∀{a:List Int},2=a.length->∃x y,a=[x,y]:=λ{a} h=>match a,h with|[x,y],_=>⟨x,y,rfl⟩
 have L3:∀{a:List Int},3=a.length->∃x y z,a=[x,y,z]:=λ{a} h=>match a,h with|[x,y,z],_=>⟨x,y,z,rfl⟩
 have L4:∀{a:List Int},4=a.length->∃x y z u,a=[x,y,z,u]:=λ{a} h=>match a,h with|[x,y,z,u],_=>⟨x,y,z,u,rfl⟩
 rcases shape_cases h with ⟨rfl,e⟩|⟨rfl,e⟩|⟨rfl,e⟩|⟨rfl,e⟩|⟨rfl,e⟩|⟨rfl,e⟩|⟨rfl,e⟩|⟨rfl,e⟩|⟨rfl,e⟩|⟨rfl,e⟩|⟨rfl,e⟩|⟨rfl,e⟩|⟨rfl,e⟩|⟨rfl,e⟩|⟨rfl,e⟩|⟨rfl,e⟩|⟨rfl,e⟩|⟨rfl,e⟩|⟨rfl,e⟩|⟨rfl,e⟩
 ·rw[L0 (congrArg Prod.fst e).symm];exact .inl rfl
 ·obtain⟨x,rfl⟩:=L1 (congrArg Prod.fst e).symm;exact .inr<|.inl ⟨x,rfl⟩
 ·obtain⟨x,y,rfl⟩:=L2 (congrArg Prod.fst e).symm;exact .inr<|.inr<|.inl ⟨x,y,rfl⟩
 ·obtain⟨x,y,z,u,rfl⟩:=L4 (congrArg Prod.fst e).symm;exact .inr<|.inr<|.inr<|.inl ⟨x,y,z,u,rfl⟩
 ·obtain⟨x,y,z,u,rfl⟩:=L4 (congrArg Prod.fst e).symm;exact .inr<|.inr<|.inr<|.inr<|.inl ⟨x,y,z,u,rfl⟩
 ·obtain⟨x,rfl⟩:=L1 (congrArg Prod.fst e).symm;exact .inr<|.inr<|.inr<|.inr<|.inr<|.inl ⟨x,rfl⟩
 ·obtain⟨x,rfl⟩:=L1 (congrArg Prod.fst e).symm;exact .inr<|.inr<|.inr<|.inr<|.inr<|.inr<|.inl ⟨x,rfl⟩
 ·obtain⟨x,y,z,u,rfl⟩:=L4 (congrArg Prod.fst e).symm;exact .inr<|.inr<|.inr<|.inr<|.inr<|.inr<|.inr<|.inl ⟨x,y,z,u,rfl⟩
 ·obtain⟨x,y,rfl⟩:=L2 (congrArg Prod.fst e).symm;exact .inr<|.inr<|.inr<|.inr<|.inr<|.inr<|.inr<|.inr<|.inl ⟨x,y,rfl⟩
 ·obtain⟨x,y,z,rfl⟩:=L3 (congrArg Prod.fst e).symm;exact .inr<|.inr<|.inr<|.inr<|.inr<|.inr<|.inr<|.inr<|.inr<|.inl ⟨x,y,z,rfl⟩
 ·obtain⟨x,y,z,rfl⟩:=L3 (congrArg Prod.fst e).symm;exact .inr<|.inr<|.inr<|.inr<|.inr<|.inr<|.inr<|.inr<|.inr<|.inr<|.inl ⟨x,y,z,rfl⟩
 ·rw[L0 (congrArg Prod.fst e).symm];exact .inr<|.inr<|.inr<|.inr<|.inr<|.inr<|.inr<|.inr<|.inr<|.inr<|.inr<|.inl rfl
 ·obtain⟨x,y,rfl⟩:=L2 (congrArg Prod.fst e).symm;exact .inr<|.inr<|.inr<|.inr<|.inr<|.inr<|.inr<|.inr<|.inr<|.inr<|.inr<|.inr<|.inl ⟨x,y,rfl⟩
 ·rw[L0 (congrArg Prod.fst e).symm];exact .inr<|.inr<|.inr<|.inr<|.inr<|.inr<|.inr<|.inr<|.inr<|.inr<|.inr<|.inr<|.inr<|.inl rfl
 ·rw[L0 (congrArg Prod.fst e).symm];exact .inr<|.inr<|.inr<|.inr<|.inr<|.inr<|.inr<|.inr<|.inr<|.inr<|.inr<|.inr<|.inr<|.inr<|.inl rfl
 ·rw[L0 (congrArg Prod.fst e).symm];exact .inr<|.inr<|.inr<|.inr<|.inr<|.inr<|.inr<|.inr<|.inr<|.inr<|.inr<|.inr<|.inr<|.inr<|.inr<|.inl rfl
 ·obtain⟨x,rfl⟩:=L1 (congrArg Prod.fst e).symm;exact .inr<|.inr<|.inr<|.inr<|.inr<|.inr<|.inr<|.inr<|.inr<|.inr<|.inr<|.inr<|.inr<|.inr<|.inr<|.inr<|.inl ⟨x,rfl⟩
 ·rw[L0 (congrArg Prod.fst e).symm];exact .inr<|.inr<|.inr<|.inr<|.inr<|.inr<|.inr<|.inr<|.inr<|.inr<|.inr<|.inr<|.inr<|.inr<|.inr<|.inr<|.inr<|.inl rfl
 ·obtain⟨x,rfl⟩:=L1 (congrArg Prod.fst e).symm;exact .inr<|.inr<|.inr<|.inr<|.inr<|.inr<|.inr<|.inr<|.inr<|.inr<|.inr<|.inr<|.inr<|.inr<|.inr<|.inr<|.inr<|.inr<|.inl ⟨x,rfl⟩
 ·rw[L0 (congrArg Prod.fst e).symm];exact .inr<|.inr<|.inr<|.inr<|.inr<|.inr<|.inr<|.inr<|.inr<|.inr<|.inr<|.inr<|.inr<|.inr<|.inr<|.inr<|.inr<|.inr<|.inr<|rfl
theorem whole_ok {r:List Int}(h:OkRow r):PyVbsoae.whole [r]=[r]:=by
 rcases okRow_cases h with rfl|⟨_,rfl⟩|⟨_,_,rfl⟩|⟨_,_,_,_,rfl⟩|⟨_,_,_,_,rfl⟩|⟨_,rfl⟩|⟨_,rfl⟩|⟨_,_,_,_,rfl⟩|⟨_,_,rfl⟩|⟨_,_,_,rfl⟩|⟨_,_,_,rfl⟩|rfl|⟨_,_,rfl⟩|rfl|rfl|rfl|⟨_,rfl⟩|rfl|⟨_,rfl⟩|rfl<;>rfl
theorem asked_rows {l:List Int}(h:PyVbsoae.answers_asked l=true):∃rs:List (List Int),l=rs.flatten/\(∀r∈rs,OkRow r)/\rs.length<=400/\PyVbsoae.answers l=runs Vbsoae.start rs:=by
 unfold PyVbsoae.answers_asked at h
 unfold PyVbsoae.answers
 unfold PyVbsoae.calls at h⊢
 cases e:PyFlat.calls PyVbsoae.shape l.length l with
 |none=>rw[e]at h;cases h
 |some cs=>
  rw[e]at h
  obtain⟨e1,e2⟩:=PyFlat.put_calls _ _ _ e
  obtain⟨rs,e3,e4⟩:=rows_of cs e2
  subst e3
  have em:(rs.map λr=>[r]).map PyVbsoae.whole=rs.map λr=>[r]:=by
   rw[List.map_map]
   exact List.map_congr_left λr hr=>whole_ok (e4 r hr)
  simp only[em]at h⊢
  refine⟨rs,by rw[e1,put_flat],e4,?_,told_runs _ rs⟩
  rw[Bool.and_eq_true]at h
  have:=h.1
  unfold PyFlat.atMost at this
  simpa using this
def after (s:Vbsoae.State)(rs:List (List Int)):Vbsoae.State:=rs.foldl (λs r=>(Vbsoae.step s (VbsoaeNeutral.callOf r)).1) s
theorem runs_snoc:∀(rs:List (List Int)) (s:Vbsoae.State) (r:List Int),runs s (rs++[r])=runs s rs++(((Vbsoae.step (after s rs) (VbsoaeNeutral.callOf r)).2.length:Int)::(Vbsoae.step (after s rs) (VbsoaeNeutral.callOf r)).2)
 |[],s,r=>by simp[runs,after]
 |q::rs,s,r=>by
  simp only[List.cons_append,runs]
  rw[runs_snoc rs]
  simp[after]
theorem after_snoc (rs:List (List Int))(s:Vbsoae.State)(r:List Int):after s (rs++[r])=(Vbsoae.step (after s rs) (VbsoaeNeutral.callOf r)).1:=by simp[after]
def ordIn (n:Nat):Order->Prop
 |.hold=>True
 |.move p s _=>p<n/\s<=3
 |.stay p=>p<n
 |.aid p q=>p<n/\q<n
 |.carry p q=>p<n/\q<n
abbrev swp (x y:Nat×Nat):Prop:=x=y\/x=(y.2,y.1)
structure MOk (b:Board)(m:Man):Prop where
 pr:m.prov<b.kinds.length
 sh:m.shore<=3
 pw:m.power<=6
 ar:m.fleet=false->m.shore=0/\kind b m.prov≠1
 fl:m.fleet=true->kind b m.prov≠0
 od:ordIn b.kinds.length m.order
structure LOk (b:Board)(e:Nat×Nat):Prop where
 p1:e.1<b.kinds.length
 p2:e.2<b.kinds.length
 ne:e.1≠e.2
 k1:kind b e.1≠1
 k2:kind b e.2≠1
structure SOk (b:Board)(e:Nat×Nat):Prop where
 p1:e.1/4<b.kinds.length
 p2:e.2/4<b.kinds.length
 ne:e.1/4≠e.2/4
 k1:kind b (e.1/4)≠0
 k2:kind b (e.2/4)≠0
structure WT (t:Table):Prop where
 kn:t.board.kinds.length<=40
 kr:∀k∈t.board.kinds,k<=2
 ln:t.board.land.length<=300
 le:∀e∈t.board.land,LOk t.board e
 lp:t.board.land.Pairwise λx y=>¬swp x y
 sn:t.board.sea.length<=300
 se:∀e∈t.board.sea,SOk t.board e
 sp:t.board.sea.Pairwise λx y=>¬swp x y
 mn:t.men.length<=24
 md:PNd t.men
 me:∀m∈t.men,MOk t.board m
theorem wt_start:WT {}:=by
 refine⟨Nat.zero_le _,?_,Nat.zero_le _,?_,List.Pairwise.nil,Nat.zero_le _,?_,List.Pairwise.nil,Nat.zero_le _,List.Pairwise.nil,?_⟩
 all_goals (intro x h;cases h)
theorem linked_iff {l:List (Nat×Nat)}{x y:Nat}:linked l x y=true<->∃e∈l,swp e (x,y):=by
 unfold linked
 rw[List.any_eq_true]
 constructor
 ·rintro⟨e,he,h⟩
  refine⟨e,he,?_⟩
  simp only[Bool.or_eq_true,Bool.and_eq_true,beq_iff_eq]at h
  rcases h with ⟨a,b⟩|⟨a,b⟩
  ·exact .inl (Prod.ext a b)
  ·exact .inr (Prod.ext a b)
 ·rintro⟨e,he,h⟩
  refine⟨e,he,?_⟩
  simp only[Bool.or_eq_true,Bool.and_eq_true,beq_iff_eq]
  rcases h with rfl|rfl
  ·exact .inl ⟨rfl,rfl⟩
  ·exact .inr ⟨rfl,rfl⟩
theorem linked_comm (l:List (Nat×Nat))(x y:Nat):linked l x y=linked l y x:=by
 unfold linked
 congr 1
 funext k
 rw[Bool.or_comm]
section
variable {b b':Board}{t:Table}
theorem within_iff {x lo hi:Int}:within x lo hi=true<->lo<=x/\x<=hi:=by unfold within;simp
theorem isProv_iff {p:Int}:isProv t p=true<->∃n:Nat,p=n/\n<t.board.kinds.length:=by
 unfold isProv;rw[within_iff]
 constructor
 ·rintro⟨a,c⟩;exact⟨p.toNat,by omega,by omega⟩
 ·rintro⟨n,rfl,h⟩;omega
theorem isMan_iff {n:Nat}(h:n<t.board.kinds.length):isMan t n=(manAt t.men n).isSome:=by
 unfold isMan
 rw[isProv_iff.mpr ⟨n,rfl,h⟩,Bool.true_and];rfl
theorem kind_app {n k:Nat}(h:n<b.kinds.length):kind {b with kinds:=b.kinds++[k]} n=kind b n:=by
 unfold kind
 simp only[List.getD_eq_getElem?_getD]
 rw[List.getElem?_append_left h]
theorem ordIn_mono {n m:Nat}(h:n<=m){o:Order}(q:ordIn n o):ordIn m o:=by
 cases o with
 |hold=>trivial
 |move p s w=>exact⟨Nat.lt_of_lt_of_le q.1 h,q.2⟩
 |stay p=>exact Nat.lt_of_lt_of_le q h
 |aid p q'=>exact⟨Nat.lt_of_lt_of_le q.1 h,Nat.lt_of_lt_of_le q.2 h⟩
 |carry p q'=>exact⟨Nat.lt_of_lt_of_le q.1 h,Nat.lt_of_lt_of_le q.2 h⟩
theorem wt_kind (w:WT t){k:Nat}(hk:k<=2)(hn:t.board.kinds.length<40):WT {t with board:={t.board with kinds:=t.board.kinds++[k]}}:=by
 have hl:(t.board.kinds++[k]).length=t.board.kinds.length+1:=by simp
 refine⟨?_,?_,w.ln,λe he=>?_,w.lp,w.sn,λe he=>?_,w.sp,w.mn,w.md,λm hm=>?_⟩
 ·show(t.board.kinds++[k]).length<=40;omega
 ·intro x hx
  rcases List.mem_append.mp hx with q|q
  ·exact w.kr x q
  ·rw[List.mem_singleton.mp q];exact hk
 ·have z:=w.le e he
  exact⟨by show _<(t.board.kinds++[k]).length;have:=z.p1;omega,by show _<(t.board.kinds++[k]).length;have:=z.p2;omega,z.ne,by rw[kind_app z.p1];exact z.k1,by rw[kind_app z.p2];exact z.k2⟩
 ·have z:=w.se e he
  exact⟨by show _<(t.board.kinds++[k]).length;have:=z.p1;omega,by show _<(t.board.kinds++[k]).length;have:=z.p2;omega,z.ne,by rw[kind_app z.p1];exact z.k1,by rw[kind_app z.p2];exact z.k2⟩
 ·have z:=w.me m hm
  exact⟨by show _<(t.board.kinds++[k]).length;have:=z.pr;omega,z.sh,z.pw,λf=>by rw[kind_app z.pr];exact z.ar f,λf=>by rw[kind_app z.pr];exact z.fl f,ordIn_mono (by show _<=(t.board.kinds++[k]).length;omega) z.od⟩
theorem pw_snoc {l:List (Nat×Nat)}{e:Nat×Nat}(h:l.Pairwise λx y=>¬swp x y)(n:¬linked l e.1 e.2=true):(l++[e]).Pairwise λx y=>¬swp x y:=by
 refine List.pairwise_append.mpr ⟨h,List.pairwise_singleton _ _,λx hx y hy=>?_⟩
 rw[List.mem_singleton.mp hy]
 exact λq=>n (linked_iff.mpr ⟨x,hx,q⟩)
theorem wt_land (w:WT t){e:Nat×Nat}(h:LOk t.board e)(n:¬linked t.board.land e.1 e.2=true)(hn:t.board.land.length<300):WT {t with board:={t.board with land:=t.board.land++[e]}}:=by
 refine⟨w.kn,w.kr,?_,λx hx=>?_,pw_snoc w.lp n,w.sn,λx hx=>?_,w.sp,w.mn,w.md,λm hm=>?_⟩
 ·show(t.board.land++[e]).length<=300;simp;omega
 ·have z:LOk t.board x:=by
   rcases List.mem_append.mp hx with q|q
   ·exact w.le x q
   ·rw[List.mem_singleton.mp q];exact h
  exact⟨z.p1,z.p2,z.ne,z.k1,z.k2⟩
 ·have z:=w.se x hx
  exact⟨z.p1,z.p2,z.ne,z.k1,z.k2⟩
 ·have z:=w.me m hm
  exact⟨z.pr,z.sh,z.pw,z.ar,z.fl,z.od⟩
theorem wt_sea (w:WT t){e:Nat×Nat}(h:SOk t.board e)(n:¬linked t.board.sea e.1 e.2=true)(hn:t.board.sea.length<300):WT {t with board:={t.board with sea:=t.board.sea++[e]}}:=by
 refine⟨w.kn,w.kr,w.ln,λx hx=>?_,w.lp,?_,λx hx=>?_,pw_snoc w.sp n,w.mn,w.md,λm hm=>?_⟩
 ·have z:=w.le x hx
  exact⟨z.p1,z.p2,z.ne,z.k1,z.k2⟩
 ·show(t.board.sea++[e]).length<=300;simp;omega
 ·have z:SOk t.board x:=by
   rcases List.mem_append.mp hx with q|q
   ·exact w.se x q
   ·rw[List.mem_singleton.mp q];exact h
  exact⟨z.p1,z.p2,z.ne,z.k1,z.k2⟩
 ·have z:=w.me m hm
  exact⟨z.pr,z.sh,z.pw,z.ar,z.fl,z.od⟩
theorem manAt_none {ms:Men}{p:Nat}:manAt ms p=none<->∀m∈ms,m.prov≠p:=by
 unfold manAt
 rw[List.find?_eq_none]
 simp
theorem wt_men (w:WT t){ms:Men}(hn:ms.length<=24)(nd:PNd ms)(h:∀m∈ms,MOk t.board m)(wa:List Nat):WT {t with men:=ms,water:=wa}:=
 ⟨w.kn,w.kr,w.ln,w.le,w.lp,w.sn,w.se,w.sp,hn,nd,h⟩
theorem wt_man (w:WT t){m:Man}(h:MOk t.board m)(n:manAt t.men m.prov=none)(hn:t.men.length<24):WT {t with men:=t.men++[m]}:=by
 refine wt_men w (by simp;omega) ?_ (λx hx=>?_) t.water
 ·show((t.men++[m]).map (·.prov)).Nodup
  rw[List.map_append]
  refine List.nodup_append.mpr ⟨w.md,by simp,λp hp q hq e=>?_⟩
  obtain⟨x,hx,rfl⟩:=List.mem_map.mp hp
  simp at hq
  exact manAt_none.mp n x hx (e.trans hq)
 ·rcases List.mem_append.mp hx with q|q
  ·exact w.me x q
  ·rw[List.mem_singleton.mp q];exact h
theorem wt_gone (w:WT t)(p:Nat)(wa:List Nat):WT {t with men:=t.men.filter (λm=>m.prov !=p),water:=wa}:=
 wt_men w (Nat.le_trans (List.length_filter_le _ _) w.mn) (List.Nodup.sublist (List.Sublist.map _ List.filter_sublist) w.md) (λm hm=>w.me m (List.mem_filter.mp hm).1) wa
theorem wt_ordered (w:WT t)(p:Nat){o:Order}(ho:ordIn t.board.kinds.length o):WT (ordered t p o):=by
 refine wt_men w (by simp;exact w.mn) ?_ (λm hm=>?_) t.water
 ·show((t.men.map λm=>if m.prov=p then {m with order:=o}else m).map (·.prov)).Nodup
  have e:(t.men.map λm=>if m.prov=p then {m with order:=o}else m).map (·.prov)=t.men.map (·.prov):=by
   rw[List.map_map]
   refine List.map_congr_left λm _=>?_
   show(if m.prov=p then {m with order:=o}else m).prov=m.prov
   split<;>rfl
  rw[e];exact w.md
 ·obtain⟨x,hx,rfl⟩:=List.mem_map.mp hm
  have z:=w.me x hx
  split
  ·exact⟨z.pr,z.sh,z.pw,z.ar,z.fl,ho⟩
  ·exact z
theorem settled_nd (h:PNd t.men):PNd (eff t):=by
 unfold eff settled PNd
 rw[List.map_map]
 exact h
structure WS (s:Vbsoae.State):Prop where
 t:WT s.table
 g:Good s.table.board (eff s.table) s.known
theorem WS.nd {s:Vbsoae.State}(w:WS s):PNd (eff s.table):=settled_nd w.t.md
theorem ws_start:WS Vbsoae.start:=⟨wt_start,good_empty⟩
end
def isBase:Vbsoaa.Call->Prop
 |.water _ _=>False
 |.order _=>False
 |.strengths _ _=>False
 |.cuts _=>False
 |.agrees _=>False
 |.most=>False
 |.least=>False
 |.rings=>False
 |.then_ _=>False
 |.ways _=>False
 |.counts=>False
 |.wrong=>False
 |_=>True
def Done (t:Table)(x:Table×Answer):Prop:=(WT x.1/\x.2.headD 0=0/\x.2.length<=2)\/∃k:Int,k<0/\x=(t,[k])
section
variable {t:Table}
theorem no_ {k:Int}(h:k<0):Done t (t,[k]):=.inr ⟨k,h,rfl⟩
theorem base_step (w:WT t){c:Vbsoaa.Call}(hc:isBase c):Done t (Vbsoaa.step t c):=by
 cases c with
 |clear=>exact .inl ⟨wt_start,rfl,by simp[Vbsoaa.step]⟩
 |province k=>
  unfold Vbsoaa.step
  simp only
  split
  ·exact no_ (by decide)
  split
  ·exact no_ (by decide)
  ·rename_i h1 h2
   have h3:=within_iff.mp (by simpa using h1)
   unfold PROVINCES at h2
   exact .inl ⟨wt_kind w (by omega) (by omega),rfl,by simp⟩
 |land p q=>
  unfold Vbsoaa.step
  simp only
  split
  ·exact no_ (by decide)
  split
  ·exact no_ (by decide)
  split
  ·exact no_ (by decide)
  split
  ·exact no_ (by decide)
  ·rename_i h1 h2 h3 h4
   have h5:isProv t p=true/\isProv t q=true:=by simpa using h1
   obtain⟨a,rfl,ha⟩:=isProv_iff.mp h5.1
   obtain⟨b,rfl,hb⟩:=isProv_iff.mp h5.2
   unfold LINKS at h4
   refine .inl ⟨wt_land w (e:=(a,b)) ⟨ha,hb,λe=>h2 (.inl (congrArg Int.ofNat e)),λe=>h2 (.inr (.inl e)),λe=>h2 (.inr (.inr e))⟩ h3 (by omega),rfl,by simp⟩
 |sea p s q u=>
  unfold Vbsoaa.step
  simp only
  split
  ·exact no_ (by decide)
  split
  ·exact no_ (by decide)
  split
  ·exact no_ (by decide)
  split
  ·exact no_ (by decide)
  ·rename_i h1 h2 h3 h4
   have h5:isProv t p=true/\isProv t q=true/\within s 0 3=true/\within u 0 3=true:=by simpa using h1
   obtain⟨a,rfl,ha⟩:=isProv_iff.mp h5.1
   obtain⟨b,rfl,hb⟩:=isProv_iff.mp h5.2.1
   have h6:=within_iff.mp h5.2.2.1
   have h7:=within_iff.mp h5.2.2.2
   unfold LINKS at h4
   have e1:place (Int.toNat a) s.toNat/4=a:=by unfold place;simp only[Int.toNat_natCast];omega
   have e2:place (Int.toNat b) u.toNat/4=b:=by unfold place;simp only[Int.toNat_natCast];omega
   refine .inl ⟨wt_sea w (e:=(place (Int.toNat a) s.toNat,place (Int.toNat b) u.toNat)) ⟨?_,?_,?_,?_,?_⟩ h3 (by omega),rfl,by simp⟩
   ·show place (Int.toNat a) s.toNat/4<_;rw[e1];exact ha
   ·show place (Int.toNat b) u.toNat/4<_;rw[e2];exact hb
   ·show place (Int.toNat a) s.toNat/4≠place (Int.toNat b) u.toNat/4;rw[e1,e2];exact λe=>h2 (.inl (congrArg Int.ofNat e))
   ·show kind _ (place (Int.toNat a) s.toNat/4)≠0;rw[e1];exact λe=>h2 (.inr (.inl e))
   ·show kind _ (place (Int.toNat b) u.toNat/4)≠0;rw[e2];exact λe=>h2 (.inr (.inr e))
 |man pw f p s=>
  unfold Vbsoaa.step
  simp only
  split
  ·exact no_ (by decide)
  split
  ·exact no_ (by decide)
  split
  ·exact no_ (by decide)
  split
  ·exact no_ (by decide)
  ·rename_i h1 h2 h3 h4
   have h5:within pw 0 6=true/\within f 0 1=true/\isProv t p=true/\within s 0 3=true:=by simpa using h1
   obtain⟨a,rfl,ha⟩:=isProv_iff.mp h5.2.2.1
   have h6:=within_iff.mp h5.1
   have h7:=within_iff.mp h5.2.1
   have h8:=within_iff.mp h5.2.2.2
   unfold MEN at h4
   refine .inl ⟨wt_man w (m:={power:=pw.toNat,fleet:=f==1,prov:=Int.toNat a,shore:=s.toNat}) ⟨ha,?_,?_,λe=>?_,λe=>?_,True.intro⟩ (by simpa using h3) (by omega),rfl,by simp⟩
   ·show s.toNat<=3;omega
   ·show pw.toNat<=6;omega
   ·have e':¬f=1:=by simpa using e
    have f0:f=0:=by omega
    refine⟨?_,λz=>h2 (.inl ⟨f0,.inl z⟩)⟩
    show s.toNat=0
    by_cases z:s=0
    ·rw[z];rfl
    ·exact absurd (.inl ⟨f0,.inr z⟩) h2
   ·exact λz=>h2 (.inr ⟨by simpa using e,z⟩)
 |gone p=>
  unfold Vbsoaa.step
  simp only
  split
  ·exact no_ (by decide)
  split
  ·exact no_ (by decide)
  ·exact .inl ⟨wt_gone w _ _,rfl,by simp⟩
 |hold p=>
  unfold Vbsoaa.step
  simp only
  split
  ·exact no_ (by decide)
  split
  ·exact no_ (by decide)
  ·exact .inl ⟨wt_ordered w _ True.intro,rfl,by simp⟩
 |move p q u x=>
  unfold Vbsoaa.step
  simp only
  split
  ·exact no_ (by decide)
  split
  ·exact no_ (by decide)
  ·rename_i h1 h2
   have h5:isProv t p=true/\isProv t q=true/\within u 0 3=true/\within x 0 1=true:=by simpa using h1
   obtain⟨b,rfl,hb⟩:=isProv_iff.mp h5.2.1
   have h6:=within_iff.mp h5.2.2.1
   exact .inl ⟨wt_ordered w _ (o:=.move _ _ _) ⟨hb,by omega⟩,rfl,by simp⟩
 |stay p q=>
  unfold Vbsoaa.step
  simp only
  split
  ·exact no_ (by decide)
  split
  ·exact no_ (by decide)
  ·rename_i h1 h2
   have h5:isProv t p=true/\isProv t q=true:=by simpa using h1
   obtain⟨b,rfl,hb⟩:=isProv_iff.mp h5.2
   exact .inl ⟨wt_ordered w _ (o:=.stay _) hb,rfl,by simp⟩
 |aid p a q=>
  unfold Vbsoaa.step
  simp only
  split
  ·exact no_ (by decide)
  split
  ·exact no_ (by decide)
  ·rename_i h1 h2
   have h5:isProv t p=true/\isProv t a=true/\isProv t q=true:=by simpa using h1
   obtain⟨b,rfl,hb⟩:=isProv_iff.mp h5.2.1
   obtain⟨d,rfl,hd⟩:=isProv_iff.mp h5.2.2
   exact .inl ⟨wt_ordered w _ (o:=.aid _ _) ⟨hb,hd⟩,rfl,by simp⟩
 |carry p a q=>
  unfold Vbsoaa.step
  simp only
  split
  ·exact no_ (by decide)
  split
  ·exact no_ (by decide)
  ·rename_i h1 h2
   have h5:isProv t p=true/\isProv t a=true/\isProv t q=true:=by simpa using h1
   obtain⟨b,rfl,hb⟩:=isProv_iff.mp h5.2.1
   obtain⟨d,rfl,hd⟩:=isProv_iff.mp h5.2.2
   exact .inl ⟨wt_ordered w _ (o:=.carry _ _) ⟨hb,hd⟩,rfl,by simp⟩
 |water _ _=>exact hc.elim
 |order _=>exact hc.elim
 |strengths _ _=>exact hc.elim
 |cuts _=>exact hc.elim
 |agrees _=>exact hc.elim
 |most=>exact hc.elim
 |least=>exact hc.elim
 |rings=>exact hc.elim
 |then_ _=>exact hc.elim
 |ways _=>exact hc.elim
 |counts=>exact hc.elim
 |wrong=>exact hc.elim
theorem base_changes {c:Vbsoaa.Call}(hc:isBase c):Vbsoae.changes c=true:=by
 cases c<;>first|rfl|exact hc.elim
theorem base_state (s:Vbsoae.State){c:Vbsoaa.Call}(w:WT s.table)(hc:isBase c):(Vbsoae.step s (.base c)).2=(Vbsoaa.step s.table c).2/\
  ((WT (Vbsoaa.step s.table c).1/\(Vbsoaa.step s.table c).2.headD 0=0/\(Vbsoae.step s (.base c)).1={table:=(Vbsoaa.step s.table c).1,known:={}})\/∃k:Int,k<0/\(Vbsoaa.step s.table c).2=[k]/\(Vbsoae.step s (.base c)).1=s):=by
 refine⟨rfl,?_⟩
 rcases base_step w hc with ⟨h1,h2,_⟩|⟨k,h1,h2⟩
 ·refine .inl ⟨h1,h2,?_⟩
  show(if Vbsoae.changes c=true/\(Vbsoaa.step s.table c).2.headD 0=0 then _ else _)=_
  rw[if_pos ⟨base_changes hc,h2⟩]
 ·refine .inr ⟨k,h1,by rw[h2],?_⟩
  show(if Vbsoae.changes c=true/\(Vbsoaa.step s.table c).2.headD 0=0 then _ else _)=_
  rw[h2,if_neg]
  rintro⟨_,z⟩
  simp at z;omega
theorem row_len {l:List Nat}(h:Ris l):(row l).length=l.length+1:=by rw[row_ris h];simp[nums]
theorem ws_step {s:Vbsoae.State}(w:WS s){c:Vbsoae.Call}(hc:∀d,c=.base d->isBase d):WS (Vbsoae.step s c).1/\(Vbsoae.step s c).2.length<=100:=by
 have bd:Vbsoae.sizes s.known<=72:=by
  have h1:=sizes_bound w.g
  have h2:(eff s.table).length=s.table.men.length:=by simp[eff,settled]
  have:=w.t.mn
  omega
 cases c with
 |base d=>
  have hd:=hc d rfl
  obtain⟨e,h⟩:=base_state s w.t hd
  refine⟨?_,?_⟩
  ·rcases h with ⟨h1,_,h3⟩|⟨k,_,_,h3⟩
   ·rw[h3];exact⟨h1,good_empty⟩
   ·rw[h3];exact w
  ·rw[e]
   rcases base_step w.t hd with ⟨_,_,h⟩|⟨k,_,h⟩
   ·omega
   ·rw[h];simp
 |forget=>exact⟨⟨w.t,good_empty⟩,by simp[Vbsoae.step]⟩
 |look x p=>
  unfold Vbsoae.step
  simp only
  split
  ·exact⟨w,by simp⟩
  split
  ·exact⟨w,by simp⟩
  ·exact⟨⟨w.t,(good_learn w.nd w.g _ _).1⟩,by simp[Vbsoae.told]⟩
 |pass=>exact⟨⟨w.t,(good_pass w.nd w.g).1⟩,by simp[Vbsoae.step,Vbsoae.told]⟩
 |all_=>exact⟨⟨w.t,(lim_all w.nd w.g).2⟩,by simp[Vbsoae.step,Vbsoae.told]⟩
 |known=>
  refine⟨w,?_⟩
  have r:=w.g.ris
  show(0::_:List Int).length<=100
  simp only[List.length_cons,List.length_append,row_len r.goes,row_len r.stuck,row_len r.way,row_len r.noway,row_len r.cut,row_len r.uncut]
  unfold Vbsoae.sizes at bd
  omega
 |bounds p=>
  unfold Vbsoae.step
  simp only
  split
  ·exact⟨w,by simp⟩
  split
  ·exact⟨w,by simp⟩
  split
  ·exact⟨w,by simp[nums]⟩
  ·exact⟨w,by simp[nums]⟩
 |unknown=>
  refine⟨w,?_⟩
  show(0::row (Vbsoae.unknown (eff s.table) s.known)).length<=100
  have hu:Ris (Vbsoae.unknown (eff s.table) s.known):=ris_sorted _
  rw[List.length_cons,row_len hu]
  have h1:(Vbsoae.unknown (eff s.table) s.known).length<=((eff s.table).map (·.prov)).length:=by
   refine ris_le (ris_nodup hu) λx hx=>?_
   unfold Vbsoae.unknown at hx
   obtain⟨m,hm,e⟩:=List.mem_map.mp (mem_sorted.mp hx)
   exact List.mem_map.mpr ⟨m,(List.mem_filter.mp (List.mem_filter.mp hm).1).1,e⟩
  have h2:(eff s.table).length=s.table.men.length:=by simp[eff,settled]
  rw[List.length_map]at h1
  have:=w.t.mn
  omega
 |support p=>
  unfold Vbsoae.step
  simp only
  split
  ·exact⟨w,by simp⟩
  split
  ·exact⟨w,by simp⟩
  ·exact⟨w,by simp⟩
 |count=>exact⟨w,by simp[Vbsoae.step]⟩
end
end Kn
namespace Lk
open Vbsoaa Kn
def lo (i j:Int):Int:=if j<i then j else i
def hi (i j:Int):Int:=if j>i then j else i
theorem lohi {a b c d:Int}:(lo a b=lo c d/\hi a b=hi c d)<->((a=c/\b=d)\/(a=d/\b=c)):=by
 unfold lo hi
 constructor
 ·intro h
  split at h<;>split at h<;>split at h<;>split at h<;>omega
 ·rintro(⟨rfl,rfl⟩|⟨rfl,rfl⟩)
  ·exact⟨rfl,rfl⟩
  ·constructor<;>(split<;>split<;>omega)
end Lk
namespace Vw
open Vbsoaa Kn
open Vbsoae (Known sureWay mayWay sureLeft mayLeft sureCut mayCut low high aids keeps foreign attackLow attackHigh preventLow preventHigh holdLow holdHigh wallLow wallHigh rivals sureGoes mayGo sureOut mayOut sureChain mayChain learn sizes)
inductive Ok where
 |hold
 |mv (p:Nat)
 |bw (p:Nat)
 |st (p:Nat)
 |ai (a q:Nat)
 |ca (a q:Nat)
deriving DecidableEq
def kof:Order->Ok
 |.hold=>.hold
 |.move p _ w=>if w=true then .bw p else .mv p
 |.stay p=>.st p
 |.aid p q=>.ai p q
 |.carry p q=>.ca p q
def hav (ms:Men)(k:Ok):List Nat:=(ms.filter λm=>decide (kof m.order=k)).map (·.prov)
def minto (ms:Men)(q:Nat):List Nat:=hav ms (.mv q)++hav ms (.bw q)
section
variable {ms:Men}{k:Known}{m x:Man}{p q:Nat}{b:Board}
theorem goal_iff:goal m=some q<->kof m.order=.mv q\/kof m.order=.bw q:=by
 unfold goal kof
 cases m.order with
 |move a s w=>cases w<;>simp
 |_=>simp
theorem byWater_iff:byWater m=true<->∃q,kof m.order=.bw q:=by
 unfold byWater kof
 cases m.order with
 |move a s w=>cases w<;>simp
 |_=>simp
theorem goal_mv (h:goal m=some q):(kof m.order=.mv q/\byWater m=false)\/(kof m.order=.bw q/\byWater m=true):=by
 unfold goal at h
 unfold byWater kof
 cases e:m.order with
 |move a s w=>rw[e]at h;cases h;cases w<;>simp
 |_=>rw[e]at h;cases h
theorem mem_hav {o:Ok}{x:Nat}:x∈hav ms o<->∃m∈ms,kof m.order=o/\m.prov=x:=by
 unfold hav
 simp[and_assoc]
theorem mem_minto {x:Nat}:x∈minto ms q<->∃m∈ms,goal m=some q/\m.prov=x:=by
 unfold minto
 rw[List.mem_append,mem_hav,mem_hav]
 constructor
 ·rintro(⟨m,h1,h2,h3⟩|⟨m,h1,h2,h3⟩)
  ·exact⟨m,h1,goal_iff.mpr (.inl h2),h3⟩
  ·exact⟨m,h1,goal_iff.mpr (.inr h2),h3⟩
 ·rintro⟨m,h1,h2,h3⟩
  rcases goal_iff.mp h2 with e|e
  ·exact .inl ⟨m,h1,e,h3⟩
  ·exact .inr ⟨m,h1,e,h3⟩
theorem mem_into:m∈into ms q<->m∈ms/\goal m=some q:=by
 unfold into
 rw[List.mem_filter,beq_iff_eq]
theorem any_minto {f:Nat->Bool}{g:Man->Bool}(h:∀m∈ms,goal m=some q->f m.prov=g m):(minto ms q).any f=(into ms q).any g:=by
 rw[Bool.eq_iff_iff,List.any_eq_true,List.any_eq_true]
 constructor
 ·rintro⟨x,hx,e⟩
  obtain⟨m,h1,h2,rfl⟩:=mem_minto.mp hx
  exact⟨m,mem_into.mpr ⟨h1,h2⟩,by rw[<-h m h1 h2];exact e⟩
 ·rintro⟨m,hm,e⟩
  obtain⟨h1,h2⟩:=mem_into.mp hm
  exact⟨m.prov,mem_minto.mpr ⟨m,h1,h2,rfl⟩,by rw[h m h1 h2];exact e⟩
theorem manAt_of (nd:PNd ms)(h:m∈ms):manAt ms m.prov=some m:=by
 cases e:manAt ms m.prov with
 |none=>exact absurd rfl (manAt_none.mp e m h)
 |some y=>
  obtain⟨h1,h2⟩:=manAt_mem e
  rw[prov_inj nd h1 h h2]
theorem mem_of (h:manAt ms p=some m):m∈ms:=(manAt_mem h).1
theorem prov_of (h:manAt ms p=some m):m.prov=p:=(manAt_mem h).2
def mvs (ms:Men)(p:Nat):Bool:=(manAt ms p).any λx=>(goal x).isSome
def sl (ms:Men)(k:Known)(p:Nat):Bool:=mvs ms p&&k.goes.contains p
def ml (ms:Men)(k:Known)(p:Nat):Bool:=mvs ms p&& !k.stuck.contains p
def h2h (ms:Men)(p q:Nat):Bool:=(manAt ms p).any (λx=>decide (kof x.order=.mv q))&&(manAt ms q).any (λx=>decide (kof x.order=.mv p))
def sh (ms:Men)(k:Known)(o:Ok):List Nat:=(hav ms o).filter λx=>k.uncut.contains x
def ph (ms:Men)(k:Known)(o:Ok):List Nat:=(hav ms o).filter λx=>!k.cut.contains x
def pwr (ms:Men)(p:Nat):Nat:=((manAt ms p).map (·.power)).getD 0
theorem pwr_of (h:manAt ms p=some m):pwr ms p=m.power:=by unfold pwr;rw[h];rfl
def atk (ms:Men)(p q:Nat)(hw left:Bool)(hs:List Nat):Nat:=
 if hw=false then 0
 else if((manAt ms q).isNone||(left&& !h2h ms p q))=true then 1+hs.length
 else if pwr ms p=pwr ms q then 0
 else 1+(hs.filter λh=>!decide (pwr ms h=pwr ms q)).length
theorem h2h_some (hm:manAt ms p=some m)(hg:goal m=some q)(hx:manAt ms q=some x):h2h ms p q=headOn m x:=by
 unfold h2h headOn
 have e1:=prov_of hm
 have e2:=prov_of hx
 rw[hm,hx,hg,e1,e2]
 simp only[Option.any_some,beq_self_eq_true,Bool.true_and]
 rw[Bool.eq_iff_iff]
 simp only[Bool.and_eq_true,decide_eq_true_eq,beq_iff_eq,Bool.not_eq_true']
 constructor
 ·rintro⟨a,c⟩
  refine⟨goal_iff.mpr (.inl c),?_,?_⟩
  ·rcases goal_mv hg with z|z
   ·exact z.2
   ·rw[a]at z;cases z.1
  ·rcases goal_mv (goal_iff.mpr (.inl c))with z|z
   ·exact z.2
   ·rw[c]at z;cases z.1
 ·rintro⟨a,c,d⟩
  refine⟨?_,?_⟩
  ·rcases goal_mv hg with z|z
   ·exact z.1
   ·rw[c]at z;cases z.2
  ·rcases goal_mv a with z|z
   ·exact z.1
   ·rw[d]at z;cases z.2
theorem h2h_none (hx:manAt ms q=none):h2h ms p q=false:=by
 unfold h2h
 rw[hx];simp
theorem len_hav (o:Ok)(f:Nat->Bool):((hav ms o).filter f).length=((ms.filter λm=>decide (kof m.order=o)).filter λm=>f m.prov).length:=by
 unfold hav
 rw[List.filter_map,List.length_map]
 rfl
theorem aids_eq (hp:m.prov=p):aids ms m q=ms.filter λx=>decide (kof x.order=.ai p q):=by
 unfold aids
 refine List.filter_congr λx _=>?_
 unfold isAid kof
 cases x.order with
 |move a s w=>cases w<;>simp
 |aid a c=>rw[hp,Bool.eq_iff_iff];simp
 |_=>simp
theorem keeps_eq (hp:m.prov=p):keeps ms m=ms.filter λx=>decide (kof x.order=.st p):=by
 unfold keeps
 refine List.filter_congr λx _=>?_
 unfold isStay kof
 cases x.order with
 |move a s w=>cases w<;>simp
 |stay a=>rw[hp,Bool.eq_iff_iff];simp
 |_=>simp
theorem low_aids (hp:m.prov=p):low k (aids ms m q)=(sh ms k (.ai p q)).length:=by
 unfold low sh;rw[len_hav,aids_eq hp]
theorem high_aids (hp:m.prov=p):high k (aids ms m q)=(ph ms k (.ai p q)).length:=by
 unfold high ph;rw[len_hav,aids_eq hp]
theorem low_keeps (hp:m.prov=p):low k (keeps ms m)=(sh ms k (.st p)).length:=by
 unfold low sh;rw[len_hav,keeps_eq hp]
theorem high_keeps (hp:m.prov=p):high k (keeps ms m)=(ph ms k (.st p)).length:=by
 unfold high ph;rw[len_hav,keeps_eq hp]
theorem low_foreign' (nd:PNd ms)(hp:m.prov=p)(hx:manAt ms q=some x):low k (foreign (aids ms m q) x.power)=((sh ms k (.ai p q)).filter λh=>!decide (pwr ms h=pwr ms q)).length:=by
 unfold low foreign sh
 rw[List.filter_filter,List.filter_filter,len_hav,aids_eq hp,List.filter_filter,List.filter_filter]
 congr 1
 refine List.filter_congr λy hy=>?_
 rw[pwr_of (manAt_of nd hy),pwr_of hx]
 generalize decide (kof y.order=Ok.ai p q)=z
 generalize List.contains _ y.prov=u
 show(u&&(!(y.power==x.power))&&z)=_
 rw[Bool.beq_eq_decide_eq]
 cases z<;>cases u<;>simp
theorem high_foreign' (nd:PNd ms)(hp:m.prov=p)(hx:manAt ms q=some x):high k (foreign (aids ms m q) x.power)=((ph ms k (.ai p q)).filter λh=>!decide (pwr ms h=pwr ms q)).length:=by
 unfold high foreign ph
 rw[List.filter_filter,List.filter_filter,len_hav,aids_eq hp,List.filter_filter,List.filter_filter]
 congr 1
 refine List.filter_congr λy hy=>?_
 rw[pwr_of (manAt_of nd hy),pwr_of hx]
 generalize decide (kof y.order=Ok.ai p q)=z
 generalize List.contains _ y.prov=u
 show(!u&&(!(y.power==x.power))&&z)=_
 rw[Bool.beq_eq_decide_eq]
 cases z<;>cases u<;>simp
theorem sl_some (hx:manAt ms q=some x):sl ms k q=sureLeft k x:=by
 unfold sl mvs sureLeft;rw[hx,prov_of hx];rfl
theorem ml_some (hx:manAt ms q=some x):ml ms k q=mayLeft k x:=by
 unfold ml mvs mayLeft;rw[hx,prov_of hx];rfl
theorem atk_low (nd:PNd ms)(hm:manAt ms p=some m)(hg:goal m=some q):atk ms p q (sureWay k m) (sl ms k q) (sh ms k (.ai p q))=attackLow ms k m q:=by
 unfold atk attackLow
 have hp:=prov_of hm
 by_cases h0:sureWay k m=false
 ·rw[if_pos h0,if_pos h0]
 rw[if_neg h0,if_neg h0]
 cases hx:manAt ms q with
 |none=>simp only[Option.isNone_none,Bool.true_or,if_true];rw[low_aids hp]
 |some x=>
  simp only[Option.isNone_some,Bool.false_or]
  rw[sl_some hx,h2h_some hm hg hx,low_foreign' nd hp hx,low_aids hp]
  have e1:=pwr_of hm
  have e2:=pwr_of hx
  by_cases c:sureLeft k x=true/\headOn m x=false
  ·rw[if_pos c,if_pos (by rw[c.1,c.2];rfl)]
  ·rw[if_neg c,if_neg (λz=>c (by simpa using z))]
   by_cases d:pwr ms p=pwr ms q
   ·rw[if_pos d,if_pos (by omega)]
   ·rw[if_neg d,if_neg (by omega)]
theorem atk_high (nd:PNd ms)(hm:manAt ms p=some m)(hg:goal m=some q):atk ms p q (mayWay k m) (ml ms k q) (ph ms k (.ai p q))=attackHigh ms k m q:=by
 unfold atk attackHigh
 have hp:=prov_of hm
 by_cases h0:mayWay k m=false
 ·rw[if_pos h0,if_pos h0]
 rw[if_neg h0,if_neg h0]
 cases hx:manAt ms q with
 |none=>simp only[Option.isNone_none,Bool.true_or,if_true];rw[high_aids hp]
 |some x=>
  simp only[Option.isNone_some,Bool.false_or]
  rw[ml_some hx,h2h_some hm hg hx,high_foreign' nd hp hx,high_aids hp]
  have e1:=pwr_of hm
  have e2:=pwr_of hx
  by_cases c:mayLeft k x=true/\headOn m x=false
  ·rw[if_pos c,if_pos (by rw[c.1,c.2];rfl)]
  ·rw[if_neg c,if_neg (λz=>c (by simpa using z))]
   by_cases d:pwr ms p=pwr ms q
   ·rw[if_pos d,if_pos (by omega)]
   ·rw[if_neg d,if_neg (by omega)]
def kpl (ms:Men)(k:Known)(p q:Nat)(hw:Bool):Nat:=if hw=false then 0 else if(h2h ms p q&& !k.stuck.contains q)=true then 0 else 1+(sh ms k (.ai p q)).length
def kph (ms:Men)(k:Known)(p q:Nat)(hw:Bool):Nat:=if hw=false then 0 else if(h2h ms p q&&k.goes.contains q)=true then 0 else 1+(ph ms k (.ai p q)).length
theorem kpl_eq (hm:manAt ms p=some m)(hg:goal m=some q):kpl ms k p q (sureWay k m)=preventLow ms k m q:=by
 unfold kpl preventLow
 have hp:=prov_of hm
 by_cases h0:sureWay k m=false
 ·rw[if_pos h0,if_pos h0]
 rw[if_neg h0,if_neg h0]
 cases hx:manAt ms q with
 |none=>rw[h2h_none hx,<-low_aids hp];rfl
 |some x=>
  simp only[]
  rw[h2h_some hm hg hx,<-low_aids hp,prov_of hx]
  by_cases c:headOn m x=true/\k.stuck.contains q=false
  ·rw[if_pos c,if_pos (by rw[c.1,c.2];rfl)]
  ·rw[if_neg c,if_neg (λz=>c (by simpa using z))]
theorem kph_eq (hm:manAt ms p=some m)(hg:goal m=some q):kph ms k p q (mayWay k m)=preventHigh ms k m q:=by
 unfold kph preventHigh
 have hp:=prov_of hm
 by_cases h0:mayWay k m=false
 ·rw[if_pos h0,if_pos h0]
 rw[if_neg h0,if_neg h0]
 cases hx:manAt ms q with
 |none=>rw[h2h_none hx,<-high_aids hp];rfl
 |some x=>
  simp only[]
  rw[h2h_some hm hg hx,<-high_aids hp,prov_of hx]
  by_cases c:headOn m x=true/\k.goes.contains q=true
  ·rw[if_pos c,if_pos (by rw[c.1,c.2];rfl)]
  ·rw[if_neg c,if_neg (λz=>c (by simpa using z))]
def hdl (ms:Men)(k:Known)(p:Nat):Nat:=if(manAt ms p).isSome=false then 0 else if mvs ms p=true then(if k.stuck.contains p=true then 1 else 0)else 1+(sh ms k (.st p)).length
def hdh (ms:Men)(k:Known)(p:Nat):Nat:=if(manAt ms p).isSome=false then 0 else if mvs ms p=true then(if k.goes.contains p=true then 0 else 1)else 1+(ph ms k (.st p)).length
theorem hdl_eq:hdl ms k p=holdLow ms k p:=by
 unfold hdl holdLow mvs
 cases hx:manAt ms p with
 |none=>rfl
 |some x=>
  simp only[Option.isSome_some,Option.any_some,Bool.true_eq_false,if_false]
  rw[prov_of hx,low_keeps (prov_of hx)]
theorem hdh_eq:hdh ms k p=holdHigh ms k p:=by
 unfold hdh holdHigh mvs
 cases hx:manAt ms p with
 |none=>rfl
 |some x=>
  simp only[Option.isSome_some,Option.any_some,Bool.true_eq_false,if_false]
  rw[prov_of hx,high_keeps (prov_of hx)]
def wll (ms:Men)(k:Known)(p q:Nat):Nat:=if h2h ms p q=true then 1+(sh ms k (.ai q p)).length else holdLow ms k q
def wlh (ms:Men)(k:Known)(p q:Nat):Nat:=if h2h ms p q=true then 1+(ph ms k (.ai q p)).length else holdHigh ms k q
theorem wll_eq (hm:manAt ms p=some m)(hg:goal m=some q):wll ms k p q=wallLow ms k m q:=by
 unfold wll wallLow
 cases hx:manAt ms q with
 |none=>rw[h2h_none hx];rfl
 |some x=>
  simp only[]
  rw[h2h_some hm hg hx,low_aids (prov_of hx),prov_of hm]
theorem wlh_eq (hm:manAt ms p=some m)(hg:goal m=some q):wlh ms k p q=wallHigh ms k m q:=by
 unfold wlh wallHigh
 cases hx:manAt ms q with
 |none=>rw[h2h_none hx];rfl
 |some x=>
  simp only[]
  rw[h2h_some hm hg hx,high_aids (prov_of hx),prov_of hm]
theorem h2h_goal (h:h2h ms p q=true):∃x,manAt ms q=some x/\goal x=some p:=by
 unfold h2h at h
 rw[Bool.and_eq_true]at h
 cases hx:manAt ms q with
 |none=>rw[hx]at h;simp at h
 |some x=>
  rw[hx]at h
  exact⟨x,rfl,goal_iff.mpr (.inl (of_decide_eq_true h.2))⟩
def rvs (ms:Men)(p q:Nat):List Nat:=(minto ms q).filter λx=>!decide (x=p)
theorem mem_rvs {x:Nat}:x∈rvs ms p q<->(∃m∈ms,goal m=some q/\m.prov=x)/\x≠p:=by
 unfold rvs
 rw[List.mem_filter,mem_minto];simp
theorem all_rvs (hp:m.prov=p){f:Nat->Bool}{g:Man->Bool}(h:∀m∈ms,goal m=some q->f m.prov=g m):(rvs ms p q).all f=(rivals ms m q).all g:=by
 unfold rivals
 rw[Bool.eq_iff_iff,List.all_eq_true,List.all_eq_true]
 constructor
 ·intro z x hx
  obtain⟨h1,h2⟩:=List.mem_filter.mp hx
  obtain⟨h3,h4⟩:=mem_into.mp h1
  rw[<-h x h3 h4]
  exact z _ (mem_rvs.mpr ⟨⟨x,h3,h4,rfl⟩,by rw[<-hp];simpa using h2⟩)
 ·intro z x hx
  obtain⟨⟨y,h1,h2,rfl⟩,h3⟩:=mem_rvs.mp hx
  rw[h y h1 h2]
  exact z y (List.mem_filter.mpr ⟨mem_into.mpr ⟨h1,h2⟩,by rw[hp];simpa using h3⟩)
theorem sureGoes_eq (nd:PNd ms)(hm:manAt ms p=some m)(hg:goal m=some q){f:Nat->Bool}(hf:∀x∈ms,goal x=some q->f x.prov=decide (preventHigh ms k x q<attackLow ms k m q)):
  (decide (wallHigh ms k m q<attackLow ms k m q)&&(rvs ms p q).all f)=sureGoes ms k m:=by
 unfold sureGoes
 rw[hg,Option.any_some,all_rvs (prov_of hm) hf]
 cases h:sureWay k m with
 |true=>rw[Bool.true_and]
 |false=>
  have e:attackLow ms k m q=0:=by unfold attackLow;rw[if_pos h]
  rw[e];simp
theorem mayGo_eq (nd:PNd ms)(hm:manAt ms p=some m)(hg:goal m=some q){f:Nat->Bool}(hf:∀x∈ms,goal x=some q->f x.prov=decide (preventLow ms k x q<attackHigh ms k m q)):
  (decide (wallLow ms k m q<attackHigh ms k m q)&&(rvs ms p q).all f)=mayGo ms k m:=by
 unfold mayGo
 rw[hg,Option.any_some,all_rvs (prov_of hm) hf]
 cases h:mayWay k m with
 |true=>rw[Bool.true_and]
 |false=>
  have e:attackHigh ms k m q=0:=by unfold attackHigh;rw[if_pos h]
  rw[e];simp
def opm (ms:Men)(p:Nat):List Nat:=(minto ms p).filter λx=>!decide (pwr ms x=pwr ms p)
def agn (ms:Men)(p x:Nat):Bool:=(manAt ms p).any λm=>against m==some x
theorem agn_eq (hm:manAt ms p=some m){x:Nat}:agn ms p x=(against m==some x):=by
 unfold agn
 rw[hm,Option.any_some]
theorem against_ai {a c:Nat}(h:kof m.order=.ai a c):against m=some c:=by
 unfold kof at h
 unfold against
 cases e:m.order with
 |move a s w=>rw[e]at h;cases w<;>cases h
 |aid a c=>rw[e]at h;cases h;rfl
 |_=>rw[e]at h;cases h
theorem against_no (h:∀a c,kof m.order≠ .ai a c):against m=none:=by
 unfold against
 cases e:m.order with
 |aid a c=>exact absurd (by rw[e];rfl) (h a c)
 |_=>rfl
theorem any_opm (nd:PNd ms)(hm:manAt ms p=some m){f:Nat->Bool}{g:Man->Bool}(h:∀x∈ms,goal x=some p->f x.prov=g x):(opm ms p).any f=(into ms m.prov).any λx=>x.power !=m.power&&g x:=by
 unfold opm
 rw[List.any_filter,prov_of hm]
 refine any_minto λx hx hg=>?_
 rw[h x hx hg,pwr_of (manAt_of nd hx),pwr_of hm]
 rfl
def scs (ms:Men)(k:Known)(p:Nat)(x:Man):Bool:=sureWay k x&&(!agn ms p x.prov||k.goes.contains x.prov)
def mcs (ms:Men)(k:Known)(p:Nat)(x:Man):Bool:=mayWay k x&&(!agn ms p x.prov|| !k.stuck.contains x.prov)
theorem sureCut_eq (nd:PNd ms)(hm:manAt ms p=some m){f:Nat->Bool}(h:∀x∈ms,goal x=some p->f x.prov=scs ms k p x):(opm ms p).any f=sureCut ms k m:=by
 rw[any_opm nd hm h]
 unfold sureCut scs
 congr 1
 funext x
 rw[agn_eq hm]
 rfl
theorem mayCut_eq (nd:PNd ms)(hm:manAt ms p=some m){f:Nat->Bool}(h:∀x∈ms,goal x=some p->f x.prov=mcs ms k p x):(opm ms p).any f=mayCut ms k m:=by
 rw[any_opm nd hm h]
 unfold mayCut mcs
 congr 1
 funext x
 rw[agn_eq hm]
 rfl
end
inductive Rn (fl:List Nat)(T:Nat->Bool)(J:Nat->Nat->Bool):Nat->Prop
 |start {x:Nat}:x∈fl->T x=true->Rn fl T J x
 |step {x y:Nat}:Rn fl T J y->x∈fl->J y x=true->Rn fl T J x
structure Bf (fl:List Nat)(T U:Nat->Bool)(J:Nat->Nat->Bool)(re rs:List Nat)(n:Nat):Prop where
 perm:(re++rs).Perm fl
 snd:∀x∈re,Rn fl T J x
 all:∀x∈fl,T x=true->x∈re
 cl:∀i,i<n->∀x,re[i]?=some x->∀y∈fl,J x y=true->y∈re
 no:∀i,i<n->∀x,re[i]?=some x->U x=false
 le:n<=re.length
section
variable {fl:List Nat}{T U:Nat->Bool}{J:Nat->Nat->Bool}{re rs:List Nat}{n:Nat}
theorem notin_filter (f:Nat->Bool)(l:List Nat):(l.filter λx=>!(l.filter f).contains x)=l.filter λx=>!f x:=by
 refine List.filter_congr λx hx=>?_
 congr 1
 rw[Bool.eq_iff_iff,List.contains_iff_mem,List.mem_filter]
 simp[hx]
theorem Bf.start:Bf fl T U J (fl.filter T) (fl.filter λx=>!(fl.filter T).contains x) 0:=by
 rw[notin_filter]
 refine⟨List.filter_append_perm T fl,λx hx=>?_,λx hx h=>List.mem_filter.mpr ⟨hx,h⟩,λi h=>absurd h (Nat.not_lt_zero _),λi h=>absurd h (Nat.not_lt_zero _),Nat.zero_le _⟩
 obtain⟨h1,h2⟩:=List.mem_filter.mp hx
 exact .start h1 h2
theorem Bf.step {x:Nat}(B:Bf fl T U J re rs n)(hx:re[n]?=some x)(hu:U x=false):Bf fl T U J (re++rs.filter (J x)) (rs.filter λy=>!(rs.filter (J x)).contains y) (n+1):=by
 rw[notin_filter]
 have hxm:x∈re:=List.mem_of_getElem? hx
 have hlt:n<re.length:=(List.getElem?_eq_some_iff.mp hx).1
 have hmem:∀y,y∈fl->y∈re\/y∈rs:=λy hy=>List.mem_append.mp (B.perm.mem_iff.mpr hy)
 have old:∀i,i<n->∀z,(re++rs.filter (J x))[i]?=some z->re[i]?=some z:=λi hi z e=>by
  rw[List.getElem?_append_left (by omega)]at e;exact e
 refine⟨?_,λy hy=>?_,λy hy h=>List.mem_append_left _ (B.all y hy h),λi hi z e y hy hj=>?_,λi hi z e=>?_,by rw[List.length_append];omega⟩
 ·rw[List.append_assoc]
  exact(List.Perm.append_left re (List.filter_append_perm (J x) rs)).trans B.perm
 ·rcases List.mem_append.mp hy with h|h
  ·exact B.snd y h
  ·obtain⟨h1,h2⟩:=List.mem_filter.mp h
   exact .step (B.snd x hxm) (B.perm.mem_iff.mp (List.mem_append_right _ h1)) h2
 ·by_cases h:i<n
  ·exact List.mem_append_left _ (B.cl i h z (old i h z e) y hy hj)
  ·have:i=n:=by omega
   subst this
   rw[List.getElem?_append_left hlt,hx]at e
   cases e
   rcases hmem y hy with q|q
   ·exact List.mem_append_left _ q
   ·exact List.mem_append_right _ (List.mem_filter.mpr ⟨q,hj⟩)
 ·by_cases h:i<n
  ·exact B.no i h z (old i h z e)
  ·have:i=n:=by omega
   subst this
   rw[List.getElem?_append_left hlt,hx]at e
   cases e
   exact hu
theorem Bf.found {x:Nat}(B:Bf fl T U J re rs n)(hx:re[n]?=some x)(hu:U x=true):∃x,Rn fl T J x/\U x=true:=⟨x,B.snd x (List.mem_of_getElem? hx),hu⟩
theorem Bf.fin (B:Bf fl T U J re rs n)(h:re.length<=n):¬∃x,Rn fl T J x/\U x=true:=by
 have hn:n=re.length:=Nat.le_antisymm B.le h
 subst hn
 have z:∀x,Rn fl T J x->x∈re:=λx r=>by
  induction r with
  |start h1 h2=>exact B.all _ h1 h2
  |step _ h1 h2 ih=>
   obtain⟨i,hi,e⟩:=List.getElem_of_mem ih
   exact B.cl i hi _ (by rw[List.getElem?_eq_getElem hi,e]) _ h1 h2
 rintro⟨x,hr,hu⟩
 obtain⟨i,hi,e⟩:=List.getElem_of_mem (z x hr)
 rw[B.no i hi x (by rw[List.getElem?_eq_getElem hi,e])]at hu
 cases hu
theorem Bf.small (B:Bf fl T U J re rs n):re.length<=fl.length:=by
 have:=B.perm.length_eq
 rw[List.length_append]at this
 omega
end
section
variable {ms:Men}{k:Known}{m x:Man}{p q:Nat}{b:Board}
def tch (b:Board)(ms:Men)(f q:Nat):Bool:=(manAt ms f).any λx=>beside b x q
def jnd (b:Board)(ms:Men)(f g:Nat):Bool:=(manAt ms f).any λx=>(manAt ms g).any λy=>meets b x y
theorem meets_comm (b:Board)(x y:Man):meets b x y=meets b y x:=linked_comm _ _ _
theorem chain_rn (nd:PNd ms){out fl:List Nat}(hf:fl=(carriers ms out p q).map (·.prov)):chain b ms out p q=true<->∃x,Rn fl (λf=>tch b ms f p) (λf g=>jnd b ms f g) x/\tch b ms x q=true:=by
 subst hf
 rw[chain_iff nd]
 have sub:∀x∈carriers ms out p q,x∈ms:=λx hx=>(List.mem_filter.mp hx).1
 have at_:∀x∈carriers ms out p q,manAt ms x.prov=some x:=λx hx=>manAt_of nd (sub x hx)
 have fw:∀x,Reach b (carriers ms out p q) (λx=>beside b x p) x->x∈carriers ms out p q/\Rn ((carriers ms out p q).map (·.prov)) (λf=>tch b ms f p) (λf g=>jnd b ms f g) x.prov:=λx r=>by
  induction r with
  |start h1 h2=>exact⟨h1,.start (List.mem_map.mpr ⟨_,h1,rfl⟩) (by unfold tch;rw[at_ _ h1];exact h2)⟩
  |step _ h1 h2 ih=>
   obtain⟨h3,h4⟩:=ih
   refine⟨h1,.step h4 (List.mem_map.mpr ⟨_,h1,rfl⟩) ?_⟩
   unfold jnd
   rw[at_ _ h1,at_ _ h3,Option.any_some,Option.any_some,meets_comm]
   exact h2
 have bw:∀f,Rn ((carriers ms out p q).map (·.prov)) (λf=>tch b ms f p) (λf g=>jnd b ms f g) f->∃x∈carriers ms out p q,x.prov=f/\Reach b (carriers ms out p q) (λx=>beside b x p) x:=λf r=>by
  induction r with
  |start h1 h2=>
   obtain⟨x,hx,rfl⟩:=List.mem_map.mp h1
   unfold tch at h2
   rw[at_ x hx]at h2
   exact⟨x,hx,rfl,.start hx h2⟩
  |step _ h1 h2 ih=>
   obtain⟨x,hx,rfl⟩:=List.mem_map.mp h1
   obtain⟨y,hy,e,r⟩:=ih
   subst e
   unfold jnd at h2
   rw[at_ x hx,at_ y hy,Option.any_some,Option.any_some,meets_comm]at h2
   exact⟨x,hx,rfl,.step r hx h2⟩
 constructor
 ·rintro⟨x,r,e⟩
  obtain⟨h1,h2⟩:=fw x r
  exact⟨x.prov,h2,by unfold tch;rw[at_ x h1];exact e⟩
 ·rintro⟨f,r,e⟩
  obtain⟨x,hx,rfl,r'⟩:=bw f r
  unfold tch at e
  rw[at_ x hx]at e
  exact⟨x,r',e⟩
def sdo (ms:Men)(k:Known)(f:Nat):Bool:=(minto ms f).any λx=>k.goes.contains x
def mdo (ms:Men)(k:Known)(f:Nat):Bool:=(minto ms f).any λx=>!k.stuck.contains x
theorem car_key {o:Order}:isCarry p q o=decide (kof o=.ca p q):=by
 unfold isCarry kof
 cases o with
 |move a s w=>cases w<;>simp
 |carry a c=>rw[Bool.eq_iff_iff];simp
 |_=>simp
theorem ca_goal (h:kof m.order=.ca p q):goal m=none:=by
 unfold kof at h
 unfold goal
 cases e:m.order with
 |move a s w=>rw[e]at h;cases w<;>cases h
 |_=>rfl
theorem car_sure (nd:PNd ms):(carriers ms (sureOut ms k) p q).map (·.prov)=(hav ms (.ca p q)).filter λf=>!sdo ms k f:=by
 unfold hav carriers
 rw[List.filter_map,List.filter_filter]
 congr 1
 refine List.filter_congr λx hx=>?_
 rw[car_key,Bool.and_comm]
 cases e:decide (kof x.order=Ok.ca p q)with
 |false=>simp
 |true=>
  rw[Bool.and_true,Bool.and_true]
  show _= !sdo ms k x.prov
  congr 1
  have hg:=ca_goal (of_decide_eq_true e)
  unfold sdo sureOut
  rw[any_minto (g:=λy=>k.goes.contains y.prov) (λ_ _ _=>rfl),Bool.eq_iff_iff,List.contains_iff_mem]
  constructor
  ·intro h
   obtain⟨y,hy,e⟩:=List.mem_map.mp h
   obtain⟨h1,h2⟩:=List.mem_filter.mp hy
   have:=prov_inj nd h1 hx e
   subst this
   exact(Bool.and_eq_true _ _▸h2).2
  ·intro h
   refine List.mem_map.mpr ⟨x,List.mem_filter.mpr ⟨hx,?_⟩,rfl⟩
   unfold mayLeft
   rw[hg,h];rfl
theorem car_may (nd:PNd ms):(carriers ms (mayOut ms k) p q).map (·.prov)=(hav ms (.ca p q)).filter λf=>!mdo ms k f:=by
 unfold hav carriers
 rw[List.filter_map,List.filter_filter]
 congr 1
 refine List.filter_congr λx hx=>?_
 rw[car_key,Bool.and_comm]
 cases e:decide (kof x.order=Ok.ca p q)with
 |false=>simp
 |true=>
  rw[Bool.and_true,Bool.and_true]
  show _= !mdo ms k x.prov
  congr 1
  have hg:=ca_goal (of_decide_eq_true e)
  unfold mdo mayOut
  rw[any_minto (g:=λy=>!k.stuck.contains y.prov) (λ_ _ _=>rfl),Bool.eq_iff_iff,List.contains_iff_mem]
  constructor
  ·intro h
   obtain⟨y,hy,e⟩:=List.mem_map.mp h
   obtain⟨h1,h2⟩:=List.mem_filter.mp hy
   have:=prov_inj nd h1 hx e
   subst this
   exact(Bool.and_eq_true _ _▸h2).2
  ·intro h
   refine List.mem_map.mpr ⟨x,List.mem_filter.mpr ⟨hx,?_⟩,rfl⟩
   unfold sureLeft
   rw[hg,h];rfl
theorem sureChain_some (hg:goal m=some q)(hp:m.prov=p):sureChain b ms k m=chain b ms (mayOut ms k) p q:=by
 unfold sureChain;rw[hg,hp];rfl
theorem mayChain_some (hg:goal m=some q)(hp:m.prov=p):mayChain b ms k m=chain b ms (sureOut ms k) p q:=by
 unfold mayChain;rw[hg,hp];rfl
structure Kl (L s:List Nat):Prop where
 nd:L.Nodup
 mem:∀x,x∈L<->x∈s
 ris:Ris s
theorem Kl.len {L s:List Nat}(h:Kl L s):L.length=s.length:=Nat.le_antisymm (ris_le h.nd λx hx=>(h.mem x).mp hx) (ris_le (ris_nodup h.ris) λx hx=>(h.mem x).mpr hx)
theorem Kl.nil:Kl [] []:=⟨List.nodup_nil,λ_=>Iff.rfl,List.Pairwise.nil⟩
theorem Kl.has {L s:List Nat}(h:Kl L s)(p:Nat):L.contains p=s.contains p:=by
 rw[Bool.eq_iff_iff,List.contains_iff_mem,List.contains_iff_mem];exact h.mem p
theorem Kl.put {L s:List Nat}(h:Kl L s)(p:Nat):Kl (if L.contains p=true then L else L++[p]) (putIn p s):=by
 by_cases c:L.contains p=true
 ·rw[if_pos c]
  have hp:p∈s:=(h.mem p).mp (List.contains_iff_mem.mp c)
  rw[putIn_mem h.ris hp];exact h
 ·rw[if_neg c]
  have hp:p∉L:=λz=>c (List.contains_iff_mem.mpr z)
  refine⟨List.nodup_append.mpr ⟨h.nd,by simp,λa ha d hd e=>hp (by rw[List.mem_singleton.mp hd]at e;exact e▸ha)⟩,λx=>?_,ris_putIn h.ris⟩
  rw[List.mem_append,mem_putIn,List.mem_singleton,h.mem x,or_comm]
theorem Kl.sorted {L s L':List Nat}(h:Kl L s)(hp:L'.Perm L)(hs:L'.Pairwise (·<=·)):L'=s:=by
 have nd:L'.Nodup:=hp.nodup_iff.mpr h.nd
 refine ris_ext ?_ h.ris λx=>(hp.mem_iff).trans (h.mem x)
 refine(hs.and nd).imp λ⟨a,c⟩=>?_
 exact Nat.lt_of_le_of_ne a c
theorem manAt_eff (t:Table)(p:Nat):manAt (eff t) p=(manAt t.men p).map λm=>{m with order:=counts t.board m}:=by
 unfold manAt eff settled
 rw[List.find?_map]
 rfl
def rch (b:Board)(m:Man)(q:Nat):Bool:=if m.fleet=true then [0,1,2,3].any λt=>linked b.sea (place m.prov m.shore) (place q t)else linked b.land m.prov q
def cnt (b:Board)(m:Man):Ok:=match m.order with
 |.hold=>.hold
 |.move g t w=>
  if m.fleet=true then(if w=false/\linked b.sea (place m.prov m.shore) (place g t)=true then .mv g else .hold)
  else if g=m.prov then .hold
  else if w=false/\rch b m g=true then .mv g
  else if kind b m.prov=2/\kind b g=2 then .bw g
  else .hold
 |.stay g=>if rch b m g=true then .st g else .hold
 |.aid a g=>if a≠g/\a≠m.prov/\rch b m g=true then .ai a g else .hold
 |.carry a g=>if m.fleet=true/\kind b m.prov=1/\a≠g then .ca a g else .hold
theorem sea_ne {t:Table}(w:WT t)(sh:m.shore<=3){s:Nat}(hs:s<=3)(h:linked t.board.sea (place m.prov m.shore) (place q s)=true):q≠m.prov:=by
 obtain⟨e,he,z⟩:=linked_iff.mp h
 have:=(w.se e he).ne
 unfold place at z
 rcases z with rfl|rfl
 ·simp only at this;omega
 ·simp only at this;omega
theorem land_ne {t:Table}(w:WT t)(h:linked t.board.land m.prov q=true):q≠m.prov/\kind t.board q≠1:=by
 obtain⟨e,he,z⟩:=linked_iff.mp h
 have:=w.le e he
 rcases z with rfl|rfl
 ·exact⟨λe=>this.ne e.symm,this.k2⟩
 ·exact⟨this.ne,this.k1⟩
theorem rch_eq {t:Table}(w:WT t)(hm:m∈t.men):rch t.board m q=reaches t.board m q:=by
 unfold rch reaches
 split
 ·rfl
 ·rw[Bool.eq_iff_iff,Bool.and_eq_true]
  constructor
  ·intro h;exact⟨by simpa using (land_ne w h).2,h⟩
  ·intro h;exact h.2
theorem rch_ne {t:Table}(w:WT t)(hm:m∈t.men)(h:rch t.board m q=true):q≠m.prov:=by
 unfold rch at h
 split at h
 ·obtain⟨s,hs,e⟩:=List.any_eq_true.mp h
  refine sea_ne w (w.me m hm).sh (s:=s) ?_ e
  simp at hs;omega
 ·exact(land_ne w h).1
theorem cnt_eq {t:Table}(w:WT t)(hm:m∈t.men):kof (counts t.board m)=cnt t.board m:=by
 have ok:=w.me m hm
 have od:=ok.od
 unfold counts cnt
 cases e:m.order with
 |hold=>rfl
 |move g s wt=>
  rw[e]at od
  simp only[]
  by_cases f:m.fleet=true
  ·rw[if_pos f,if_pos f]
   by_cases c:wt=false/\linked t.board.sea (place m.prov m.shore) (place g s)=true
   ·rw[if_pos c,if_pos ⟨c.1,c.2,sea_ne w ok.sh od.2 c.2⟩];rfl
   ·rw[if_neg c,if_neg (λz=>c ⟨z.1,z.2.1⟩)];rfl
  ·rw[if_neg f,if_neg f]
   by_cases g0:g=m.prov
   ·rw[if_pos g0,if_neg (λz=>z.2.2 g0),if_neg (λz=>z.2.2 g0)];rfl
   ·rw[if_neg g0,rch_eq w hm]
    by_cases c:wt=false/\reaches t.board m g=true
    ·rw[if_pos c,if_pos ⟨c.1,c.2,g0⟩];rfl
    ·rw[if_neg c,if_neg (λz=>c ⟨z.1,z.2.1⟩)]
     by_cases d:kind t.board m.prov=2/\kind t.board g=2
     ·rw[if_pos d,if_pos ⟨d.1,d.2,g0⟩];rfl
     ·rw[if_neg d,if_neg (λz=>d ⟨z.1,z.2.1⟩)];rfl
 |stay g=>
  simp only[]
  by_cases c:rch t.board m g=true
  ·rw[if_pos c,if_pos ⟨rch_ne w hm c,(rch_eq w hm)▸c⟩];rfl
  ·rw[if_neg c,if_neg (λz=>c ((rch_eq w hm).symm▸z.2))];rfl
 |aid a g=>
  simp only[]
  by_cases c:a≠g/\a≠m.prov/\rch t.board m g=true
  ·rw[if_pos c,if_pos ⟨c.2.1,rch_ne w hm c.2.2,c.1,(rch_eq w hm)▸c.2.2⟩];rfl
  ·rw[if_neg c,if_neg (λz=>c ⟨z.2.2.1,z.1,(rch_eq w hm).symm▸z.2.2.2⟩)];rfl
 |carry a g=>
  simp only[]
  by_cases c:m.fleet=true/\kind t.board m.prov=1/\a≠g
  ·rw[if_pos c,if_pos c];rfl
  ·rw[if_neg c,if_neg c];rfl
theorem unknown_eq (nd:PNd ms){L:List Nat}(hL:L.Perm (ms.map (·.prov)))(hs:L.Pairwise (·<=·)):((L.filter λp=>mvs ms p).filter λp=>!k.goes.contains p&& !k.stuck.contains p)=Vbsoae.unknown ms k:=by
 have ndL:L.Nodup:=hL.nodup_iff.mpr nd
 have rL:Ris L:=(hs.and ndL).imp λ⟨a,c⟩=>Nat.lt_of_le_of_ne a c
 unfold Vbsoae.unknown
 refine ris_ext (List.Pairwise.sublist (List.filter_sublist.trans List.filter_sublist) rL) (ris_sorted _) λx=>?_
 rw[mem_sorted,List.mem_filter,List.mem_filter,hL.mem_iff,List.mem_map,List.mem_map]
 constructor
 ·rintro⟨⟨⟨m,hm,rfl⟩,h2⟩,h3⟩
  refine⟨m,List.mem_filter.mpr ⟨List.mem_filter.mpr ⟨hm,?_⟩,h3⟩,rfl⟩
  unfold mvs at h2
  rw[manAt_of nd hm]at h2
  exact h2
 ·rintro⟨m,hm,rfl⟩
  obtain⟨h1,h3⟩:=List.mem_filter.mp hm
  obtain⟨h1,h2⟩:=List.mem_filter.mp h1
  refine⟨⟨⟨m,h1,rfl⟩,?_⟩,h3⟩
  unfold mvs
  rw[manAt_of nd h1]
  exact h2
theorem unknown_row:row (Vbsoae.unknown ms k)=((Vbsoae.unknown ms k).length:Int)::nums (Vbsoae.unknown ms k):=row_ris (ris_sorted _)
end
end Vw
namespace DL
open PySem
section
variable {prog:Program}{w:World}{A:Around}{E:Value->Shared->Prop}{s:Shared}
theorem len_any {d:Addr}{o:Obj}{es:Array DictEntry}{ep:Nat}{Q:Value->Shared->Prop}(hd:(d==sysModules)=false)(ho:s.heap.get? d=some o)(hc:o.ExactDict)(hdat:o.data=.dict es ep)(fit:(es.size:Int)<2^63)
  (h:Q (.int es.size (s.toks+1)) {s with toks:=s.toks+1+1}):wpAny (model prog w) A (call (.builtin "len") [.ref d]) Q E s:=by
 have ty:s.TypeIs (.ref d) "dict":=⟨o,ho,hc.1⟩
 have M:MeetsIn prog w (Builtin.«dict.__len__» ⟨[.ref d],[]⟩) (λ_ R s=>s.heap.get? d=some o/\R (.ok (.ret (.int es.size s.toks))) {s with toks:=s.toks+1}):=.of_wp λA R s x=>by
  show wpAny _ A.in1 (dictSize d>>=_) _ _ s;unfold dictSize
  refine wpAny_bind (wpAny_bind (wpAny_dictEntries x.1 hdat (wpAny_pure (show wpAny _ A.in1 (Builtin.Dict.pendingCount d>>=_) _ _ s from ?_))))
  exact wpAny_bind (wpAny_pendingCount_other hd (wpAny_ret_mkInt (by rw[Nat.add_zero];exact x.2)))
 refine Calls.call_function_entry kind_len plain_len entry_len (args_len1 _) ?_
 unfold Builtin.«len»
 refine wpAny_bind (m:=oneArg "len" _) (wpAny_pure (wpAny_bind (m:=callSpecial? (.ref d) (Str.ofString "__len__")) (wpAny_callSpecial?_slot (name:=Str.ofString "__len__") ty F.slot_dict_len (call_meetsIn F.slot_dict_len ty F.entry_dict_len (F.args_dict_len_1 _) M ⟨ho,?_⟩))))
 show wpAny _ A.in1 _ _ _ {s with toks:=s.toks+1}
 refine wpAny_bind (wpAny_holding (wpAny_pure (wpAny_bind (wpAny_letGo ?_))))
 show wpAny _ A.in1 (if((es.size:Nat):Int)<0 then _ else _) _ _ _;rw[if_neg (by omega)]
 show wpAny _ A.in1 (if((es.size:Nat):Int)>=2^63 then _ else _) _ _ _;rw[if_neg (by omega)]
 exact wpAny_bind (wpAny_mkInt (wpAny_pure ⟨_,rfl,h⟩))
end
end DL
namespace NK
open PySem
section
variable {prog:Program}{w:World}{K:Type}[DecidableEq K](knd:KeyKind prog w K)
inductive Refs (h:Heap):List (List K)->List Value->Prop
 |nil:Refs h [] []
 |cons {ks:List K} {c:Addr} {kss:List (List K)} {vs:List Value}:IsTupleKey knd h ks c->Refs h kss vs->Refs h (ks::kss) (.ref c::vs)
def IsNest (h:Heap)(kss:List (List K))(a:Addr):Prop:=∃o items n,h.get? a=some o/\o.cls=.type "tuple"/\o.data=.seq items n/\Refs knd h kss items.toList
variable {knd}
theorem Refs.inj {h:Heap}:∀{x y:List (List K)} {vs:List Value},Refs knd h x vs->Refs knd h y vs->x=y
 |_,_,_,.nil,.nil=>rfl
 |_,_,_,.cons a r,.cons b s=>by rw[a.inj b,r.inj s]
theorem Refs.map {h h':Heap}(f:∀ks c,IsTupleKey knd h ks c->IsTupleKey knd h' ks c):∀{x:List (List K)} {vs:List Value},Refs knd h x vs->Refs knd h' x vs
 |_,_,.nil=>.nil
 |_,_,.cons a r=>.cons (f _ _ a) (r.map f)
theorem IsNest.typeIs {s:Shared}{kss:List (List K)}{a:Addr}(x:IsNest knd s.heap kss a):s.TypeIs (.ref a) "tuple":=by
 obtain⟨o,_,_,ho,hc,_⟩:=x
 exact⟨o,ho,hc⟩
theorem IsNest.inj {h:Heap}{a:Addr}{x y:List (List K)}(hx:IsNest knd h x a)(hy:IsNest knd h y a):x=y:=by
 obtain⟨o,i,n,e,_,d,r⟩:=hx
 obtain⟨o',i',n',e',_,d',r'⟩:=hy
 cases e.symm.trans e'
 rw[d]at d'
 cases d'
 exact r.inj r'
theorem IsNest.keeps {h h':Heap}{kss:List (List K)}{a d:Addr}{o:Obj}{es ep}(x:IsNest knd h kss a)(ho:h.get? d=some o)(hd:o.data=.dict es ep)(hs:Heap.SameBut d h h'):IsNest knd h' kss a:=by
 obtain⟨o',i,n,e,c,d',r⟩:=x
 have ne:a≠d:=by
  intro z
  rw[z]at e
  cases e.symm.trans ho
  rw[hd]at d'
  cases d'
 exact⟨o',i,n,(hs.2 a ne).trans e,c,d',r.map λ_ _ q=>q.keeps ho hd hs⟩
def nestHash (knd:KeyKind prog w K)(kss:List (List K)):Int:=reduceHash (Builtin.Tuple.tupleHashOf (kss.map (tupleKeyHash knd)))
def drawn:List (List K)->Nat
 |[]=>0
 |ks::r=>drawn r+(ks.length+1)
variable {A:Around}{E:Value->Shared->Prop}{s:Shared}
omit [DecidableEq K]in theorem drawn_snoc (ks:List K):∀l:List (List K),drawn (l++[ks])=drawn l+(ks.length+1)
 |[]=>by simp[drawn]
 |x::l=>by simp only[List.cons_append,drawn,drawn_snoc ks l];omega
theorem hash_nest {kss:List (List K)}{a:Addr}{Q:Int->Shared->Prop}(hu:A.units+8<cLine)(hk:IsNest knd s.heap kss a)(h:Q (nestHash knd kss) {s with toks:=s.toks+(drawn kss+1)}):
  wpAny (model prog w) A (pyHash (.ref a)) Q E s:=by
 have hT:=hk.typeIs
 obtain⟨o,items,n,ho,hc,hd,hi⟩:=hk
 unfold pyHash pyHashByItsType
 refine wpAny_bind (wpAny_cRoomFor_or (.inr (by omega)) (wpAny_bind (wpAny_specialOf hT F.slot_tuple_hash.lookup ?_)))
 show wpAny _ _ (if(some (Value.builtin "tuple.__hash__")==some Value.none)=true then _ else _) Q E s;rw[if_neg (by rw[beq_builtin_none];exact Bool.false_ne_true)]
 refine wpAny_bind (wpAny_specialOf hT F.slot_tuple_hash.lookup (wpAny_bind (wpAny_callSpecialIfBoundUnlessNone?_slot hT F.slot_tuple_hash (wpAny_call_entry F.slot_tuple_hash hT F.entry_tuple_hash ?_ (F.args_tuple_hash_1 _)))))
 show wpAny _ A.in1 (Builtin.Tuple.tupleItemsOf (.ref a)>>=_) _ _ s;refine wpAny_bind (wpAny_tupleItemsOf ho hd (wpAny_bind ?_))
 rw[<-Array.forIn_toList]
 refine wpAny_forIn_list _ (λrest (b:Array Int) s'=>∃d l,kss=d++l/\Refs knd s.heap l rest/\b.toList=d.map (tupleKeyHash knd)/\s'={s with toks:=s.toks+drawn d}) _ ?_ ?_ _ _ ⟨[],kss,rfl,hi,rfl,rfl⟩
 ·rintro x rest b s' ⟨d,l,rfl,hl,hb,rfl⟩
  cases hl with
  | @cons ks c kss' vs' h1 h2=>
   refine wpAny_bind (wpAny_pyHash_tuple (knd:=knd) (by simp only[Around.in1_units];omega) h1 (wpAny_pure ?_))
   exact⟨d++[ks],kss',by simp,h2,by simp[hb],by simp[drawn_snoc,Nat.add_assoc]⟩
 ·rintro b s' ⟨d,l,rfl,hl,hb,rfl⟩
  cases hl
  rw[List.append_nil]at h
  show wpAny _ _ (retInt (Builtin.Tuple.tupleHashOf b.toList)) _ _ _;rw[hb]
  refine wpAny_ret_mkInt (show wpAny _ _ (if(decide (-(2:Int)^63<=Builtin.Tuple.tupleHashOf (d.map (tupleKeyHash knd)))&&decide (Builtin.Tuple.tupleHashOf (d.map (tupleKeyHash knd))<2^63))=true then _ else _) Q E _ from ?_)
  unfold nestHash reduceHash at h
  split at h
  ·rename_i hr
   rw[if_pos hr]
   exact wpAny_pure (by simpa[Nat.add_assoc]using h)
  ·rename_i hr
   rw[if_neg hr]
   exact wpAny_bind (wpAny_rule (wpAny_pure (by simpa[Nat.add_assoc]using h)))
theorem eq_nest_tree {x y:List (List K)}{a b:Addr}{P:Fin->Shared->Prop}(hu:A.units+4<cLine)(hx:IsNest knd s.heap x a)(hy:IsNest knd s.heap y b)(h:P (.done (.ret (.bool (decide (x=y))))) s):
  wpAny (model prog w) A (Builtin.«tuple.__eq__» ⟨[.ref a,.ref b],[]⟩) P E s:=by
 have tb:=hy.typeIs
 obtain⟨oa,xs,na,ha1,_,ha2,ha3⟩:=hx
 obtain⟨ob,ys,nb,hb1,_,hb2,hb3⟩:=hy
 show wpAny _ A (isInstance (.ref b) (.type "tuple")>>=_) _ _ s;refine wpAny_bind (wpAny_isInstance tb isSubtype_tuple_tuple ?_)
 simp only[Bool.not_true,Bool.false_eq_true,if_false]
 refine wpAny_bind (wpAny_tupleItemsOf ha1 ha2 (wpAny_bind (wpAny_tupleItemsOf hb1 hb2 (wpAny_bind ?_))))
 refine wpAny_forIn_list _ (λrest r s'=>r.1=none/\s'=s/\∃p q us vs,rest=List.zip us vs/\Refs knd s.heap p us/\Refs knd s.heap q vs/\decide (p=q)=decide (x=y)/\(us.length==vs.length)=(xs.size==ys.size)) _ ?_ ?_ _ _ ⟨rfl,rfl,x,y,xs.toList,ys.toList,rfl,ha3,hb3,rfl,by simp⟩
 ·rintro⟨u,v⟩ rest r s' ⟨hr,rfl,p,q,us,vs,hz,hp,hq,hd,hl⟩
  cases hp with
  |nil=>simp at hz
  | @cons k1 c1 p' us' h1 hp'=>
   cases hq with
   |nil=>simp at hz
   | @cons k2 c2 q' vs' h2 hq'=>
    simp only[List.zip_cons_cons,List.cons.injEq,Prod.mk.injEq]at hz
    obtain⟨⟨rfl,rfl⟩,rfl⟩:=hz
    refine wpAny_bind (wpAny_eqBool_tuple (knd:=knd) (by omega) h1 h2 ?_)
    by_cases hk:k1=k2
    ·subst hk
     rw[decide_eq_true rfl]
     simp only[Bool.not_true,Bool.false_eq_true,if_false]
     refine wpAny_pure ⟨rfl,rfl,p',q',us',vs',rfl,hp',hq',?_,by simpa using hl⟩
     rw[<-hd]
     by_cases e:p'=q'<;>simp[e]
    ·rw[decide_eq_false hk]
     simp only[Bool.not_false,if_true]
     have hf:decide (x=y)=false:=by rw[<-hd];simp[hk]
     rw[hf]at h
     exact wpAny_bind (wpAny_pure (wpAny_pure (wpAny_pure h)))
 ·rintro⟨r1,r2⟩ s' ⟨hr,rfl,p,q,us,vs,hz,hp,hq,hd,hl⟩
  simp only at hr;subst hr
  have fin:(xs.size==ys.size)=decide (x=y):=by
   rw[<-hd,<-hl]
   cases hp with
   |nil=>cases hq<;>simp
   |cons _ _=>
    cases hq with
    |nil=>simp
    |cons _ _=>simp at hz
  refine wpAny_pure (show P (.done (.ret (.bool (xs.size==ys.size)))) s' from ?_)
  rw[fin];exact h
theorem eq_nest {x y:List (List K)}{a b:Addr}{Q:Bool->Shared->Prop}(hu:A.units+8<cLine)(hx:IsNest knd s.heap x a)(hy:IsNest knd s.heap y b)(h:Q (decide (x=y)) s):
  wpAny (model prog w) A (eqBool (.ref a) (.ref b)) Q E s:=by
 unfold eqBool
 try with_reducible refine wpAny_holding ?_
 by_cases hab:a=b
 ·subst hab
  rw[hx.inj hy]at h
  show wpAny _ _ (if(Value.ref a==Value.ref a)=true then _ else _) Q E s;rw[if_pos (beq_self_eq_true _)]
  exact wpAny_bind (wpAny_rule (wpAny_pure (by simpa using h)))
 ·show wpAny _ _ (if(Value.ref a==Value.ref b)=true then _ else _) Q E s;rw[if_neg (by intro z;exact hab (by have:=eq_of_beq z;injection this))]
  exact wpAny_bind (wpAny_richCompare_same_room (op:=.Eq) hx.typeIs hy.typeIs F.slot_tuple_eq (wpAny_call_entry F.slot_tuple_eq hx.typeIs F.entry_tuple_eq (eq_nest_tree (by simp only[Around.in1_units];omega) hx hy ⟨_,rfl,(λe=>nomatch e),wpAny_truthy_bool h⟩) (F.args_tuple_eq_2 _ _)) (by omega))
theorem quiet_tuple (i:Nat){ks:List K}{a:Addr}{Q:Bool->Shared->Prop}(hk:IsTupleKey knd s.heap ks a)(h:Q true s):wpAny (model prog w) A (eqIsQuiet (i+1) (.ref a)) Q E s:=by
 have t:=hk.typeIs
 obtain⟨o,items,n,ho,_,hd,hi⟩:=hk
 unfold eqIsQuiet
 refine wpAny_bind (wpAny_specialOf t F.slot_tuple_eq.lookup (wpAny_bind (wpAny_isInstance t isSubtype_tuple_tuple ?_)))
 simp only[Bool.not_true,Bool.false_eq_true,if_false]
 refine wpAny_bind (wpAny_seqItems ho hd (wpAny_bind (show wpAny _ _ (forIn items _ _) _ _ s from ?_)))
 rw[<-Array.forIn_toList]
 refine wpAny_forIn_list _ (λrest r s'=>r.1=none/\s'=s/\∀v∈rest,carriedByValue v=true) _ (λv rest r s' z=>?_) (λr s' z=>?_) _ _ ⟨rfl,rfl,hi.byValue⟩
 ·obtain⟨_,rfl,all⟩:=z
  rw[eqIsQuiet_byValue _ (all v List.mem_cons_self)]
  refine wpAny_bind (wpAny_pure ?_)
  simp only[Bool.not_true,Bool.false_eq_true,if_false]
  exact wpAny_pure ⟨rfl,rfl,λu hu=>all u (List.mem_cons_of_mem _ hu)⟩
 ·obtain⟨r1,r2⟩:=r
  obtain⟨hr,rfl,_⟩:=z
  simp only at hr;subst hr
  exact wpAny_pure h
theorem quiet_nest {kss:List (List K)}{a:Addr}{Q:Bool->Shared->Prop}(hk:IsNest knd s.heap kss a)(h:Q true s):wpAny (model prog w) A (eqIsQuiet 8 (.ref a)) Q E s:=by
 have t:=hk.typeIs
 obtain⟨o,items,n,ho,_,hd,hi⟩:=hk
 unfold eqIsQuiet
 refine wpAny_bind (wpAny_specialOf t F.slot_tuple_eq.lookup (wpAny_bind (wpAny_isInstance t isSubtype_tuple_tuple ?_)))
 simp only[Bool.not_true,Bool.false_eq_true,if_false]
 refine wpAny_bind (wpAny_seqItems ho hd (wpAny_bind (show wpAny _ _ (forIn items _ _) _ _ s from ?_)))
 rw[<-Array.forIn_toList]
 refine wpAny_forIn_list _ (λrest r s'=>r.1=none/\s'=s/\∃l,Refs knd s.heap l rest) _ (λv rest r s' z=>?_) (λr s' z=>?_) _ _ ⟨rfl,rfl,kss,hi⟩
 ·obtain⟨_,rfl,l,hl⟩:=z
  cases hl with
  | @cons ks c l' vs' h1 h2=>
   refine wpAny_bind (quiet_tuple 6 h1 ?_)
   simp only[Bool.not_true,Bool.false_eq_true,if_false]
   exact wpAny_pure ⟨rfl,rfl,l',h2⟩
 ·obtain⟨r1,r2⟩:=r
  obtain⟨hr,rfl,_⟩:=z
  simp only at hr;subst hr
  exact wpAny_pure h
end
def nestKind {prog:Program}{w:World}{K:Type}[DecidableEq K](knd:KeyKind prog w K):HeapKind prog w (List (List K)) where
 is:=IsNest knd
 hash:=nestHash knd
 draws:=λkss=>drawn kss+1
 room:=λA=>A.units+8<cLine
 inj:=λhx hy=>hx.inj hy
 keeps:=λx ho hd hs=>x.keeps ho hd hs
 pyHash:=λhu hk h=>hash_nest hu hk h
 eqBool:=λhu hx hy h=>eq_nest hu hx hy h
 quiet:=λhk h=>quiet_nest hk h
end NK
namespace MM
open PySem
abbrev Kp (wr:List Addr)(S:Addr)(h h':Heap):Prop:=∀b o,b∉wr->b≠S->h.get? b=some o->h'.get? b=some o
theorem under_eq {id:String}{M:Model}{A:Around}{α:Type}{t:Sem α}{Q:α->Shared->Prop}{E:Value->Shared->Prop}{s:Shared}(hp:plainId id=true)(args:Args)(h:wpAny M A.in1 t Q E s):wpAny M (A.under (.builtin id args)) t Q E s:=by
 rw[Around.under_plainId hp]
 exact h
section
variable {prog:Program}{w:World}{A:Around}{R:Result->Shared->Prop}{I S:Addr}{fp wr:List Addr}{P:Nat->Value->Prop}{St:Nat->Heap->Prop}
theorem max_end (W:Walks prog w A.in1 I fp wr 2 P St)(hS:S∉fp){s:Shared}{v:Value}{c:Nat}(st:St 2 s.heap)(e:s.heap.get? S=some {cls:=.type "list",dict:=none,data:=.seq #[v,v] c,slots:= #[]})
  (h:∀h' tk,Kp wr S s.heap h'->R (.ok (.ret v)) {s with heap:=h',toks:=tk}):codeAny (model prog w) A (.builtin "max.loop" ⟨[.ref I,.none,.ref S],[]⟩) R s:=by
 refine codeAny_builtin F.entry_max_loop (under_eq F.plain_max_loop _ (wpAny_bind (wpAny_seqItems e rfl (wpAny_bind (wpAny_tryCatch (W.done s _ _ st λh1 tk k1=>?_))))))
 have e1:=k1 S _ (λz=>hS (W.sub _ z)) e
 refine wpAny_bind (wpAny_updateSeq e1 rfl (wpAny_bind (wpAny_letGo (wpAny_pure (h _ tk λb o hb hn q=>?_)))))
 exact(Heap.get?_update_other _ _ (Ne.symm hn)).trans (k1 b o hb q)
theorem max_mid (W:Walks prog w A.in1 I fp wr 2 P St)(hS:S∉fp){s:Shared}{a b:Value}{c:Nat}{k:Bool}(st:St 1 s.heap)(e:s.heap.get? S=some {cls:=.type "list",dict:=none,data:=.seq #[a,a] c,slots:= #[]})(hb:∀v,P 1 v->v=b)
  (hc:∀(s':Shared) (Q:Value->Shared->Prop) (E:Value->Shared->Prop),Kp wr S s.heap s'.heap->Q (.bool k) s'->wpAny (model prog w) A.in1 (richCompare .Gt b a) Q E s')
  (h:∀h' tk,Kp wr S s.heap h'->R (.ok (.ret (if k=true then b else a))) {s with heap:=h',toks:=tk}):codeAny (model prog w) A (.builtin "max.loop" ⟨[.ref I,.none,.ref S],[]⟩) R s:=by
 refine codeAny_builtin F.entry_max_loop (under_eq F.plain_max_loop _ (wpAny_bind (wpAny_seqItems e rfl (wpAny_bind (wpAny_tryCatch (W.item 1 s _ _ (by decide) st λv h1 tk hP st1 k1=>?_))))))
 obtain rfl:=hb v hP
 have e1:=k1 S _ (λz=>hS (W.sub _ z)) e
 have kk:Kp wr S s.heap h1:=λx o hx _ q=>k1 x o hx q
 show wpAny _ A.in1 (tryCatch (holding [v,v] (richCompare .Gt v a>>=_)) _>>=_) _ _ _
 refine wpAny_bind (wpAny_tryCatch (wpAny_holding (wpAny_bind (hc _ _ _ kk (wpAny_bind (wpAny_holding (wpAny_truthy_bool (wpAny_bind (wpAny_letGo (wpAny_pure ?_))))))))))
 cases k with
 |true=>
  refine wpAny_bind (wpAny_updateSeq e1 rfl (wpAny_bind (wpAny_letGo (wpAny_pure ⟨plainId_quiet F.plain_max_loop _,max_end W hS (W.frame _ _ _ st1 λx hx o q=>?_) (Heap.get?_update_self _ e1 rfl) λh2 tk2 k2=>h h2 tk2 λx o hx hn q=>?_⟩))))
  ·exact(Heap.get?_update_other _ _ (λz:S=x=>hS (z▸hx))).trans q
  ·exact k2 x o hx hn ((Heap.get?_update_other _ _ (Ne.symm hn)).trans (k1 x o hx q))
 |false=>exact wpAny_bind (wpAny_letGo (wpAny_pure ⟨plainId_quiet F.plain_max_loop _,max_end W hS st1 e1 λh2 tk2 k2=>h h2 tk2 λx o hx hn q=>k2 x o hx hn (k1 x o hx q)⟩))
theorem max_beg (W:Walks prog w A.in1 I fp wr 2 P St)(hS:S∉fp){s:Shared}{a b:Value}{c:Nat}{k:Bool}(st:St 0 s.heap)(e:s.heap.get? S=some {cls:=.type "list",dict:=none,data:=.seq #[] c,slots:= #[]})(ha:∀v,P 0 v->v=a)(hb:∀v,P 1 v->v=b)
  (hc:∀(s':Shared) (Q:Value->Shared->Prop) (E:Value->Shared->Prop),Kp wr S s.heap s'.heap->Q (.bool k) s'->wpAny (model prog w) A.in1 (richCompare .Gt b a) Q E s')
  (h:∀h' tk,Kp wr S s.heap h'->R (.ok (.ret (if k=true then b else a))) {s with heap:=h',toks:=tk}):codeAny (model prog w) A (.builtin "max.loop" ⟨[.ref I,.none,.ref S],[]⟩) R s:=by
 refine codeAny_builtin F.entry_max_loop (under_eq F.plain_max_loop _ (wpAny_bind (wpAny_seqItems e rfl (wpAny_bind (wpAny_tryCatch (W.item 0 s _ _ (by decide) st λv h1 tk hP st1 k1=>?_))))))
 obtain rfl:=ha v hP
 have e1:=k1 S _ (λz=>hS (W.sub _ z)) e
 show wpAny _ A.in1 ((updateSeq S λ_=> #[v,v])>>=_) _ _ _
 refine wpAny_bind ?_;refine wpAny_updateSeq e1 rfl ?_
 refine(wpAny_pure ⟨plainId_quiet F.plain_max_loop _,max_mid (k:=k) W hS (W.frame _ _ _ st1 λx hx o q=>?_) (Heap.get?_update_self _ e1 rfl) hb (λs' Q E k2 q=>hc s' Q E (λx o hx hn z=>?_) q) λh2 tk2 k2=>h h2 tk2 λx o hx hn z=>?_⟩)
 ·exact(Heap.get?_update_other _ _ (λz:S=x=>hS (z▸hx))).trans q
 ·exact k2 x o hx hn ((Heap.get?_update_other _ _ (Ne.symm hn)).trans (k1 x o hx z))
 ·exact k2 x o hx hn ((Heap.get?_update_other _ _ (Ne.symm hn)).trans (k1 x o hx z))
end
section
variable {prog:Program}{w:World}{A:Around}{E:Value->Shared->Prop}{s:Shared}
theorem max_two {a b:Value}{k:Bool}{Q:Value->Shared->Prop}(hh:A.handled=none)
  (hc:∀(s':Shared) (Q:Value->Shared->Prop) (E:Value->Shared->Prop),(∀x o,s.heap.get? x=some o->s'.heap.get? x=some o)->Q (.bool k) s'->wpAny (model prog w) A.in1 (richCompare .Gt b a) Q E s')
  (h:∀h' tk,(∀x o,s.heap.get? x=some o->h'.get? x=some o)->Q (if k=true then b else a) {s with heap:=h',toks:=tk}):wpAny (model prog w) A (call (.builtin "max") [a,b]) Q E s:=by
 have nm:(toString "max"++toString ".loop":String)="max.loop":=by decide
 have hT:(s.heap.push {cls:=.type "tuple",data:=.seq #[a,b]}).IsTuple s.heap.objs.size #[a,b]:=⟨_,Heap.get?_push_size _ rfl,rfl,0,rfl⟩
 have z1:(s.heap.push {cls:=.type "tuple",data:=.seq #[a,b]}).objs.size=s.heap.objs.size+1:=Heap.size_push ..
 refine call_function_tree F.kind_max F.plain_max F.entry_max (F.args_max2 _ _) (wpAny_bind (wpAny_of_eq (show Builtin.Builtins.bindParams "max" ["key","default"] 0 ⟨[],[]⟩=pure [none,none]from rfl) ?_))
 show wpAny _ A.in1 (newTuple [a,b]>>=_) _ _ s
 refine wpAny_bind (wpAny_newObj_type (wpAny_bind (wpAny_pyIter_tuple hT (wpAny_bind (wpAny_newObj_type ?_)))))
 have W:=Walks.tuple (prog:=prog) (w:=w) (A:=A.in1) hh (s.heap.push {cls:=.type "tuple",data:=.seq #[a,b]}).objs.size s.heap.objs.size (by rw[z1];exact Nat.ne_of_lt (Nat.lt_succ_self _)) #[a,b]
 rw[nm]
 have old:∀{x:Addr} {o:Obj},s.heap.get? x=some o->x∉[(s.heap.push {cls:=.type "tuple",data:=.seq #[a,b]}).objs.size]/\x≠s.heap.objs.size+1+1:=λ{x o} e=>by
  have lt:=Heap.lt_size e
  refine⟨λm=>?_,λm=>?_⟩
  ·rw[List.mem_singleton.mp m,z1]at lt
   exact absurd (show s.heap.objs.size+1<s.heap.objs.size from lt) (by omega)
  ·rw[m]at lt
   exact absurd (show s.heap.objs.size+1+1<s.heap.objs.size from lt) (by omega)
 refine wpAny_pure ⟨plainId_quiet F.plain_max_loop _,max_beg (a:=a) (b:=b) (k:=k) W (λm=>?_) ?_ (Heap.get?_push_size _ rfl) (λv hv=>(Option.some.inj hv).symm) (λv hv=>(Option.some.inj hv).symm) (λs' Q E kp q=>hc s' Q E (λx o e=>?_) q) λh' tk kp=>h h' tk λx o e=>?_⟩
 ·simp only[List.mem_cons,List.not_mem_nil,or_false,Heap.size_push]at m
  rcases m with m|m
  ·exact absurd (show s.heap.objs.size+1+1=s.heap.objs.size+1 from m) (by omega)
  ·exact absurd (show s.heap.objs.size+1+1=s.heap.objs.size from m) (by omega)
 ·exact⟨⟨_,Heap.get?_push_of_some _ (Heap.get?_push_size _ rfl),rfl,rfl⟩,(hT.push _).push _⟩
 ·exact kp x o (old e).1 (λz=>(old e).2 (by rw[z];simp only[Heap.size_push])) (Heap.get?_push_of_some _ (Heap.get?_push_of_some _ (Heap.get?_push_of_some _ e)))
 ·exact kp x o (old e).1 (λz=>(old e).2 (by rw[z];simp only[Heap.size_push])) (Heap.get?_push_of_some _ (Heap.get?_push_of_some _ (Heap.get?_push_of_some _ e)))
end
section
variable {prog:Program}{w:World}{A:Around}{R:Result->Shared->Prop}{I S:Addr}{fp wr:List Addr}{P:Nat->Value->Prop}{St:Nat->Heap->Prop}
theorem min_end (W:Walks prog w A.in1 I fp wr 2 P St)(hS:S∉fp){s:Shared}{v:Value}{c:Nat}(st:St 2 s.heap)(e:s.heap.get? S=some {cls:=.type "list",dict:=none,data:=.seq #[v,v] c,slots:= #[]})
  (h:∀h' tk,Kp wr S s.heap h'->R (.ok (.ret v)) {s with heap:=h',toks:=tk}):codeAny (model prog w) A (.builtin "min.loop" ⟨[.ref I,.none,.ref S],[]⟩) R s:=by
 refine codeAny_builtin F.entry_min_loop (under_eq F.plain_min_loop _ (wpAny_bind (wpAny_seqItems e rfl (wpAny_bind (wpAny_tryCatch (W.done s _ _ st λh1 tk k1=>?_))))))
 have e1:=k1 S _ (λz=>hS (W.sub _ z)) e
 refine wpAny_bind (wpAny_updateSeq e1 rfl (wpAny_bind (wpAny_letGo (wpAny_pure (h _ tk λb o hb hn q=>?_)))))
 exact(Heap.get?_update_other _ _ (Ne.symm hn)).trans (k1 b o hb q)
theorem min_mid (W:Walks prog w A.in1 I fp wr 2 P St)(hS:S∉fp){s:Shared}{a b:Value}{c:Nat}{k:Bool}(st:St 1 s.heap)(e:s.heap.get? S=some {cls:=.type "list",dict:=none,data:=.seq #[a,a] c,slots:= #[]})(hb:∀v,P 1 v->v=b)
  (hc:∀(s':Shared) (Q:Value->Shared->Prop) (E:Value->Shared->Prop),Kp wr S s.heap s'.heap->Q (.bool k) s'->wpAny (model prog w) A.in1 (richCompare .Lt b a) Q E s')
  (h:∀h' tk,Kp wr S s.heap h'->R (.ok (.ret (if k=true then b else a))) {s with heap:=h',toks:=tk}):codeAny (model prog w) A (.builtin "min.loop" ⟨[.ref I,.none,.ref S],[]⟩) R s:=by
 refine codeAny_builtin F.entry_min_loop (under_eq F.plain_min_loop _ (wpAny_bind (wpAny_seqItems e rfl (wpAny_bind (wpAny_tryCatch (W.item 1 s _ _ (by decide) st λv h1 tk hP st1 k1=>?_))))))
 obtain rfl:=hb v hP
 have e1:=k1 S _ (λz=>hS (W.sub _ z)) e
 have kk:Kp wr S s.heap h1:=λx o hx _ q=>k1 x o hx q
 show wpAny _ A.in1 (tryCatch (holding [v,v] (richCompare .Lt v a>>=_)) _>>=_) _ _ _
 refine wpAny_bind (wpAny_tryCatch (wpAny_holding (wpAny_bind (hc _ _ _ kk (wpAny_bind (wpAny_holding (wpAny_truthy_bool (wpAny_bind (wpAny_letGo (wpAny_pure ?_))))))))))
 cases k with
 |true=>
  refine wpAny_bind (wpAny_updateSeq e1 rfl (wpAny_bind (wpAny_letGo (wpAny_pure ⟨plainId_quiet F.plain_min_loop _,min_end W hS (W.frame _ _ _ st1 λx hx o q=>?_) (Heap.get?_update_self _ e1 rfl) λh2 tk2 k2=>h h2 tk2 λx o hx hn q=>?_⟩))))
  ·exact(Heap.get?_update_other _ _ (λz:S=x=>hS (z▸hx))).trans q
  ·exact k2 x o hx hn ((Heap.get?_update_other _ _ (Ne.symm hn)).trans (k1 x o hx q))
 |false=>exact wpAny_bind (wpAny_letGo (wpAny_pure ⟨plainId_quiet F.plain_min_loop _,min_end W hS st1 e1 λh2 tk2 k2=>h h2 tk2 λx o hx hn q=>k2 x o hx hn (k1 x o hx q)⟩))
theorem min_beg (W:Walks prog w A.in1 I fp wr 2 P St)(hS:S∉fp){s:Shared}{a b:Value}{c:Nat}{k:Bool}(st:St 0 s.heap)(e:s.heap.get? S=some {cls:=.type "list",dict:=none,data:=.seq #[] c,slots:= #[]})(ha:∀v,P 0 v->v=a)(hb:∀v,P 1 v->v=b)
  (hc:∀(s':Shared) (Q:Value->Shared->Prop) (E:Value->Shared->Prop),Kp wr S s.heap s'.heap->Q (.bool k) s'->wpAny (model prog w) A.in1 (richCompare .Lt b a) Q E s')
  (h:∀h' tk,Kp wr S s.heap h'->R (.ok (.ret (if k=true then b else a))) {s with heap:=h',toks:=tk}):codeAny (model prog w) A (.builtin "min.loop" ⟨[.ref I,.none,.ref S],[]⟩) R s:=by
 refine codeAny_builtin F.entry_min_loop (under_eq F.plain_min_loop _ (wpAny_bind (wpAny_seqItems e rfl (wpAny_bind (wpAny_tryCatch (W.item 0 s _ _ (by decide) st λv h1 tk hP st1 k1=>?_))))))
 obtain rfl:=ha v hP
 have e1:=k1 S _ (λz=>hS (W.sub _ z)) e
 show wpAny _ A.in1 ((updateSeq S λ_=> #[v,v])>>=_) _ _ _
 refine wpAny_bind ?_;refine wpAny_updateSeq e1 rfl ?_
 refine(wpAny_pure ⟨plainId_quiet F.plain_min_loop _,min_mid (k:=k) W hS (W.frame _ _ _ st1 λx hx o q=>?_) (Heap.get?_update_self _ e1 rfl) hb (λs' Q E k2 q=>hc s' Q E (λx o hx hn z=>?_) q) λh2 tk2 k2=>h h2 tk2 λx o hx hn z=>?_⟩)
 ·exact(Heap.get?_update_other _ _ (λz:S=x=>hS (z▸hx))).trans q
 ·exact k2 x o hx hn ((Heap.get?_update_other _ _ (Ne.symm hn)).trans (k1 x o hx z))
 ·exact k2 x o hx hn ((Heap.get?_update_other _ _ (Ne.symm hn)).trans (k1 x o hx z))
end
section
variable {prog:Program}{w:World}{A:Around}{E:Value->Shared->Prop}{s:Shared}
theorem min_two {a b:Value}{k:Bool}{Q:Value->Shared->Prop}(hh:A.handled=none)
  (hc:∀(s':Shared) (Q:Value->Shared->Prop) (E:Value->Shared->Prop),(∀x o,s.heap.get? x=some o->s'.heap.get? x=some o)->Q (.bool k) s'->wpAny (model prog w) A.in1 (richCompare .Lt b a) Q E s')
  (h:∀h' tk,(∀x o,s.heap.get? x=some o->h'.get? x=some o)->Q (if k=true then b else a) {s with heap:=h',toks:=tk}):wpAny (model prog w) A (call (.builtin "min") [a,b]) Q E s:=by
 have nm:(toString "min"++toString ".loop":String)="min.loop":=by decide
 have hT:(s.heap.push {cls:=.type "tuple",data:=.seq #[a,b]}).IsTuple s.heap.objs.size #[a,b]:=⟨_,Heap.get?_push_size _ rfl,rfl,0,rfl⟩
 have z1:(s.heap.push {cls:=.type "tuple",data:=.seq #[a,b]}).objs.size=s.heap.objs.size+1:=Heap.size_push ..
 refine call_function_tree F.kind_min F.plain_min F.entry_min (F.args_min2 _ _) (wpAny_bind (wpAny_of_eq (show Builtin.Builtins.bindParams "min" ["key","default"] 0 ⟨[],[]⟩=pure [none,none]from rfl) ?_))
 show wpAny _ A.in1 (newTuple [a,b]>>=_) _ _ s
 refine wpAny_bind (wpAny_newObj_type (wpAny_bind (wpAny_pyIter_tuple hT (wpAny_bind (wpAny_newObj_type ?_)))))
 have W:=Walks.tuple (prog:=prog) (w:=w) (A:=A.in1) hh (s.heap.push {cls:=.type "tuple",data:=.seq #[a,b]}).objs.size s.heap.objs.size (by rw[z1];exact Nat.ne_of_lt (Nat.lt_succ_self _)) #[a,b]
 rw[nm]
 have old:∀{x:Addr} {o:Obj},s.heap.get? x=some o->x∉[(s.heap.push {cls:=.type "tuple",data:=.seq #[a,b]}).objs.size]/\x≠s.heap.objs.size+1+1:=λ{x o} e=>by
  have lt:=Heap.lt_size e
  refine⟨λm=>?_,λm=>?_⟩
  ·rw[List.mem_singleton.mp m,z1]at lt
   exact absurd (show s.heap.objs.size+1<s.heap.objs.size from lt) (by omega)
  ·rw[m]at lt
   exact absurd (show s.heap.objs.size+1+1<s.heap.objs.size from lt) (by omega)
 refine wpAny_pure ⟨plainId_quiet F.plain_min_loop _,min_beg (a:=a) (b:=b) (k:=k) W (λm=>?_) ?_ (Heap.get?_push_size _ rfl) (λv hv=>(Option.some.inj hv).symm) (λv hv=>(Option.some.inj hv).symm) (λs' Q E kp q=>hc s' Q E (λx o e=>?_) q) λh' tk kp=>h h' tk λx o e=>?_⟩
 ·simp only[List.mem_cons,List.not_mem_nil,or_false,Heap.size_push]at m
  rcases m with m|m
  ·exact absurd (show s.heap.objs.size+1+1=s.heap.objs.size+1 from m) (by omega)
  ·exact absurd (show s.heap.objs.size+1+1=s.heap.objs.size from m) (by omega)
 ·exact⟨⟨_,Heap.get?_push_of_some _ (Heap.get?_push_size _ rfl),rfl,rfl⟩,(hT.push _).push _⟩
 ·exact kp x o (old e).1 (λz=>(old e).2 (by rw[z];simp only[Heap.size_push])) (Heap.get?_push_of_some _ (Heap.get?_push_of_some _ (Heap.get?_push_of_some _ e)))
 ·exact kp x o (old e).1 (λz=>(old e).2 (by rw[z];simp only[Heap.size_push])) (Heap.get?_push_of_some _ (Heap.get?_push_of_some _ (Heap.get?_push_of_some _ e)))
end
end MM
namespace ZT
open PySem
section
variable {prog:Program}{w:World}{A:Around}{E:Value->Shared->Prop}{s:Shared}
theorem next_item {it t:Addr}{i:Nat}{items}{x:Value}{Q:Value->Shared->Prop}(hi:s.heap.IsTupleIter it t i)(ht:s.heap.IsTuple t items)(hx:items[i]?=some x)
  (q:∀h',h'.IsTupleIter it t (i+1)->Heap.SameBut it s.heap h'->Q x {s with heap:=h'}):wpAny (model prog w) A (Builtin.SmallTypes.nextOf (.ref it)) Q E s:=by
 obtain⟨o,ho,hc,hd⟩:=id hi
 obtain⟨ot,hot,_,nt,hdt⟩:=ht
 unfold Builtin.SmallTypes.nextOf
 refine wpAny_bind (wpAny_callSpecial?_slot (name:=Str.ofString "__next__") hi.typeIs F.slot_tuple_iterator_next (wpAny_call_entry F.slot_tuple_iterator_next hi.typeIs F.entry_tuple_iterator_next ?_ (F.args_tuple_iterator_next_1 _)))
 show wpAny _ A.in1 (field (.ref it) 0>>=_) _ _ s;refine wpAny_bind (wpAny_field ho hd (x:=.ref t) rfl ?_)
 show wpAny _ A.in1 (if(Value.ref t==Value.none)=true then _ else _) _ _ s;rw[if_neg (by simp)]
 show wpAny _ A.in1 (field (.ref it) 1>>=_) _ _ s;refine wpAny_bind (wpAny_field ho hd (x:=.int i 0) rfl ?_)
 show wpAny _ A.in1 (seqItems? (.ref t)>>=_) _ _ s;refine wpAny_bind (wpAny_seqItems hot hdt ?_)
 simp only[Int.toNat_natCast,hx]
 refine wpAny_bind (wpAny_setField ho hd (by simp) (wpAny_pure ⟨x,rfl,wpAny_pure (q _ ⟨_,Heap.get?_update_self _ ho (Obj.isFreed_of_fields (Obj.data_mapFields hd _)),(Obj.cls_mapFields ..).trans hc,?_⟩ (Heap.SameBut.update ..))⟩))
 rw[Obj.data_mapFields hd];simp[rawInt]
theorem next_end {it t:Addr}{i:Nat}{items}{Q:Value->Shared->Prop}(hh:A.handled=none)(hi:s.heap.IsTupleIter it t i)(ht:s.heap.IsTuple t items)(hx:items[i]?=none)
  (q:∀h' e,Heap.ExtBut it s.heap h'->(∃o,h'.get? e=some o/\o.cls=.type "StopIteration")->E (.ref e) {s with heap:=h'}):wpAny (model prog w) A (Builtin.SmallTypes.nextOf (.ref it)) Q E s:=by
 obtain⟨o,ho,hc,hd⟩:=id hi
 obtain⟨ot,hot,_,nt,hdt⟩:=ht
 unfold Builtin.SmallTypes.nextOf
 refine wpAny_bind (wpAny_callSpecial?_slot (name:=Str.ofString "__next__") hi.typeIs F.slot_tuple_iterator_next (wpAny_call_entry F.slot_tuple_iterator_next hi.typeIs F.entry_tuple_iterator_next ?_ (F.args_tuple_iterator_next_1 _)))
 show wpAny _ A.in1 (field (.ref it) 0>>=_) _ _ s;refine wpAny_bind (wpAny_field ho hd (x:=.ref t) rfl ?_)
 show wpAny _ A.in1 (if(Value.ref t==Value.none)=true then _ else _) _ _ s;rw[if_neg (by simp)]
 show wpAny _ A.in1 (field (.ref it) 1>>=_) _ _ s;refine wpAny_bind (wpAny_field ho hd (x:=.int i 0) rfl ?_)
 show wpAny _ A.in1 (seqItems? (.ref t)>>=_) _ _ s;refine wpAny_bind (wpAny_seqItems hot hdt ?_)
 simp only[Int.toNat_natCast,hx]
 refine wpAny_bind (wpAny_rule (wpAny_bind (wpAny_setField ho hd (by simp) ?_)))
 show wpAny _ A.in1 (newExc (.type "StopIteration") []>>=_) _ _ _;refine wpAny_bind ?_
 simp only[newExc,newTuple]
 refine wpAny_bind (wpAny_newObj_type (wpAny_bind (m:=firstArgMember _ _) (wpAny_of_eq (a:=Value.none) rfl (wpAny_newObj_type ?_ (by size_fits)))) (by size_fits))
 simp only[raiseNew]
 refine wpAny_bind (wpAny_handled ?_);rw[show A.in1.handled=none from hh]
 exact wpAny_bind (wpAny_pure (wpAny_throw (q _ _ (((Heap.SameBut.update ..).extBut.push _).push _) ⟨_,Heap.get?_push_size _ rfl,rfl⟩)))
variable {z TI TO i1 i2 l1 l2:Addr}{k1 k2:Nat}{xs ys:Array Value}{x y a b:Value}
theorem zip_item {Q:Value->Shared->Prop}(D:ZipApart z TI TO i1 i2 l1 l2)(hz:IsZip s.heap z TI TO .none)(hTI:IsPair s.heap TI (.ref i1) (.ref i2))(hTO:IsPair s.heap TO a b)
  (h1:s.heap.IsTupleIter i1 l1 k1) (h2:s.heap.IsListIter i2 l2 k2) (t1:s.heap.IsTuple l1 xs) (t2:s.heap.IsList l2 ys) (hx:xs[k1]?=some x) (hy:ys[k2]?=some y)
  (q:∀h',IsZip h' z TI TO (rawInt s.heap.objs.size)->IsPair h' TO x y->h'.IsTupleIter i1 l1 (k1+1)->h'.IsListIter i2 l2 (k2+1)->IsPair h' s.heap.objs.size x y->h'.objs.size=s.heap.objs.size+1->
   (∀c o,c≠z->c≠TO->c≠i1->c≠i2->s.heap.get? c=some o->h'.get? c=some o)->Q (.ref s.heap.objs.size) {s with heap:=h'}):
  wpAny (model prog w) A (Builtin.«zip.__next__» ⟨[.ref z],[]⟩) (λfin s'=>∃v,fin=.done (.ret v)/\Q v s') E s:=by
 show wpAny _ A (field (.ref z) 2>>=_) _ _ _;refine wpAny_bind (wpAny_field hz rfl (x:=.bool false) rfl ?_)
 show wpAny _ A (field (.ref z) 3>>=_) _ _ _;refine wpAny_bind (wpAny_field hz rfl (x:=.ref TI) rfl (wpAny_bind (wpAny_seqItems hTI rfl ?_)))
 show wpAny _ A (Builtin.SmallTypes.ownedTupleIsFree (.ref z)>>=_) _ _ _;refine wpAny_bind ?_
 unfold Builtin.SmallTypes.ownedTupleIsFree
 refine wpAny_bind (wpAny_field hz rfl (x:=.none) rfl (wpAny_pure ?_));simp only[if_true]
 refine wpAny_bind (wpAny_rule (wpAny_bind (wpAny_field hz rfl (x:=.ref TO) rfl (wpAny_bind (wpAny_setField_rec hz (by simp) λg1 z1 s1=>wpAny_bind ?_)))))
 replace z1:IsZip g1 z TI TO .ellipsis:=z1
 simp only[List.zipIdx_cons,List.zipIdx_nil,List.forIn_cons,List.forIn_nil]
 refine wpAny_bind (wpAny_bind (wpAny_onRaise (show wpAny _ A (Builtin.SmallTypes.nextOf (.ref i1)>>=_) _ _ _ from ?_)))
 refine wpAny_bind (next_item (h1.extBut s1.extBut D.i1z) (t1.extBut s1.extBut D.l1z) hx λg2 j1 s2=>wpAny_pure ?_)
 have p2:IsPair g2 TO a b:=s2.extBut _ _ D.TOi1 (s1.extBut _ _ D.TOz hTO)
 refine wpAny_bind (wpAny_seqItems p2 rfl (wpAny_bind (wpAny_updateSeq_pair p2 λg3 p3 s3=>wpAny_bind (wpAny_letGo (wpAny_pure ?_)))))
 replace p3:IsPair g3 TO x b:=p3
 refine wpAny_bind (wpAny_bind (wpAny_onRaise (show wpAny _ A (Builtin.SmallTypes.nextOf (.ref i2)>>=_) _ _ _ from ?_)))
 refine wpAny_bind (wpAny_nextOf_list_item (((h2.extBut s1.extBut D.i2z).extBut s2.extBut D.i12.symm).extBut s3.extBut D.TOi2.symm) (((t2.extBut s1.extBut D.l2z).extBut s2.extBut D.l2i1).extBut s3.extBut D.l2TO) hy λg4 j2 s4=>wpAny_pure ?_)
 have p4:IsPair g4 TO x b:=s4.extBut _ _ D.TOi2 p3
 refine wpAny_bind (wpAny_seqItems p4 rfl (wpAny_bind (wpAny_updateSeq_pair p4 λg5 p5 s5=>wpAny_bind (wpAny_letGo (wpAny_pure (wpAny_pure ?_))))))
 replace p5:IsPair g5 TO x y:=p5
 refine wpAny_bind (wpAny_seqItems p5 rfl (wpAny_bind (wpAny_newTuple ?_)))
 have sz:g5.objs.size=s.heap.objs.size:=by rw[s5.1,s4.1,s3.1,s2.1,s1.1]
 have z5:IsZip g5 z TI TO .ellipsis:=s5.extBut _ _ D.TOz.symm (s4.extBut _ _ D.i2z.symm (s3.extBut _ _ D.TOz.symm (s2.extBut _ _ D.i1z.symm z1)))
 have kp:∀c o,c≠z->c≠TO->c≠i1->c≠i2->s.heap.get? c=some o->g5.get? c=some o:=λc o c1 c2 c3 c4 e=>s5.extBut _ _ c2 (s4.extBut _ _ c4 (s3.extBut _ _ c2 (s2.extBut _ _ c3 (s1.extBut _ _ c1 e))))
 have e1:g5.IsTupleIter i1 l1 (k1+1):=((j1.extBut s3.extBut D.TOi1.symm).extBut s4.extBut D.i12).extBut s5.extBut D.TOi1.symm
 have e2:g5.IsListIter i2 l2 (k2+1):=j2.extBut s5.extBut D.TOi2.symm
 have lt:z<g5.objs.size:=Heap.lt_size z5
 show wpAny _ A (Builtin.SmallTypes.ownedTupleHandOut (.ref z) (.ref g5.objs.size)>>=_) _ _ _;refine wpAny_bind ?_
 unfold Builtin.SmallTypes.ownedTupleHandOut
 have z6:IsZip (g5.push {cls:=.type "tuple",data:=.seq #[x,y]}) z TI TO .ellipsis:=Heap.get?_push_of_some _ z5
 refine wpAny_bind (wpAny_setField_rec z6 (by simp) λg7 z7 s7=>?_)
 replace z7:IsZip g7 z TI TO (rawInt g5.objs.size):=z7
 refine wpAny_setField_rec z7 (by simp) λg8 z8 s8=>wpAny_pure ⟨_,rfl,?_⟩
 replace z8:IsZip g8 z TI TO (rawInt g5.objs.size):=z8
 have up:∀c o,c≠z->g5.get? c=some o->g8.get? c=some o:=λc o c1 e=>s8.extBut _ _ c1 (s7.extBut _ _ c1 (Heap.get?_push_of_some _ e))
 have t8:IsPair g8 g5.objs.size x y:=s8.extBut _ _ (Nat.ne_of_gt lt) (s7.extBut _ _ (Nat.ne_of_gt lt) (Heap.get?_push_size _ rfl))
 have n8:g8.objs.size=g5.objs.size+1:=by rw[s8.1,s7.1,Heap.size_push]
 rw[sz]at z8 t8 n8
 show Q (.ref g5.objs.size) _;rw[sz]
 exact q g8 z8 (up _ _ D.TOz p5) (by obtain⟨o,e,r⟩:=e1;exact⟨o,up _ o D.i1z e,r⟩) (e2.at λo e=>up _ o D.i2z e) t8 n8 λc o c1 c2 c3 c4 e=>up c o c1 (kp c o c1 c2 c3 c4 e)
theorem zip_end {Q:Fin->Shared->Prop}(hh:A.handled=none)(D:ZipApart z TI TO i1 i2 l1 l2)(hz:IsZip s.heap z TI TO .none)(hTI:IsPair s.heap TI (.ref i1) (.ref i2))(hTO:IsPair s.heap TO a b)
  (h1:s.heap.IsTupleIter i1 l1 k1) (h2:s.heap.IsListIter i2 l2 k2) (t1:s.heap.IsTuple l1 xs) (t2:s.heap.IsList l2 ys) (hend:xs[k1]?=none\/ys[k2]?=none)
  (q:∀h' e,(∀c o,c≠z->c≠TO->c≠i1->c≠i2->s.heap.get? c=some o->h'.get? c=some o)->(∃o,h'.get? e=some o/\o.cls=.type "StopIteration")->E (.ref e) {s with heap:=h'}):
  wpAny (model prog w) A (Builtin.«zip.__next__» ⟨[.ref z],[]⟩) Q E s:=by
 show wpAny _ A (field (.ref z) 2>>=_) _ _ _;refine wpAny_bind (wpAny_field hz rfl (x:=.bool false) rfl ?_)
 show wpAny _ A (field (.ref z) 3>>=_) _ _ _;refine wpAny_bind (wpAny_field hz rfl (x:=.ref TI) rfl (wpAny_bind (wpAny_seqItems hTI rfl ?_)))
 show wpAny _ A (Builtin.SmallTypes.ownedTupleIsFree (.ref z)>>=_) _ _ _;refine wpAny_bind ?_
 unfold Builtin.SmallTypes.ownedTupleIsFree
 refine wpAny_bind (wpAny_field hz rfl (x:=.none) rfl (wpAny_pure ?_));simp only[if_true]
 refine wpAny_bind (wpAny_rule (wpAny_bind (wpAny_field hz rfl (x:=.ref TO) rfl (wpAny_bind (wpAny_setField_rec hz (by simp) λg1 z1 s1=>wpAny_bind ?_)))))
 replace z1:IsZip g1 z TI TO .ellipsis:=z1
 simp only[List.zipIdx_cons,List.zipIdx_nil,List.forIn_cons,List.forIn_nil]
 refine wpAny_bind (wpAny_bind (wpAny_onRaise (show wpAny _ A (Builtin.SmallTypes.nextOf (.ref i1)>>=_) _ _ _ from ?_)))
 cases hx:xs[k1]? with
 |none=>
  refine wpAny_bind (next_end hh (h1.extBut s1.extBut D.i1z) (t1.extBut s1.extBut D.l1z) hx λg2 e s2 he=>?_)
  obtain⟨oe,hoe,hce⟩:=he
  have z2:IsZip g2 z TI TO .ellipsis:=s2 _ _ D.i1z.symm z1
  have ez:e≠z:=λr=>by subst r;rw[z2]at hoe;cases hoe;simp at hce
  exact wpAny_setField_rec z2 (by simp) λg3 _ s3=>q g3 e (λc o c1 _ c3 _ r=>s3.extBut _ _ c1 (s2 _ _ c3 (s1.extBut _ _ c1 r))) ⟨oe,s3.extBut _ _ ez hoe,hce⟩
 |some x=>
  have hy:ys[k2]?=none:=hend.resolve_left (by rw[hx];exact λr=>nomatch r)
  refine wpAny_bind (next_item (h1.extBut s1.extBut D.i1z) (t1.extBut s1.extBut D.l1z) hx λg2 j1 s2=>wpAny_pure ?_)
  have p2:IsPair g2 TO a b:=s2.extBut _ _ D.TOi1 (s1.extBut _ _ D.TOz hTO)
  refine wpAny_bind (wpAny_seqItems p2 rfl (wpAny_bind (wpAny_updateSeq_pair p2 λg3 p3 s3=>wpAny_bind (wpAny_letGo (wpAny_pure ?_)))))
  refine wpAny_bind (wpAny_bind (wpAny_onRaise (show wpAny _ A (Builtin.SmallTypes.nextOf (.ref i2)>>=_) _ _ _ from ?_)))
  refine wpAny_bind (wpAny_nextOf_list_end hh (((h2.extBut s1.extBut D.i2z).extBut s2.extBut D.i12.symm).extBut s3.extBut D.TOi2.symm) (((t2.extBut s1.extBut D.l2z).extBut s2.extBut D.l2i1).extBut s3.extBut D.l2TO) hy λg4 e s4 he=>?_)
  obtain⟨oe,hoe,hce⟩:=he
  have z4:IsZip g4 z TI TO .ellipsis:=s4 _ _ D.i2z.symm (s3.extBut _ _ D.TOz.symm (s2.extBut _ _ D.i1z.symm z1))
  have ez:e≠z:=λr=>by subst r;rw[z4]at hoe;cases hoe;simp at hce
  exact wpAny_setField_rec z4 (by simp) λg5 _ s5=>q g5 e (λc o c1 c2 c3 c4 r=>s5.extBut _ _ c1 (s4 _ _ c4 (s3.extBut _ _ c2 (s2.extBut _ _ c3 (s1.extBut _ _ c1 r))))) ⟨oe,s5.extBut _ _ ez hoe,hce⟩
theorem pyNext_item {Q:Option Value->Shared->Prop}(D:ZipApart z TI TO i1 i2 l1 l2)(hz:IsZip s.heap z TI TO .none)(hTI:IsPair s.heap TI (.ref i1) (.ref i2))(hTO:IsPair s.heap TO a b)
  (h1:s.heap.IsTupleIter i1 l1 k1) (h2:s.heap.IsListIter i2 l2 k2) (t1:s.heap.IsTuple l1 xs) (t2:s.heap.IsList l2 ys) (hx:xs[k1]?=some x) (hy:ys[k2]?=some y)
  (q:∀h',IsZip h' z TI TO (rawInt s.heap.objs.size)->IsPair h' TO x y->h'.IsTupleIter i1 l1 (k1+1)->h'.IsListIter i2 l2 (k2+1)->IsPair h' s.heap.objs.size x y->h'.objs.size=s.heap.objs.size+1->
   (∀c o,c≠z->c≠TO->c≠i1->c≠i2->s.heap.get? c=some o->h'.get? c=some o)->Q (some (.ref s.heap.objs.size)) {s with heap:=h'}):wpAny (model prog w) A (pyNext (.ref z)) Q E s:=by
 have ty:s.TypeIs (.ref z) "zip":=⟨_,hz,rfl⟩
 unfold pyNext
 exact wpAny_bind (wpAny_attempt (wpAny_callSpecial?_slot (name:=Str.ofString "__next__") ty F.slot_zip_next (wpAny_call_entry F.slot_zip_next ty F.entry_zip_next (zip_item D hz hTI hTO h1 h2 t1 t2 hx hy λh' a1 a2 a3 a4 a5 a6 a7=>wpAny_pure (q h' a1 a2 a3 a4 a5 a6 a7)) (F.args_zip_next_1 _))))
theorem pyNext_end {Q:Option Value->Shared->Prop}(hh:A.handled=none)(D:ZipApart z TI TO i1 i2 l1 l2)(hz:IsZip s.heap z TI TO .none)(hTI:IsPair s.heap TI (.ref i1) (.ref i2))(hTO:IsPair s.heap TO a b)
  (h1:s.heap.IsTupleIter i1 l1 k1) (h2:s.heap.IsListIter i2 l2 k2) (t1:s.heap.IsTuple l1 xs) (t2:s.heap.IsList l2 ys) (hend:xs[k1]?=none\/ys[k2]?=none)
  (q:∀h',(∀c o,c≠z->c≠TO->c≠i1->c≠i2->s.heap.get? c=some o->h'.get? c=some o)->Q none {s with heap:=h'}):wpAny (model prog w) A (pyNext (.ref z)) Q E s:=by
 have ty:s.TypeIs (.ref z) "zip":=⟨_,hz,rfl⟩
 unfold pyNext
 refine wpAny_bind (wpAny_attempt (wpAny_callSpecial?_slot (name:=Str.ofString "__next__") ty F.slot_zip_next (wpAny_call_entry F.slot_zip_next ty F.entry_zip_next (zip_end hh D hz hTI hTO h1 h2 t1 t2 hend λh' e hk he=>?_) (F.args_zip_next_1 _))))
 obtain⟨o,ho,hc⟩:=he
 exact wpAny_bind (wpAny_isInstance (T:="StopIteration") (b:=true) ⟨o,ho,hc⟩ isSubtype_stop (wpAny_pure (q _ hk)))
end
abbrev g1 (h:Heap)(t:Addr):Heap:=h.push {cls:=.type "tuple_iterator",data:=.fields #[.ref t,.int 0 0]}
abbrev g2 (h:Heap)(t l:Addr):Heap:=(g1 h t).push {cls:=.type "list_iterator",data:=.fields #[.ref l,.int 0 0]}
abbrev g3 (h:Heap)(t l:Addr):Heap:=(g2 h t l).push {cls:=.type "tuple",data:=.seq #[.ref h.objs.size,.ref (g1 h t).objs.size]}
abbrev g4 (h:Heap)(t l:Addr):Heap:=(g3 h t l).push {cls:=.type "tuple",data:=.seq #[.none,.none]}
abbrev g5 (h:Heap)(t l:Addr):Heap:=(g4 h t l).push {cls:=.type "zip",data:=.fields #[.none,.bool false,.bool false,.ref (g2 h t l).objs.size,.ref (g3 h t l).objs.size]}
theorem meets_new (t l:Addr)(xs ys:Array Value):
  Meets (Builtin.«zip.__new__» ⟨[.type "zip",.ref t,.ref l],[]⟩) (λ_ R s=>s.heap.IsTuple t xs/\s.heap.IsList l ys/\R (.ok (.ret (.ref (g4 s.heap t l).objs.size))) {s with heap:=g5 s.heap t l}):=
 .of_wp λprog w A R s h=>by
  obtain⟨hp,g,d,tk,os⟩:=s;obtain⟨a1,a2,h⟩:=h
  have sub:=sub_zip
  have b1:Heap.IsTuple (Shared.heap ⟨hp,g,d,tk,os⟩) t xs:=a1
  have b2:Heap.IsList (Shared.heap ⟨hp.push {cls:=.type "tuple_iterator",data:=.fields #[.ref t,.int 0 0]},g,d,tk,os⟩) l ys:=Heap.IsList.push a2 _
  wp_walk using wpAny_pyIter_tuple b1,wpAny_pyIter_list b2
  exact⟨_,rfl,h⟩
section
variable {prog:Program}{w:World}{A:Around}{E:Value->Shared->Prop}{s:Shared}
theorem call_zip {t l:Addr}{xs ys:Array Value}{Q:Value->Shared->Prop}(a1:s.heap.IsTuple t xs)(a2:s.heap.IsList l ys)
  (h:∀h',IsZip h' (s.heap.objs.size+4) (s.heap.objs.size+2) (s.heap.objs.size+3) .none->IsPair h' (s.heap.objs.size+2) (.ref s.heap.objs.size) (.ref (s.heap.objs.size+1))->
   IsPair h' (s.heap.objs.size+3) .none .none->h'.IsTupleIter s.heap.objs.size t 0->h'.IsListIter (s.heap.objs.size+1) l 0->h'.objs.size=s.heap.objs.size+5->
   (∀c o,s.heap.get? c=some o->h'.get? c=some o)->Q (.ref (s.heap.objs.size+4)) {s with heap:=h'}):
  wpAny (model prog w) A (call (.type "zip") [.ref t,.ref l]) Q E s:=by
 refine callType_new F.called_zip (by decide) (F.typeCall_zip_2 _ _) (F.newCall_zip_2 _ _) (λobj=>F.args_object_init_3 obj _ _) F.entry_zip_new (meets_new t l xs ys) ⟨a1,a2,?_⟩
 have z1:(g1 s.heap t).objs.size=s.heap.objs.size+1:=Heap.size_push ..
 have z2:(g2 s.heap t l).objs.size=s.heap.objs.size+2:=by rw[Heap.size_push,z1]
 have z3:(g3 s.heap t l).objs.size=s.heap.objs.size+3:=by rw[Heap.size_push,z2]
 have z4:(g4 s.heap t l).objs.size=s.heap.objs.size+4:=by rw[Heap.size_push,z3]
 have z5:(g5 s.heap t l).objs.size=s.heap.objs.size+5:=by rw[Heap.size_push,z4]
 have e5:(g5 s.heap t l).get? (g4 s.heap t l).objs.size=some _:=Heap.get?_push_size _ rfl
 have e4:(g5 s.heap t l).get? (g3 s.heap t l).objs.size=some _:=Heap.get?_push_of_some _ (Heap.get?_push_size _ rfl)
 have e3:(g5 s.heap t l).get? (g2 s.heap t l).objs.size=some _:=Heap.get?_push_of_some _ (Heap.get?_push_of_some _ (Heap.get?_push_size _ rfl))
 have e2:(g5 s.heap t l).get? (g1 s.heap t).objs.size=some _:=Heap.get?_push_of_some _ (Heap.get?_push_of_some _ (Heap.get?_push_of_some _ (Heap.get?_push_size _ rfl)))
 have e1:(g5 s.heap t l).get? s.heap.objs.size=some _:=Heap.get?_push_of_some _ (Heap.get?_push_of_some _ (Heap.get?_push_of_some _ (Heap.get?_push_of_some _ (Heap.get?_push_size _ rfl))))
 show _/\_
 rw[z2,z3,z4]at e5;rw[z1,z2]at e3;rw[z3]at e4;rw[z1]at e2;rw[z4]
 exact⟨⟨_,e5,rfl⟩,h _ e5 e3 e4 ⟨_,e1,rfl,rfl⟩ ⟨_,e2,rfl,rfl⟩ z5 λc o x=>Heap.get?_push_of_some _ (Heap.get?_push_of_some _ (Heap.get?_push_of_some _ (Heap.get?_push_of_some _ (Heap.get?_push_of_some _ x))))⟩
end
end ZT
namespace RR
open PySem PySem.Spec PyProof.Rows L2
theorem rcGt_int (A:Around)(s:Shared)(a:Int)(t:Tok)(c:Int)(u:Tok)(prog:Program)(w:World)(E:Value->Shared->Prop)(Q:Value->Shared->Prop)(h:Q (.bool (decide (c<a))) s):
  wpAny (model prog w) A (richCompare .Gt (.int a t) (.int c u)) Q E s:=
 (PyProof.Rows.gt_int h:wpAny (model prog w) A (compareOp .Gt (.int a t) (.int c u)) Q E s)
section
open PySem.SeqAt
open PySem.AutoSeq1 (wpAny_loadPart')
open PySem.MeetsSeq PySem.MeetsSeq2 PySem.MeetsSeq3
open HT (lexLt lexLt_cons lexLt_nil_nil lexLt_nil_cons lexLt_cons_nil eqAt_int)
theorem tuple_gt_ints (l b:Addr)(items items2:Array Value)(n n2:Nat)(dd dd2:Option Addr)(sl sl2:Array (Option Value))(ns ms:List Int)(hi:IntsAre items.toList ns)(hj:IntsAre items2.toList ms):
  Meets (Builtin.«tuple.__gt__» ⟨[.ref l,.ref b],[]⟩)
   (λ_ R s=>s.heap.get? l=some {cls:=.type "tuple",dict:=dd,data:=.seq items n,slots:=sl}/\s.heap.get? b=some {cls:=.type "tuple",dict:=dd2,data:=.seq items2 n2,slots:=sl2}/\
    R (.ok (.ret (.bool (lexLt ms ns)))) s):=
 .of_wp λprog w A R s h=>by
  obtain⟨hp,g,d,tk,os⟩:=s;obtain⟨hl,hb,h⟩:=h
  have f2:=AutoSeq1.sub_tuple_tuple
  have z1:items.size=ns.length:=by rw[<-hi.length];simp
  have z2:items2.size=ms.length:=by rw[<-hj.length];simp
  wp_walk using wpAny_loadPart' hl,wpAny_loadPart' hb,wpAny_forIn_list _ (λrest b s'=>b.1=none/\s'=⟨hp,g,d,tk,os⟩/\∃(vs ws:List Value) (ns' ms':List Int),rest=vs.zip ws/\
   IntsAre vs ns'/\IntsAre ws ms'/\ns'.length+items2.size=ms'.length+items.size/\R (.ok (.ret (.bool (lexLt ms' ns')))) ⟨hp,g,d,tk,os⟩) _
  case turn=>
   rintro⟨y,x⟩ rest b s' ⟨hb',rfl,vs,ws,ns',ms',hz,hvi,hwi,hlen,hR⟩
   cases hvi with
   |nil=>rw[List.zip_nil_left]at hz;cases hz
   |cons a t hvi'=>
    cases hwi with
    |nil=>rw[List.zip_nil_right]at hz;cases hz
    |cons c u hwi'=>
     rw[List.zip_cons_cons]at hz
     injection hz with hyx hrest
     injection hyx with hy hx
     subst hy hx
     rw[lexLt_cons]at hR
     simp only[List.length_cons]at hlen
     obtain⟨e,he,hiff⟩:=eqAt_int A.in1 ⟨hp,g,d,tk,os⟩ a t c u
     refine wpAny_bind (he prog w _ _ ?_)
     cases e with
     |true=>
      rw[if_pos (hiff.mp rfl).symm]at hR
      wp_walk
      exact⟨rfl,rfl,_,_,_,_,hrest,hvi',hwi',by omega,hR⟩
     |false=>
      rw[if_neg (λq=>absurd (hiff.mpr (Eq.symm q)) Bool.false_ne_true)]at hR
      have hri:=rcGt_int A.in1 ⟨hp,g,d,tk,os⟩ a t c u prog w
      wp_walk using hri
      exact⟨_,rfl,by simpa using hR⟩
  case fin=>
   rintro⟨b1,b2⟩ s' ⟨hb',rfl,vs,ws,ns',ms',hz,hvi,hwi,hlen,hR⟩
   simp only at hb'
   subst hb'
   have hv:lexLt ms' ns'=decide (items2.size<items.size):=by
    cases hvi with
    |nil=>
     cases hwi with
     |nil=>
      simp only[List.length_nil]at hlen
      rw[lexLt_nil_nil]
      exact(decide_eq_false (by omega)).symm
     |cons c u hw=>
      simp only[List.length_nil,List.length_cons]at hlen
      rw[lexLt_cons_nil]
      exact(decide_eq_false (by omega)).symm
    |cons a t hv=>
     cases hwi with
     |nil=>
      simp only[List.length_nil,List.length_cons]at hlen
      rw[lexLt_nil_cons]
      exact(decide_eq_true (by omega)).symm
     |cons c u hw=>
      rw[List.zip_cons_cons]at hz
      cases hz
   rw[hv]at hR
   wp_walk
   exact⟨_,rfl,by simpa[Builtin.Tuple.tupleCompareSizes]using hR⟩
  case h=>
   exact⟨rfl,rfl,items.toList,items2.toList,ns,ms,rfl,hi,hj,by omega,h⟩
end
section
variable {prog:Program}{w:World}{A:Around}{E:Value->Shared->Prop}{s:Shared}
open HT (lexLt)
theorem gt_tupInts {l b:Addr}{items items2:Array Value}{ns ms:List Int}{Q:Value->Shared->Prop}(hl:IsTup s.heap l items)(hb:IsTup s.heap b items2)(hi:IntsAre items.toList ns)(hj:IntsAre items2.toList ms)
  (hu:A.units<cLine) (h:Q (.bool (lexLt ms ns)) s):wpAny (model prog w) A (richCompare .Gt (.ref l) (.ref b)) Q E s:=by
 obtain⟨⟨cls,dd,data,sl⟩,ho,hc,n,hd⟩:=id hl
 obtain⟨⟨cls2,dd2,data2,sl2⟩,ho2,hc2,n2,hd2⟩:=id hb
 simp only at hc hd hc2 hd2
 subst hc hd hc2 hd2
 exact richCompare_meets_room (op:=.Gt) ⟨_,ho,rfl⟩ ⟨_,ho2,rfl⟩ PySem.F.slot_tuple_gt PySem.F.entry_tuple_gt (PySem.F.args_tuple_gt_2 _ _) (tuple_gt_ints l b items items2 n n2 dd dd2 sl sl2 ns ms hi hj)
  ⟨ho,ho2,show Value.bool (lexLt ms ns)≠Value.notImplemented/\Q (.bool (lexLt ms ns)) s from⟨(λx=>nomatch x),h⟩⟩ hu
end
theorem IsTup.kp {h h':Heap}{a:Addr}{xs:Array Value}(t:IsTup h a xs)(k:∀b o,h.get? b=some o->h'.get? b=some o):IsTup h' a xs:=by
 obtain⟨o,e,r⟩:=t
 exact⟨o,k _ _ e,r⟩
section
variable {X:Cx}
theorem call_minT (hc:X.calm=true)(hu:X.A.units+1<cLine):CallR X (.builtin "min") (λvs H Q=>∃a b ns ms,vs=[.ref a,.ref b]/\SqT X.K H a (ns.map V.int)/\SqT X.K H b (ms.map V.int)/\Q (.ref (if HT.lexLt ms ns=true then b else a)) H):=by
 intro pins s Z H xs us Q I r h
 obtain⟨a,b,ns,ms,rfl,h1,h2,q⟩:=h
 obtain⟨u,w',rfl,ru,rw'⟩:=vals2 r
 cases ru;cases rw'
 obtain⟨i1,v1,t1,_⟩:=I.tuple h1
 obtain⟨i2,v2,t2,_⟩:=I.tuple h2
 refine MM.min_two (k:=HT.lexLt ms ns) (I.ok.hd hc) (λs' Q E k q=>HT.lt_tupInts (IsTup.kp t2 k) (IsTup.kp t1 k) (by simpa using v2.ints) (by simpa using v1.ints) hu q) λh' tk k=>?_
 refine⟨_,H,I.kept k,?_,q⟩
 by_cases c:HT.lexLt ms ns=true
 ·rw[if_pos c,if_pos c];rfl
 ·rw[if_neg c,if_neg c];rfl
theorem call_maxT (hc:X.calm=true)(hu:X.A.units+1<cLine):CallR X (.builtin "max") (λvs H Q=>∃a b ns ms,vs=[.ref a,.ref b]/\SqT X.K H a (ns.map V.int)/\SqT X.K H b (ms.map V.int)/\Q (.ref (if HT.lexLt ns ms=true then b else a)) H):=by
 intro pins s Z H xs us Q I r h
 obtain⟨a,b,ns,ms,rfl,h1,h2,q⟩:=h
 obtain⟨u,w',rfl,ru,rw'⟩:=vals2 r
 cases ru;cases rw'
 obtain⟨i1,v1,t1,_⟩:=I.tuple h1
 obtain⟨i2,v2,t2,_⟩:=I.tuple h2
 refine MM.max_two (k:=HT.lexLt ns ms) (I.ok.hd hc) (λs' Q E k q=>gt_tupInts (IsTup.kp t2 k) (IsTup.kp t1 k) (by simpa using v2.ints) (by simpa using v1.ints) hu q) λh' tk k=>?_
 refine⟨_,H,I.kept k,?_,q⟩
 by_cases c:HT.lexLt ns ms=true
 ·rw[if_pos c,if_pos c];rfl
 ·rw[if_neg c,if_neg c];rfl
theorem call_lenT:CallR X (.builtin "len") (λxs H Q=>∃a kvs,xs=[V.ref a]/\H a=some (.dT kvs)/\Q (.int kvs.length) H):=by
 intro pins s Z H xs us Q I r h
 obtain⟨a,kvs,rfl,ha,q⟩:=h
 obtain⟨u,rfl,ru⟩:=vals1 r
 cases ru
 obtain⟨z,hd,vs,rel,o,es,ep,e1,e2,e3,e4,_⟩:=dt_of I.hok ha
 have sz:es.size=kvs.length:=by rw[<-Array.length_toList,e4,List.length_map,<-Paired.length rel]
 refine DL.len_any hd e1 e2 e3 (by rw[sz];rw[sizeLine_eq]at z;omega) ⟨.int kvs.length,H,I.tok _,⟨s.toks+1,by rw[sz]⟩,q⟩
end
def NKey (H:Hp)(b:Addr)(k:List (List Key)):Prop:=∃as:List Addr,H b=some (.tup (as.map V.ref))/\Paired (λ(ks:List Key) (c:Addr)=>H c=some (.tup (ks.map kV))) k as
def nobj (P:Program)(w:World)(a:Addr)(xs:List (List (List Key)×Addr×Value)):HO:=
 .ext λh=>∃o es ep,h.get? a=some o/\o.ExactDict/\o.data=.dict es ep/\es.toList=xs.map (entryOfKey (NK.nestKind (mixKind P w)))
structure ND (P:Program)(w:World)(H:Hp)(a:Addr)(ks:List (List (List Key))):Prop where
 ex:∃xs:List (List (List Key)×Addr×Value),xs.map (·.1)=ks/\(∀x∈xs,NKey H x.2.1 x.1)/\H a=some (nobj P w a xs)
 nd:ks.Nodup
 sm:(a==sysModules)=false
 ln:ks.length<=sizeLine
section
variable {P:Program}{w:World}{H H':Hp}{h h':Heap}{a b:Addr}{ks:List (List (List Key))}
theorem NKey.same {k:List (List Key)}(x:NKey H b k)(s:∀c xs,H c=some (.tup xs)->H' c=some (.tup xs)):NKey H' b k:=by
 obtain⟨as,h1,h2⟩:=x
 exact⟨as,s _ _ h1,Paired.mapP h2 λ_ _ q=>s _ _ q⟩
theorem ND.same (x:ND P w H a ks)(s:Same H H'):ND P w H' a ks:=by
 obtain⟨⟨xs,h1,h2,h3⟩,nd,sm,ln⟩:=x
 exact⟨⟨xs,h1,λy hy=>(h2 y hy).same λc l q=>s _ _ q,s _ _ h3⟩,nd,sm,ln⟩
theorem NKey.is {k:List (List Key)}(ok:HOk P w H h)(x:NKey H b k):(NK.nestKind (mixKind P w)).is h k b:=by
 obtain⟨as,h1,h2⟩:=x
 obtain⟨_,its,r,o,e1,e2,n,e3⟩:=(show ObjOk P w H h b (.tup (as.map V.ref))from ok b _ h1)
 refine⟨o,its.toArray,n,e1,e2,e3,?_⟩
 have key:∀{k:List (List Key)} {as:List Addr} {its:List Value},Paired (λ(ks:List Key) (c:Addr)=>H c=some (.tup (ks.map kV))) k as->Vals (as.map V.ref) its->NK.Refs (mixKind P w) h k its:=by
  intro k as its p
  induction p generalizing its with
  |nil=>intro r;cases r;exact .nil
  |cons q t ih=>
   intro r
   cases r with
   |cons r1 r2=>cases r1;exact .cons (key_of ok q) (ih r2)
 simpa using key h2 r
theorem ND.of (ok:HOk P w H h)(x:ND P w H a ks):∃xs,xs.map (·.1)=ks/\h.DictOfH (NK.nestKind (mixKind P w)) a xs:=by
 obtain⟨⟨xs,h1,h2,h3⟩,nd,sm,ln⟩:=x
 obtain⟨⟨o,es,ep,e1,e2,e3,e4⟩,_,_⟩:=(show ObjOk P w H h a (nobj P w a xs)from ok a _ h3)
 exact⟨xs,h1,o,es,ep,e1,e2,e3,e4,λy hy=>(h2 y hy).is ok,by rw[h1];exact nd⟩
theorem nobj_ok {xs:List (List (List Key)×Addr×Value)}{o:Obj}{es ep}(e1:h.get? a=some o)(e2:o.ExactDict)(e3:o.data=.dict es ep)(e4:es.toList=xs.map (entryOfKey (NK.nestKind (mixKind P w)))):ObjOk P w H h a (nobj P w a xs):=by
 refine⟨⟨o,es,ep,e1,e2,e3,e4⟩,⟨o,e1⟩,λh1 h2 x k=>?_⟩
 obtain⟨o,es,ep,f1,f2⟩:=x
 exact⟨o,es,ep,k _ f1,f2⟩
theorem atKey_mem {xs:List (List (List Key)×Addr×Value)}{k:List (List Key)}:(atKey xs k).isSome=true<->k∈xs.map (·.1):=by
 unfold atKey
 rw[Option.isSome_map,List.find?_isSome]
 constructor
 ·rintro⟨x,hx,e⟩
  exact List.mem_map.mpr ⟨x,hx,of_decide_eq_true e⟩
 ·intro c
  obtain⟨x,hx,e⟩:=List.mem_map.mp c
  exact⟨x,hx,decide_eq_true e⟩
end
section
variable {X:Cx}{pos:Pos}{i o:Expr}{ty td tv:TE}
def tDNewN (P:Program)(w:World):TE:=λ_ H Q=>∀p,H p=none->(p==sysModules)=false->Q (.ref p) (upd H p (nobj P w p []))
theorem pe_dnewN:PE X (.Dict [] [] pos) (tDNewN X.prog X.w):=λpins s Z H Q I h=>
 wpAny_Dict_empty ⟨.ref s.heap.objs.size,_,I.laid (a:=s.heap.objs.size) (o:=nobj X.prog X.w s.heap.objs.size []) (t':=s.toks) (λ_ _ q=>Heap.get?_push_of_some _ q) (Nat.le_refl _) (nobj_ok (Heap.get?_push_size _ rfl) ⟨rfl,rfl,rfl⟩ rfl rfl),rfl,
  h _ (I.hok.fresh (Nat.le_refl _)) (beq_eq_false_iff_ne.mpr (Ne.symm (Nat.ne_of_lt I.big)))⟩
theorem ND.new {P:Program}{w:World}{H:Hp}{p:Addr}(hp:(p==sysModules)=false):ND P w (upd H p (nobj P w p [])) p []:=⟨⟨[],rfl,(λx hx=>by cases hx),upd_same⟩,List.nodup_nil,hp,Nat.zero_le _⟩
def tDInN (P:Program)(w:World)(ty td:TE):TE:=λZ H Q=>ty Z H λy H1=>td Z H1 λx H2=>∃a b ks k,x=.ref a/\y=.ref b/\ND P w H2 a ks/\NKey H2 b k/\∃c:Bool,(c=true<->k∈ks)/\Q (.bl c) H2
theorem pc_dinN (hu:X.A.units+16<cLine)(hi:PE X i ty)(ho:PE X o td):PC X .In i o (tDInN X.prog X.w ty td):=by
 intro pins s Z H Q I h
 refine thn (hi pins s Z H _ I h) λiv s1 ⟨y,H1,I1,ry,q1⟩=>thn (ho pins s1 Z H1 _ I1 q1) λu s2 ⟨x,H2,I2,rx,a,b,ks,k,ex,ey,nd,nk,c,hc,q2⟩=>?_
 subst ex ey
 obtain rfl:u=Value.ref a:=rx
 obtain rfl:iv=Value.ref b:=ry
 obtain⟨xs,e,dd⟩:=nd.of I2.hok
 refine wpAny_in_heap (knd:=NK.nestKind (mixKind X.prog X.w)) (show X.A.in1.units+8<cLine by simp only[Around.in1_units];omega) (nk.is I2.hok) nd.sm dd ?_
 have z:(atKey xs k).isSome=c:=by
  rw[Bool.eq_iff_iff,atKey_mem,e,hc]
 exact⟨.bl c,H2,I2.tok _,by rw[z];rfl,q2⟩
def sDPutN (P:Program)(w:World)(td ty tv:TE):TS:=λD Z H=>tv Z H λv H1=>td Z H1 λx H2=>ty Z H2 λy H3=>∃a b ks k,x=.ref a/\y=.ref b/\ND P w H3 a ks/\NKey H3 b k/\k∉ks/\ks.length<sizeLine/\
 ∀H4:Hp,ND P w H4 a (ks++[k])->(∀c o,c≠a->H3 c=some o->H4 c=some o)->(∀c,c≠a->H3 c=none->H4 c=none)->D.nx Z H4
theorem ps_dputN {value:Expr}{pos':Pos}(hu:X.A.units+16<cLine)(ho:PE X o td)(hi:PE X i ty)(hv:PE X value tv)(hs:swapsWith value (some (.Subscript o i pos')) pos.line X.env=pure false):
  PS X (.Assign [.Subscript o i pos'] value pos) (sDPutN X.prog X.w td ty tv):=by
 intro pins s Z H D I h
 refine wpAny_Assign_Subscript (thn (hv pins s Z H _ I h) λr s1 ⟨v,H1,I1,rv,q1⟩=>thn (ho pins s1 Z H1 _ I1 q1) λu s2 ⟨x,H2,I2,rx,q2⟩=>thn (hi pins s2 Z H2 _ I2 q2) λiv s3 ⟨y,H3,I3,ry,a,b,ks,k,ex,ey,nd,nk,nin,ln,q3⟩=>?_) hs
 subst ex ey
 obtain rfl:u=Value.ref a:=rx
 obtain rfl:iv=Value.ref b:=ry
 obtain⟨⟨xs,h1,h2,h3⟩,nd1,nd2,nd3⟩:=id nd
 obtain⟨⟨oo,es,ep,e1,e2,e3,e4⟩,_,_⟩:=(show ObjOk X.prog X.w H3 s3.heap a (nobj X.prog X.w a xs)from I3.hok a _ h3)
 have dd:s3.heap.DictOfH (NK.nestKind (mixKind X.prog X.w)) a xs:=⟨oo,es,ep,e1,e2,e3,e4,λy hy=>(h2 y hy).is I3.hok,by rw[h1];exact nd1⟩
 have none_:atKey xs k=none:=by
  cases q:atKey xs k with
  |none=>rfl
  |some p=>
   have z:=(atKey_mem (xs:=xs) (k:=k)).mp (by rw[q];rfl)
   rw[h1]at z
   exact absurd z nin
 refine wpAny_setItem_heap (knd:=NK.nestKind (mixKind X.prog X.w)) (hsz:=by rw[<-List.length_map (f:=(·.1)) (as:=xs),h1];omega) (show X.A.in1.units+8<cLine by simp only[Around.in1_units];omega) (nk.is I3.hok) dd λh' dd' hs'=>?_
 rw[storedH_new none_]at dd'
 obtain⟨q,es',ep',f1,f2,f3,f4,_,f5⟩:=dd'
 have I4:=d_write (ob:=nobj X.prog X.w a (xs++[(k,b,r)])) (t':=s3.toks+(NK.nestKind (mixKind X.prog X.w)).draws k) I3 (by rw[h3];exact True.intro) hs' ⟨q,f1⟩ (nobj_ok f1 f2 f3 f4)
 have tups:∀c l,H3 c=some (.tup l)->upd H3 a (nobj X.prog X.w a (xs++[(k,b,r)])) c=some (.tup l):=λc l q=>by
  rw[upd_ne (ne_of q h3 (λz=>nomatch z))];exact q
 refine⟨Z,_,I4,q3 _ ⟨⟨_,by rw[List.map_append,h1];rfl,λy hy=>?_,upd_same⟩,?_,nd2,?_⟩ (λc o hc e=>by rw[upd_ne hc];exact e) λc hc e=>by rw[upd_ne hc];exact e⟩
 ·rcases List.mem_append.mp hy with z|z
  ·exact(h2 y z).same tups
  ·rw[List.mem_singleton.mp z];exact nk.same tups
 ·exact nd_snoc nd1 nin
 ·rw[List.length_append];show ks.length+1<=_;omega
theorem call_lenN:CallR X (.builtin "len") (λxs H Q=>∃a ks,xs=[V.ref a]/\ND X.prog X.w H a ks/\Q (.int ks.length) H):=by
 intro pins s Z H xs us Q I r h
 obtain⟨a,ks,rfl,ha,q⟩:=h
 obtain⟨u,rfl,ru⟩:=vals1 r
 cases ru
 obtain⟨vs,e,o,es,ep,e1,e2,e3,e4,_⟩:=ha.of I.hok
 have sz:es.size=ks.length:=by rw[<-Array.length_toList,e4,List.length_map,<-e,List.length_map]
 have z:=ha.ln
 refine DL.len_any ha.sm e1 e2 e3 (by rw[sz];rw[sizeLine_eq]at z;omega) ⟨.int ks.length,H,I.tok _,⟨s.toks+1,by rw[sz]⟩,q⟩
end
structure MD (P:Program)(w:World)(K:Fg)(d:Addr)(f:Key->Option V):Prop where
 ex:∃o es ep,K.lookup d=some o/\o.ExactDict/\o.data=.dict es ep/\KeysOf (mixKind P w) es/\∀k,RelO (f k) (findBy (mixKind P w).is es k)
 sm:(d==sysModules)=false
section
variable {X:Cx}{pos:Pos}{i o e1 e2:Expr}{ty td tx:TE}{d:Addr}{f:Key->Option V}
theorem MD.map {h:Heap}{P:Program}{w:World}{K:Fg}(m:MD P w K d f)(k:K.In h):∃g,h.MapOf (mixKind P w) d g/\∀k,RelO (f k) (g k):=by
 obtain⟨⟨o,es,ep,a,b,c,e,r⟩,_⟩:=m
 exact⟨_,⟨o,es,ep,k _ _ a,b,c,e,λ_=>rfl⟩,r⟩
def tMDGet (P:Program)(w:World)(K:Fg)(td ty:TE):TE:=λZ H Q=>td Z H λx H1=>ty Z H1 λy H2=>∃a f k v,x=.ref a/\y=kV k/\MD P w K a f/\f k=some v/\Q v H2
theorem pe_mdget (ho:PE X o td)(hi:PE X i ty)(hs:NoSl i):PE X (.Subscript o i pos) (tMDGet X.prog X.w X.K td ty):=by
 intro pins s Z H Q I h
 refine subD_of PySem.F.slot_dict_getitem.lookup hs (thn (ho pins s Z H _ I h) λu s1 ⟨x,H1,I1,rx,q1⟩=>thn (hi pins s1 Z H1 _ I1 q1) λiv s2 ⟨y,H2,I2,ry,a,f,k,v,ex,ey,md,l,q2⟩=>?_)
 subst ex ey
 obtain rfl:u=Value.ref a:=rx
 obtain⟨g,m,r⟩:=md.map I2.kIn
 obtain⟨w',hw,rw'⟩:=RelO.some_of (v:=v) (o:=g k) (by rw[<-l];exact r k)
 exact⟨m.typeIs,wpAny_getItem_of (kV_is ry) m hw ⟨v,H2,I2.tok _,rw',q2⟩⟩
end
section
variable {X:Cx}{CX:CXT}{E:XK}{x:Str}{p pos:Pos}{e:Expr}{es:List Expr}{t:TA}
def tCallL (FT:Addr->Sp->Prop)(i:Nat)(E:XK)(t:TA):TE:=λZ H Q=>∃f sp,Z[i]?=some (some (.ref f))/\FT f sp/\t Z H λvs H1=>sp vs H1 Q E
theorem pe_callL (FT:Addr->Sp->Prop)(i:Nat)(hF:∀f sp,FT f sp->PySem.W.keepIn X.K (.ref f)=true/\∃fd ps k,FnOk X.prog X.w X.K X.mg X.base CX k f fd ps sp/\Room k X.A/\Binds X.K fd ps [])(hN:X.N[i]?=some x)(hv:Vis X.env.scope x)(hx:Passes CX X E)
  (ha:PA X (e::es) t) (hd:(x==("__debug__":Str))=false:=by decide) (hcd:(x==("__classdict__":Str))=false:=by decide) (he:starEach (e::es) X.env=(false,eval e X.env)::starEach es X.env:=by rfl) (hpl:(backTo pos (starEach es X.env)).any (·.1)=false:=by rfl):
  PE X (.Call (.Name x p) (e::es) [] pos) (tCallL FT i E t):=by
 intro pins s Z H Q I h
 obtain⟨f,sp,hf,ft,h⟩:=h
 obtain⟨hk,fd,ps,k,F,hr,hb⟩:=hF f sp ft
 refine wpAny_Call_Name_kw (thn (pe_var (X:=X) hN hv hd hcd pins s Z H (λv H'=>v=.ref f/\H'=H) I ⟨_,hf,rfl,rfl⟩) λfv s0 ⟨v,H0,I0,rv,ev,eH⟩=>?_)
 subst ev eH
 obtain rfl:fv=Value.ref f:=rv
 refine PySem.W.callWith_K (h₀:=X.base) I0.ok.mod.kin hk (thn (ha pos pins s0 Z H0 _ I0 h) λus s1 ⟨vs,H1,I1,r,q⟩=>⟨I1.kIn,?_⟩) he hpl
 exact run_fn (dvs:=[]) (ds:=[]) F hr hb .nil hx I1 r (by rw[List.append_nil];exact q)
end
section
variable {X:Cx}{o e f:Expr}{apos cpos:Pos}{td ty tx:TE}
def tMDGet2 (P:Program)(w:World)(K:Fg)(td ty tx:TE):TE:=λZ H Q=>td Z H λx H1=>∃a g,x=.ref a/\MD P w K a g/\ty Z H1 λy H2=>tx Z H2 λz H3=>∃k,y=kV k/\Q ((g k).getD z) H3
theorem pe_mdget2 (ho:PE X o td)(he:PE X e ty)(hf:PE X f tx)(m:M2 X o "get" apos e f cpos):PE X (.Call (.Attribute o "get" apos) [e,f] [] cpos) (tMDGet2 X.prog X.w X.K td ty tx):=by
 intro pins s Z H Q I h
 refine wpAny_Call_method m.base m.few m.line PySem.F.plainAttrs_dict PySem.F.slot_dict_get PySem.F.type_dict_get (thn (ho pins s Z H _ I h) λu s1 ⟨x,H1,I1,rx,a,g,ex,md,q1⟩=>?_)
 subst ex
 obtain rfl:u=Value.ref a:=rx
 obtain⟨g1,m1,_⟩:=md.map I1.kIn
 refine⟨m1.typeIs,m1.noDict,?_⟩
 rw[m.trees]
 refine Calls.callWith_builtin rfl (Calls.evalArgs_plain (Calls.spliced_cons (thn (he pins s1 Z H1 _ I1 q1) λiv s2 ⟨y,H2,I2,ry,q2⟩=>
  Calls.spliced_cons (thn (hf pins s2 Z H2 _ I2 q2) λfv s3 ⟨z,H3,I3,rz,k,ey,q3⟩=>Calls.spliced_nil ?_))))
 subst ey
 obtain⟨g3,m3,r3⟩:=md.map I3.kIn
 exact call_meetsIn PySem.F.slot_dict_get m3.typeIs PySem.F.entry_dict_get (PySem.F.args_dict_get_3 _ _ _) (meets_dict_get_default (mixKind X.prog X.w) a (kV_is ry) md.sm fv) ⟨_,m3,_,H3,I3.tok _,(r3 k).getD rz,q3⟩
end
def Izt (K:Fg)(a b:Addr):It:=
 ⟨λi H=>∃(xs ys:List V) (x y:V),SqT K H a xs/\SqL K H b ys/\xs[i]?=some x/\ys[i]?=some y,
  λi H v H'=>∃T x y,v=.ref T/\H T=none/\H'=upd H T (.tup [x,y])/\(∀xs,SqT K H a xs->xs[i]?=some x)/\∀ys,SqL K H b ys->ys[i]?=some y,
  λi H=>∃xs ys:List V,SqT K H a xs/\SqL K H b ys/\(xs.length<=i\/ys.length<=i)⟩
theorem turn_zipT {P:Program}{w:World}{K:Fg}{elts:List Expr}{kk:Nat}{tpos:Pos}{a b z TI TO i1 i2:Addr}(D:ZipApart z TI TO i1 i2 a b):
  Turn P w K (.Tuple elts kk tpos) (Izt K a b) [z,TI,TO,i1,i2] z (λi h=>IsZip h z TI TO .none/\IsPair h TI (.ref i1) (.ref i2)/\(∃x y,IsPair h TO x y)/\h.IsTupleIter i1 a i/\h.IsListIter i2 b i) where
 mem:=by simp
 obj:=λi h st c hc=>by
  obtain⟨hz,hTI,⟨x,y,hTO⟩,⟨o1,e1,_,d1⟩,⟨o2,e2,_,d2⟩⟩:=st
  have e':c=z\/c=TI\/c=TO\/c=i1\/c=i2:=by simpa using hc
  rcases e' with q|q|q|q|q
  ·rw[q];exact⟨_,hz,λv q=>nomatch q⟩
  ·rw[q];exact⟨_,hTI,λv q=>nomatch q⟩
  ·rw[q];exact⟨_,hTO,λv q=>nomatch q⟩
  ·rw[q];exact⟨o1,e1,λv q=>by rw[d1]at q;cases q⟩
  ·rw[q];exact⟨o2,e2,λv q=>by rw[d2]at q;cases q⟩
 keep:=λi h h' st k=>by
  obtain⟨hz,hTI,⟨x,y,hTO⟩,⟨o1,e1,r1⟩,h2⟩:=st
  exact⟨k z (by simp) _ hz,k TI (by simp) _ hTI,⟨x,y,k TO (by simp) _ hTO⟩,⟨o1,k i1 (by simp) o1 e1,r1⟩,h2.at λo q=>k i2 (by simp) o q⟩
 item:=by
  intro X hP hw hK hc i pins s Z H E I hf st hg
  subst hP hw hK
  obtain⟨hz,hTI,⟨x0,y0,hTO⟩,h1,h2⟩:=st
  obtain⟨xs,ys,x,y,hqx,hqy,hx,hy⟩:=hg
  obtain⟨its,rv,p,_⟩:=I.tuple hqx
  obtain⟨its2,rv2,p2,_⟩:=I.list hqy
  obtain⟨u,hu,ru⟩:=rv.get hx
  obtain⟨u2,hu2,ru2⟩:=rv2.get hy
  have hzl:z<s.heap.objs.size:=Heap.lt_size hz
  refine ZT.pyNext_item D hz hTI hTO h1 h2 p p2.isList (x:=u) (y:=u2) (by simpa using hu) (by simpa using hu2) λh' z' TO' h1' h2' hT hsz hk=>?_
  refine⟨_,rfl,wpAny_letOwnedTupleGo_zip (s:={s with heap:=h'}) z' λh'' z'' sb=>?_⟩
  have hT2:h''.get? s.heap.objs.size=some {cls:=.type "tuple",data:=.seq #[u,u2]}:=(sb.2 _ (Nat.ne_of_gt hzl)).trans hT
  have new:ObjOk X.prog X.w (upd H s.heap.objs.size (.tup [x,y])) h'' s.heap.objs.size (.tup [x,y]):=
   ⟨by show 2<=sizeLine;decide,[u,u2],.cons ru (.cons ru2 .nil),⟨_,hT2,rfl,_,rfl⟩⟩
  have I1:Inv X pins Z (upd H s.heap.objs.size (.tup [x,y])) {s with heap:=h''}:=
   I.turnedNew (t':=s.toks) (ch:=[z,TI,TO,i1,i2]) (λc o hb q=>(sb.2 c (λq'=>hb (by simp[q']))).trans (hk c o (λq'=>hb (by simp[q'])) (λq'=>hb (by simp[q'])) (λq'=>hb (by simp[q'])) (λq'=>hb (by simp[q'])) q)) hf (Nat.le_refl _) new
  refine⟨.ref s.heap.objs.size,_,I1,rfl,⟨_,x,y,rfl,I.hok.fresh (Nat.le_refl _),rfl,λl hl=>by rw[I.tuple_inj hl hqx];exact hx,λl hl=>by rw[I.list_inj hl hqy];exact hy⟩,⟨z'',?_,⟨u,u2,?_⟩,?_,?_⟩,λc hcm=>?_⟩
  ·exact(sb.2 _ D.TIz).trans (hk _ _ D.TIz D.TITO D.TIi1 D.TIi2 hTI)
  ·exact(sb.2 _ D.TOz).trans TO'
  ·obtain⟨o1,e1,r1⟩:=h1';exact⟨o1,(sb.2 _ D.i1z).trans e1,r1⟩
  ·exact h2'.at λo q=>(sb.2 _ D.i2z).trans q
  ·have hlt:c<s.heap.objs.size:=by
    have e':c=z\/c=TI\/c=TO\/c=i1\/c=i2:=by simpa using hcm
    rcases e' with q|q|q|q|q
    ·rw[q];exact hzl
    ·rw[q];exact Heap.lt_size hTI
    ·rw[q];exact Heap.lt_size hTO
    ·rw[q];obtain⟨_,e1,_⟩:=h1;exact Heap.lt_size e1
    ·rw[q];obtain⟨_,e2,_⟩:=h2;exact Heap.lt_size e2
   rw[upd_ne (Nat.ne_of_lt hlt)]
   exact(hf c hcm).1
 done:=by
  intro X hP hw hK hc i pins s Z H E I hf st hg
  subst hP hw hK
  obtain⟨hz,hTI,⟨x0,y0,hTO⟩,h1,h2⟩:=st
  obtain⟨xs,ys,hqx,hqy,hend⟩:=hg
  obtain⟨its,rv,p,_⟩:=I.tuple hqx
  obtain⟨its2,rv2,p2,_⟩:=I.list hqy
  have l1:=rv.length
  have l2:=rv2.length
  have he:its.toArray[i]?=none\/its2.toArray[i]?=none:=by
   rcases hend with q|q
   ·exact .inl (by simp;omega)
   ·exact .inr (by simp;omega)
  exact ZT.pyNext_end (I.ok.hd hc) D hz hTI hTO h1 h2 p p2.isList he λh' hk=>⟨rfl,I.turnedL (t':=s.toks) (ch:=[z,TI,TO,i1,i2]) (λc o hb q=>
   hk c o (λq'=>hb (by simp[q'])) (λq'=>hb (by simp[q'])) (λq'=>hb (by simp[q'])) (λq'=>hb (by simp[q'])) q) hf⟩
 self:=λA i s Q E st h=>wpAny_pyIter_zip st.1 h
def iZipT (K:Fg)(ta:TA):TI:=λZ H R=>ta Z H λvs H1=>∃a b xs ys,vs=[.ref a,.ref b]/\SqT K H1 a xs/\SqL K H1 b ys/\R (Izt K a b) H1
theorem pi_zipT {X:Cx}{e e2:Expr}{ta:TA}{p pos tpos:Pos}{elts:List Expr}{kk:Nat}(hg:Gl X "zip")(hm:X.mg "zip"=none)(ha:PA X [e,e2] ta)
  (hs:starEach [e,e2] X.env=(false,eval e X.env)::starEach [e2] X.env:=by rfl) (hpl:(backTo pos (starEach [e2] X.env)).any (·.1)=false:=by rfl):
  PI X (.Tuple elts kk tpos) (.Call (.Name "zip" p) [e,e2] [] pos) (iZipT X.K ta):=by
 intro pins s Z H R I h
 refine Call_ (ld_blt I hg hm boot_zip5 (PyProof.Rows.callWith_type1 (thn (ha pos pins s Z H _ I h) λus s1 ⟨vs,H1,I1,r1,q1⟩=>?_) hs hpl))
 obtain⟨a,b,xs,ys,ex,hqx,hqy,q⟩:=q1
 subst ex
 cases r1 with
 |cons r rr=>
  cases rr with
  |cons r' rr=>
   cases rr
   cases r
   cases r'
   obtain⟨its,rv,p1,_⟩:=I1.tuple hqx
   obtain⟨its2,rv2,p2,_⟩:=I1.list hqy
   have la:a<s1.heap.objs.size:=p1.lt
   have lb:b<s1.heap.objs.size:=p2.lt
   refine ZT.call_zip p1 p2.isList λh' hz hTI hTO h1 h2 hsz hk=>wpAny_pyIter_zip hz ?_
   have I2:Inv X pins Z H1 {s1 with heap:=h'}:=I1.kept (t':=s1.toks) hk
   refine⟨s1.heap.objs.size+4,[s1.heap.objs.size+4,s1.heap.objs.size+2,s1.heap.objs.size+3,s1.heap.objs.size,s1.heap.objs.size+1],_,_,H1,rfl,I2,turn_zipT (PySem.W.ktu_apart s1.heap.objs.size a b la lb),⟨hz,hTI,⟨_,_,hTO⟩,h1,h2⟩,λc hcm=>?_,q⟩
   have e':c=s1.heap.objs.size+4\/c=s1.heap.objs.size+2\/c=s1.heap.objs.size+3\/c=s1.heap.objs.size\/c=s1.heap.objs.size+1:=by simpa using hcm
   have hle:s1.heap.objs.size<=c:=by
    rcases e' with z|z|z|z|z
    ·rw[z];exact Nat.le_add_right _ _
    ·rw[z];exact Nat.le_add_right _ _
    ·rw[z];exact Nat.le_add_right _ _
    ·rw[z];exact Nat.le_refl _
    ·rw[z];exact Nat.le_add_right _ _
   exact I1.fpOk hle (I1.hok.fresh hle)
end RR
namespace Vm
open PySem PySem.Spec PyProof.Rows L2 RR
abbrev Sg:=L2.St
def tE (X:Cx)(e:Expr):TE:=λZ H Q=>∀pins s,L2.Inv X pins Z H s->wpAny (model X.prog X.w) X.A (eval e X.env) (EP X pins Z Q) X.xe s
def tT (X:Cx)(e:Expr):TT:=λZ H Q=>∀pins s,L2.Inv X pins Z H s->wpAny (model X.prog X.w) X.A (isTrue e X.env (eval e X.env)) (TP X pins Z Q) X.xe s
def tA (X:Cx)(es:List Expr):TA:=λZ H Q=>∀pos pins s,L2.Inv X pins Z H s->wpAny (model X.prog X.w) X.A (spliced (backTo pos (starEach es X.env))) (AP X pins Z Q) X.xe s
def tS (X:Cx)(st:Stmt):TS:=λD Z H=>∀pins s,L2.Inv X pins Z H s->wpAny (model X.prog X.w) X.A (exec st X.env) (SP X pins D) X.xe s
def tB (X:Cx)(st:List Stmt):TS:=λD Z H=>∀pins s,L2.Inv X pins Z H s->wpAny (model X.prog X.w) X.A (execs st X.env) (SP X pins D) X.xe s
section
variable {X:Cx}
theorem okE (e:Expr):PE X e (tE X e):=λpins s Z H Q I h=>h pins s I
theorem okT (e:Expr):PT X e (tT X e):=λpins s Z H Q I h=>h pins s I
theorem okA (es:List Expr):PA X es (tA X es):=λpos pins s Z H Q I h=>h pos pins s I
theorem okS (st:Stmt):PS X st (tS X st):=λpins s Z H D I h=>h pins s I
theorem okB (st:List Stmt):PSs X st (tB X st):=λpins s Z H D I h=>h pins s I
theorem goE {e:Expr}{t:TE}{Z:Sg}{H:Hp}{Q:VK}(h:PE X e t)(q:t Z H Q):tE X e Z H Q:=λpins s I=>h pins s Z H Q I q
theorem goT {e:Expr}{t:TT}{Z:Sg}{H:Hp}{Q:Bool->Hp->Prop}(h:PT X e t)(q:t Z H Q):tT X e Z H Q:=λpins s I=>h pins s Z H Q I q
theorem goA {es:List Expr}{t:TA}{Z:Sg}{H:Hp}{Q:List V->Hp->Prop}(h:PA X es t)(q:t Z H Q):tA X es Z H Q:=λpos pins s I=>h pos pins s Z H Q I q
theorem goS {st:Stmt}{t:TS}{Z:Sg}{H:Hp}{D:Ends}(h:PS X st t)(q:t D Z H):tS X st D Z H:=λpins s I=>h pins s Z H D I q
theorem goB {st:List Stmt}{t:TS}{Z:Sg}{H:Hp}{D:Ends}(h:PSs X st t)(q:t D Z H):tB X st D Z H:=λpins s I=>h pins s Z H D I q
theorem tE.mono {e:Expr}{Z:Sg}{H:Hp}{Q Q':VK}(h:tE X e Z H Q)(k:∀v H',Q v H'->Q' v H'):tE X e Z H Q':=λpins s I=>thn (h pins s I) λu s' ⟨v,H',a,b,c⟩=>⟨v,H',a,b,k v H' c⟩
def EvP (X:Cx)(e:Expr)(Z:Sg)(H:Hp)(P:V->Hp->Prop):Prop:=∀Q:VK,(∀v H',Same H H'->P v H'->Q v H')->tE X e Z H Q
def Ev (X:Cx)(e:Expr)(Z:Sg)(H:Hp)(v:V):Prop:=∀Q:VK,(∀H',Same H H'->Q v H')->tE X e Z H Q
def Tv (X:Cx)(e:Expr)(Z:Sg)(H:Hp)(b:Bool):Prop:=∀Q:Bool->Hp->Prop,(∀H',Same H H'->Q b H')->tT X e Z H Q
def Av (X:Cx)(es:List Expr)(Z:Sg)(H:Hp)(vs:List V):Prop:=∀Q:List V->Hp->Prop,(∀H',Same H H'->Q vs H')->tA X es Z H Q
variable {Z:Sg}{H:Hp}{pos apos pos':Pos}{e a b:Expr}{es:List Expr}{x:Str}{v:V}
theorem Ev.to {w:V}(h:Ev X e Z H v)(q:v=w):Ev X e Z H w:=q▸h
theorem Tv.to {b c:Bool}(h:Tv X e Z H b)(q:b=c):Tv X e Z H c:=q▸h
theorem var (i:Nat){p:Pos}(h:Z[i]?=some (some v):=by rfl)(hN:X.N[i]?=some x:=by rfl)(hv:Vis X.env.scope x:=by first|exact Or.inl rfl|exact Or.inr (Or.inl rfl)|exact Or.inr (Or.inr rfl))(hd:(x==("__debug__":Str))=false:=by decide)
  (hcd:(x==("__classdict__":Str))=false:=by decide):Ev X (.Name x p) Z H v:=λQ q=>goE (pe_var hN hv hd hcd) ⟨v,h,q H (Same.refl H)⟩
theorem int_ {i j}:Ev X (.Constant (.int i) j pos) Z H (.int i):=λQ q=>goE pe_int (q H (Same.refl H))
theorem bl_ {i j}:Ev X (.Constant (.bool i) j pos) Z H (.bl i):=λQ q=>goE pe_bl (q H (Same.refl H))
def Gv (mg:Str->Option Value)(x:Str)(v:V):Prop:=∃u,mg x=some u/\RelV v u
theorem glob {p:Pos}(h:Gv X.mg x v)(hg:Gl X x:=by rfl)(hd:(x==("__debug__":Str))=false:=by decide):Ev X (.Name x p) Z H v:=λQ q=>by
 obtain⟨u,hm,r⟩:=h
 exact goE (pe_glob hg hm r hd) (q H (Same.refl H))
theorem fld {ad C dx:Addr}{fs:List (Str×V)}{f:Str}(h:Ev X e Z H (.ref ad))(hH:H ad=some (.ins C dx fs))(c:Cls X.K C)(n:NoAttr X.K C f)(l:fs.lookup f=some v)(hb:attributeBase e f X.env (eval e X.env)=eval e X.env:=by rfl):Ev X (.Attribute e f pos) Z H v:=
 λQ q=>goE (pe_fld (okE e) hb) (h _ λH1 s1=>⟨ad,C,dx,fs,v,rfl,s1 _ _ hH,c,n,l,q H1 s1⟩)
theorem two {r:R2}{u w:V}(ha:Ev X a Z H u)(hb:∀H1,Same H H1->Ev X b Z H1 w)(hr:∀H2,Same H H2->∀Q:VK,(∀H',Same H2 H'->Q v H')->r u w H2 Q)(Q:VK)(q:∀H',Same H H'->Q v H'):tOp r (tE X a) (tE X b) Z H Q:=
 ha _ λH1 s1=>hb H1 s1 _ λH2 s2=>hr H2 (s1.trans s2) Q λH3 s3=>q H3 ((s1.trans s2).trans s3)
theorem add {i j:Int}(ha:Ev X a Z H (.int i))(hb:∀H1,Same H H1->Ev X b Z H1 (.int j)):Ev X (.BinOp a .Add b pos) Z H (.int (i+j)):=λQ q=>goE (pe_op op_add (okE a) (okE b)) (two ha hb (λH2 _ Q q=>⟨i,j,rfl,rfl,q H2 (Same.refl _)⟩) Q q)
theorem sub {i j:Int}(ha:Ev X a Z H (.int i))(hb:∀H1,Same H H1->Ev X b Z H1 (.int j)):Ev X (.BinOp a .Sub b pos) Z H (.int (i-j)):=λQ q=>goE (pe_op op_sub (okE a) (okE b)) (two ha hb (λH2 _ Q q=>⟨i,j,rfl,rfl,q H2 (Same.refl _)⟩) Q q)
theorem eq_ {u w:V}(ha:Ev X a Z H u)(hb:∀H1,Same H H1->Ev X b Z H1 w)(hs:scal u w=true:=by rfl):Ev X (.Compare a [.Eq] [b] pos) Z H (.bl (decide (u=w))):=λQ q=>goE (pe_cmpR op_eq (okE a) (okE b) (nomark _)) (two ha hb (λH2 _ Q q=>⟨hs,q H2 (Same.refl _)⟩) Q q)
theorem ne_ {u w:V}(ha:Ev X a Z H u)(hb:∀H1,Same H H1->Ev X b Z H1 w)(hs:scal u w=true:=by rfl):Ev X (.Compare a [.NotEq] [b] pos) Z H (.bl (!decide (u=w))):=λQ q=>goE (pe_cmpR op_ne (okE a) (okE b) (nomark _)) (two ha hb (λH2 _ Q q=>⟨hs,q H2 (Same.refl _)⟩) Q q)
theorem gt {i j:Int}(ha:Ev X a Z H (.int i))(hb:∀H1,Same H H1->Ev X b Z H1 (.int j)):Ev X (.Compare a [.Gt] [b] pos) Z H (.bl (decide (j<i))):=λQ q=>goE (pe_cmpR op_gt (okE a) (okE b) (nomark _)) (two ha hb (λH2 _ Q q=>⟨i,j,rfl,rfl,q H2 (Same.refl _)⟩) Q q)
theorem ixL {p:Addr}{xs:List V}{i:Int}(ha:Ev X a Z H (.ref p))(hb:∀H1,Same H H1->Ev X b Z H1 (.int i))(hs:SqL X.K H p xs)(h:atI xs i=some v)(hp:PlainIx b:=by exact λ_ _=>rfl):Ev X (.Subscript a b pos) Z H v:=
 λQ q=>goE (pe_ix ix_list (okE a) (okE b) hp) (two ha hb (λH2 s2 Q q=>⟨p,xs,i,v,rfl,rfl,s2.seq hs,h,q H2 (Same.refl _)⟩) Q q)
theorem sqT {K:Fg}{H H':Hp}{p:Addr}{xs:List V}(s:Same H H')(h:SqT K H p xs):SqT K H' p xs:=by
 rcases h with (h|⟨o,h⟩)|h
 ·exact .inl (.inl (s _ _ h))
 ·exact .inl (.inr ⟨o,s _ _ h⟩)
 ·exact .inr h
theorem ixT {p:Addr}{xs:List V}{i:Int}(ha:Ev X a Z H (.ref p))(hb:∀H1,Same H H1->Ev X b Z H1 (.int i))(hs:SqT X.K H p xs)(h:atI xs i=some v)(hp:PlainIx b:=by exact λ_ _=>rfl):Ev X (.Subscript a b pos) Z H v:=
 λQ q=>goE (pe_ix ix_tup (okE a) (okE b) hp) (two ha hb (λH2 s2 Q q=>⟨p,xs,i,v,rfl,rfl,sqT s2 hs,h,q H2 (Same.refl _)⟩) Q q)
theorem inD {p:Addr}{o:Option V}{y:V}(hu:X.A.units+1<cLine)(ha:Ev X a Z H y)(hb:∀H1,Same H H1->Ev X b Z H1 (.ref p))(hd:∀H1,Same H H1->DGet H1 p y o)(hm:behindInMarks .In b=false:=by with_unfolding_all rfl):Ev X (.Compare a [.In] [b] pos) Z H (.bl o.isSome):=
 λQ q=>goE (pe_cmp (pc_din hu (okE a) (okE b)) hm) (ha _ λH1 s1=>hb H1 s1 _ λH2 s2=>⟨p,_,rfl,hd H2 (s1.trans s2),q H2 (s1.trans s2)⟩)
theorem notInD {p:Addr}{o:Option V}{y:V}(hu:X.A.units+1<cLine)(ha:Ev X a Z H y)(hb:∀H1,Same H H1->Ev X b Z H1 (.ref p))(hd:∀H1,Same H H1->DGet H1 p y o)(hm:behindInMarks .NotIn b=false:=by with_unfolding_all rfl):Ev X (.Compare a [.NotIn] [b] pos) Z H (.bl (!o.isSome)):=
 λQ q=>goE (pe_cmp (pc_dnotin hu (okE a) (okE b)) hm) (ha _ λH1 s1=>hb H1 s1 _ λH2 s2=>⟨p,_,rfl,hd H2 (s1.trans s2),q H2 (s1.trans s2)⟩)
theorem nil:Av X [] Z H []:=λQ q=>goA pa_nil (q H (Same.refl H))
theorem cons {vs:List V}(h:Ev X e Z H v)(h2:∀H1,Same H H1->Av X es Z H1 vs)(hs:starEach (e::es) X.env=(false,eval e X.env)::starEach es X.env:=by rfl):Av X (e::es) Z H (v::vs):=
 λQ q=>goA (pa_cons (okE e) (okA es) hs) (h _ λH1 s1=>h2 H1 s1 _ λH2 s2=>q H2 (s1.trans s2))
theorem one (h:Ev X e Z H v)(hs:starEach [e] X.env=(false,eval e X.env)::starEach [] X.env:=by rfl):Av X [e] Z H [v]:=cons h (λ_ _=>nil) hs
def spv (R:List V->Hp->V->Prop):Sp:=λvs H Q _=>∃v,R vs H v/\∀H',Same H H'->Q v H'
def spp (R:List V->Hp->(V->Hp->Prop)->Prop):Sp:=λvs H Q _=>∃P,R vs H P/\∀v H',Same H H'->P v H'->Q v H'
structure Fn (P:Program)(w:World)(K:Fg)(mg:Str->Option Value)(base:Heap)(k:Nat)(x:Str)(ps:List Str)(sp:Sp):Prop where
 ex:∃f fd,mg x=some (.ref f)/\PySem.W.keepIn K (.ref f)=true/\FnOk P w K mg base CX0 k f fd ps sp/\Binds K fd ps []
theorem callE {k:Nat}{ps:List Str}{sp:Sp}{p:Pos}{Q:VK}(F:Fn X.prog X.w X.K X.mg X.base k x ps sp)(hr:Room k X.A)(h:tA X (e::es) Z H λvs H1=>sp vs H1 Q E0)(hg:Gl X x:=by rfl)(hdb:(x==("__debug__":Str))=false:=by decide)
  (he:starEach (e::es) X.env=(false,eval e X.env)::starEach es X.env:=by rfl) (hpl:(backTo pos (starEach es X.env)).any (·.1)=false:=by rfl):tE X (.Call (.Name x p) (e::es) [] pos) Z H Q:=by
 obtain⟨f,fd,hm,hk,G,b⟩:=F.ex
 refine goE (pe_call (dvs:=[]) (ds:=[]) (E:=E0) G hr hg hm hk b .nil pass0 (okA (e::es)) hdb he hpl) (λpos pins s I=>thn (h pos pins s I) λus s' ⟨vs,H',I',r,q⟩=>⟨vs,H',I',r,?_⟩)
 show sp (vs++[]) H' Q E0;rw[List.append_nil];exact q
theorem call {k:Nat}{ps:List Str}{R:List V->Hp->V->Prop}{vs:List V}{p:Pos}(F:Fn X.prog X.w X.K X.mg X.base k x ps (spv R))(hr:Room k X.A)(h:Av X (e::es) Z H vs)(hR:∀H1,Same H H1->R vs H1 v)(hg:Gl X x:=by rfl)(hdb:(x==("__debug__":Str))=false:=by decide)
  (he:starEach (e::es) X.env=(false,eval e X.env)::starEach es X.env:=by rfl) (hpl:(backTo pos (starEach es X.env)).any (·.1)=false:=by rfl):Ev X (.Call (.Name x p) (e::es) [] pos) Z H v:=
 λQ q=>callE F hr (h _ λH1 s1=>⟨v,hR H1 s1,λH2 s2=>q H2 (s1.trans s2)⟩) hg hdb he hpl
theorem callP {k:Nat}{ps:List Str}{R:List V->Hp->(V->Hp->Prop)->Prop}{vs:List V}{p:Pos}{P:V->Hp->Prop}(F:Fn X.prog X.w X.K X.mg X.base k x ps (spp R))(hr:Room k X.A)(h:Av X (e::es) Z H vs)(hR:∀H1,Same H H1->∃P1,R vs H1 P1/\∀v H2,Same H1 H2->P1 v H2->P v H2)(hg:Gl X x:=by rfl)(hdb:(x==("__debug__":Str))=false:=by decide)
  (he:starEach (e::es) X.env=(false,eval e X.env)::starEach es X.env:=by rfl) (hpl:(backTo pos (starEach es X.env)).any (·.1)=false:=by rfl):EvP X (.Call (.Name x p) (e::es) [] pos) Z H P:=
 λQ q=>callE F hr (h _ λH1 s1=>by
  obtain⟨P1,r,k⟩:=hR H1 s1
  exact⟨P1,r,λv H2 s2 z=>q v H2 (s1.trans s2) (k v H2 s2 z)⟩) hg hdb he hpl
theorem blt {id:String}{r:List V->Hp->VK->Prop}{p:Pos}{vs:List V}(hc:CallR X (.builtin id) r)(hv:bootBuiltins x=some (.builtin id))(hm:X.mg x=none)(h:Av X (e::es) Z H vs)(hr:∀H1,Same H H1->∀Q:VK,(∀H',Same H1 H'->Q v H')->r vs H1 Q)(hg:Gl X x:=by rfl)
  (hn:x≠"__name__":=by decide) (hdb:(x==("__debug__":Str))=false:=by decide) (he:starEach (e::es) X.env=(false,eval e X.env)::starEach es X.env:=by rfl) (hpl:(backTo pos (starEach es X.env)).any (·.1)=false:=by rfl):Ev X (.Call (.Name x p) (e::es) [] pos) Z H v:=
 λQ q=>goE (pe_callB hc hg hm hv (okA (e::es)) hn hdb he hpl) (h _ λH1 s1=>hr H1 s1 Q λH2 s2=>q H2 (s1.trans s2))
theorem lenL {ad:Addr}{xs:List V}{p:Pos}(hm:X.mg "len"=none)(h:Ev X e Z H (.ref ad))(hs:SqL X.K H ad xs)(hst:starEach [e] X.env=(false,eval e X.env)::starEach [] X.env:=by rfl)(hg:Gl X "len":=by rfl)(hpl:(backTo pos (starEach [] X.env)).any (·.1)=false:=by rfl):Ev X (.Call (.Name "len" p) [e] [] pos) Z H (.int xs.length):=
 blt call_len_seq PySem.boot_len hm (one h hst) (λH1 s1 Q q=>⟨ad,xs,rfl,.inl (s1.seq hs),q H1 (Same.refl _)⟩) hg (he:=hst) (hpl:=hpl)
theorem lenTu {ad:Addr}{xs:List V}{p:Pos}(hm:X.mg "len"=none)(h:Ev X e Z H (.ref ad))(hs:SqT X.K H ad xs)(hst:starEach [e] X.env=(false,eval e X.env)::starEach [] X.env:=by rfl)(hg:Gl X "len":=by rfl)(hpl:(backTo pos (starEach [] X.env)).any (·.1)=false:=by rfl):Ev X (.Call (.Name "len" p) [e] [] pos) Z H (.int xs.length):=
 blt call_len_seq PySem.boot_len hm (one h hst) (λH1 s1 Q q=>⟨ad,xs,rfl,.inr (sqT s1 hs),q H1 (Same.refl _)⟩) hg (he:=hst) (hpl:=hpl)
theorem lenD {ad:Addr}{kvs:List (Key×V)}{p:Pos}(hm:X.mg "len"=none)(h:Ev X e Z H (.ref ad))(hs:H ad=some (.dK kvs))(hst:starEach [e] X.env=(false,eval e X.env)::starEach [] X.env:=by rfl)(hg:Gl X "len":=by rfl)(hpl:(backTo pos (starEach [] X.env)).any (·.1)=false:=by rfl):Ev X (.Call (.Name "len" p) [e] [] pos) Z H (.int kvs.length):=
 blt call_lenD PySem.boot_len hm (one h hst) (λH1 s1 Q q=>⟨ad,kvs,rfl,s1 _ _ hs,q H1 (Same.refl _)⟩) hg (he:=hst) (hpl:=hpl)
theorem lenDT {ad:Addr}{kvs:List (List Key×V)}{p:Pos}(hm:X.mg "len"=none)(h:Ev X e Z H (.ref ad))(hs:H ad=some (.dT kvs))(hst:starEach [e] X.env=(false,eval e X.env)::starEach [] X.env:=by rfl)(hg:Gl X "len":=by rfl)(hpl:(backTo pos (starEach [] X.env)).any (·.1)=false:=by rfl):Ev X (.Call (.Name "len" p) [e] [] pos) Z H (.int kvs.length):=
 blt call_lenT PySem.boot_len hm (one h hst) (λH1 s1 Q q=>⟨ad,kvs,rfl,s1 _ _ hs,q H1 (Same.refl _)⟩) hg (he:=hst) (hpl:=hpl)
theorem lenDN {ad:Addr}{ks:List (List (List Key))}{p:Pos}(hm:X.mg "len"=none)(h:Ev X e Z H (.ref ad))(hs:ND X.prog X.w H ad ks)(hst:starEach [e] X.env=(false,eval e X.env)::starEach [] X.env:=by rfl)(hg:Gl X "len":=by rfl)(hpl:(backTo pos (starEach [] X.env)).any (·.1)=false:=by rfl):Ev X (.Call (.Name "len" p) [e] [] pos) Z H (.int ks.length):=
 blt call_lenN PySem.boot_len hm (one h hst) (λH1 s1 Q q=>⟨ad,ks,rfl,hs.same s1,q H1 (Same.refl _)⟩) hg (he:=hst) (hpl:=hpl)
structure Mt (P:Program)(w:World)(K:Fg)(mg:Str->Option Value)(base:Heap)(k:Nat)(C:Addr)(m:Str)(ps:List Str)(sp:Sp):Prop where
 ex:∃f fd,Meth K C m f/\FnOk P w K mg base CX0 k f fd ps sp/\Binds K fd ps []
 cl:Cls K C
theorem tup {vs:List V}{j}(h:Av X es Z H vs)(hl:vs.length<=1000:=by exact Nat.le_of_ble_eq_true rfl):EvP X (.Tuple es j pos) Z H (λv H'=>∃p,v=.ref p/\H p=none/\H' p=some (.tup vs)):=
 λQ q=>goE (pe_tup (okA es)) (h _ λH1 s1=>⟨Nat.le_of_lt (small1000 hl),λp hp=>q _ _ (λc o e=>by rw[upd_ne (ne_of_none (s1 _ _ e) hp)];exact s1 _ _ e) ⟨p,rfl,s1.free hp,upd_same⟩⟩)
theorem lst {vs:List V}(h:Av X es Z H vs)(hl:vs.length<=1000:=by exact Nat.le_of_ble_eq_true rfl):EvP X (.List es pos) Z H (λv H'=>∃p,v=.ref p/\H p=none/\H' p=some (.lst vs)):=
 λQ q=>goE (pe_lst (okA es)) (h _ λH1 s1=>⟨Nat.le_of_lt (small1000 hl),λp hp=>q _ _ (λc o e=>by rw[upd_ne (ne_of_none (s1 _ _ e) hp)];exact s1 _ _ e) ⟨p,rfl,s1.free hp,upd_same⟩⟩)
theorem tv {bb:Bool}(h:Ev X e Z H (.bl bb))(he:∀whole,isTrue e X.env whole=(do let v<-whole;standAt e.pos;holding [v] (truthy v)):=by intro _;rfl):Tv X e Z H bb:=λQ q=>goT (pt_val (okE e) he) (h _ λH1 s1=>⟨bb,rfl,q H1 s1⟩)
theorem tcmp {op:CmpOp}{r:R2}{bb:Bool}{u w:V}(ho:OpR X (compareOp op) r)(ha:Ev X a Z H u)(hb:∀H1,Same H H1->Ev X b Z H1 w)(hr:∀H2,Same H H2->∀Q:VK,(∀H',Same H2 H'->Q (.bl bb) H')->r u w H2 Q)(hm:behindInMarks op b=false):Tv X (.Compare a [op] [b] pos) Z H bb:=
 λQ q=>goT (pt_cmpR ho (okE a) (okE b) hm) (two ha hb hr (λz H'=>∃k,z=.bl k/\Q k H') λH' s'=>⟨bb,rfl,q H' s'⟩)
theorem teq {u w:V}(ha:Ev X a Z H u)(hb:∀H1,Same H H1->Ev X b Z H1 w)(hs:scal u w=true:=by rfl):Tv X (.Compare a [.Eq] [b] pos) Z H (decide (u=w)):=tcmp op_eq ha hb (λH2 _ Q q=>⟨hs,q H2 (Same.refl _)⟩) (nomark _)
theorem tne {u w:V}(ha:Ev X a Z H u)(hb:∀H1,Same H H1->Ev X b Z H1 w)(hs:scal u w=true:=by rfl):Tv X (.Compare a [.NotEq] [b] pos) Z H (!decide (u=w)):=tcmp op_ne ha hb (λH2 _ Q q=>⟨hs,q H2 (Same.refl _)⟩) (nomark _)
theorem tlt {i j:Int}(ha:Ev X a Z H (.int i))(hb:∀H1,Same H H1->Ev X b Z H1 (.int j)):Tv X (.Compare a [.Lt] [b] pos) Z H (decide (i<j)):=tcmp op_lt ha hb (λH2 _ Q q=>⟨i,j,rfl,rfl,q H2 (Same.refl _)⟩) (nomark _)
theorem tle {i j:Int}(ha:Ev X a Z H (.int i))(hb:∀H1,Same H H1->Ev X b Z H1 (.int j)):Tv X (.Compare a [.LtE] [b] pos) Z H (decide (i<=j)):=tcmp op_le ha hb (λH2 _ Q q=>⟨i,j,rfl,rfl,q H2 (Same.refl _)⟩) (nomark _)
theorem tgt {i j:Int}(ha:Ev X a Z H (.int i))(hb:∀H1,Same H H1->Ev X b Z H1 (.int j)):Tv X (.Compare a [.Gt] [b] pos) Z H (decide (j<i)):=tcmp op_gt ha hb (λH2 _ Q q=>⟨i,j,rfl,rfl,q H2 (Same.refl _)⟩) (nomark _)
theorem tge {i j:Int}(ha:Ev X a Z H (.int i))(hb:∀H1,Same H H1->Ev X b Z H1 (.int j)):Tv X (.Compare a [.GtE] [b] pos) Z H (decide (j<=i)):=tcmp op_ge ha hb (λH2 _ Q q=>⟨i,j,rfl,rfl,q H2 (Same.refl _)⟩) (nomark _)
theorem tinD {p:Addr}{o:Option V}{y:V}(hu:X.A.units+1<cLine)(ha:Ev X a Z H y)(hb:∀H1,Same H H1->Ev X b Z H1 (.ref p))(hd:∀H1,Same H H1->DGet H1 p y o)(hm:behindInMarks .In b=false:=by with_unfolding_all rfl):Tv X (.Compare a [.In] [b] pos) Z H o.isSome:=
 λQ q=>goT (pt_cmp (pc_din hu (okE a) (okE b)) hm) (ha _ λH1 s1=>hb H1 s1 _ λH2 s2=>⟨p,_,rfl,hd H2 (s1.trans s2),_,rfl,q H2 (s1.trans s2)⟩)
theorem tnotInD {p:Addr}{o:Option V}{y:V}(hu:X.A.units+1<cLine)(ha:Ev X a Z H y)(hb:∀H1,Same H H1->Ev X b Z H1 (.ref p))(hd:∀H1,Same H H1->DGet H1 p y o)(hm:behindInMarks .NotIn b=false:=by with_unfolding_all rfl):Tv X (.Compare a [.NotIn] [b] pos) Z H (!o.isSome):=
 λQ q=>goT (pt_cmp (pc_dnotin hu (okE a) (okE b)) hm) (ha _ λH1 s1=>hb H1 s1 _ λH2 s2=>⟨p,_,rfl,hd H2 (s1.trans s2),_,rfl,q H2 (s1.trans s2)⟩)
theorem tnot {bb:Bool}(h:Tv X a Z H bb):Tv X (.UnaryOp .Not a pos) Z H (!bb):=λQ q=>goT (pt_not (okT a)) (h _ λH1 s1=>q H1 s1)
def Wv (X:Cx)(e:Expr)(Z:Sg)(H:Hp)(b:Bool):Prop:=∀Q:Bool->Hp->Prop,(∀H',Same H H'->Q b H')->∀(whole:Sem Value) pins s,L2.Inv X pins Z H s->wpAny (model X.prog X.w) X.A (isTrue e X.env whole) (TP X pins Z Q) X.xe s
def tW (X:Cx)(e:Expr):TT:=λZ H Q=>∀(whole:Sem Value) pins s,L2.Inv X pins Z H s->wpAny (model X.prog X.w) X.A (isTrue e X.env whole) (TP X pins Z Q) X.xe s
theorem okW (e:Expr):PW X e (tW X e):=λwhole pins s Z H Q I h=>h whole pins s I
theorem Wv.tv {bb:Bool}(h:Wv X e Z H bb):Tv X e Z H bb:=λQ q pins s I=>h Q q _ pins s I
theorem wor1 {bb:Bool}(h:Tv X a Z H bb):Wv X (.BoolOp .Or [a] pos) Z H bb:=λQ q whole pins s I=>pw_or1 (okT a) whole pins s Z H Q I (h Q q)
theorem wand1 {bb:Bool}(h:Tv X a Z H bb):Wv X (.BoolOp .And [a] pos) Z H bb:=λQ q whole pins s I=>pw_and1 (okT a) whole pins s Z H Q I (h Q q)
theorem wor {c:Expr}{rest:List Expr}{a1 b1:Bool}(h:Tv X a Z H a1)(h2:a1=false->∀H1,Same H H1->Wv X (.BoolOp .Or (c::rest) pos) Z H1 b1):Wv X (.BoolOp .Or (a::c::rest) pos) Z H (a1||b1):=λQ q whole pins s I=>
 pw_or (okT a) (okW (.BoolOp .Or (c::rest) pos)) whole pins s Z H Q I (h _ λH1 s1=>by
  cases a1 with
  |true=>rw[if_pos rfl];exact q H1 s1
  |false=>rw[if_neg Bool.false_ne_true];exact λwhole pins s I=>h2 rfl H1 s1 Q (λH2 s2=>q H2 (s1.trans s2)) whole pins s I)
theorem wand {c:Expr}{rest:List Expr}{a1 b1:Bool}(h:Tv X a Z H a1)(h2:a1=true->∀H1,Same H H1->Wv X (.BoolOp .And (c::rest) pos) Z H1 b1):Wv X (.BoolOp .And (a::c::rest) pos) Z H (a1&&b1):=λQ q whole pins s I=>
 pw_and (okT a) (okW (.BoolOp .And (c::rest) pos)) whole pins s Z H Q I (h _ λH1 s1=>by
  cases a1 with
  |true=>rw[if_pos rfl];exact λwhole pins s I=>h2 rfl H1 s1 Q (λH2 s2=>q H2 (s1.trans s2)) whole pins s I
  |false=>rw[if_neg Bool.false_ne_true];exact q H1 s1)
theorem vone {op}(h:Ev X a Z H v):Ev X (.BoolOp op [a] pos) Z H v:=λQ q=>goE (pe_one (okE a)) (h Q q)
theorem vor {c:Expr}{rest:List Expr}{a1 b1:Bool}(h:Ev X a Z H (.bl a1))(h2:a1=false->∀H1,Same H H1->Ev X (.BoolOp .Or (c::rest) pos) Z H1 (.bl b1)):Ev X (.BoolOp .Or (a::c::rest) pos) Z H (.bl (a1||b1)):=λQ q=>goE (pe_or (okE a) (okE (.BoolOp .Or (c::rest) pos))) (h _ λH1 s1=>⟨a1,rfl,by
  cases a1 with
  |true=>rw[if_pos rfl];exact q H1 s1
  |false=>rw[if_neg Bool.false_ne_true];exact h2 rfl H1 s1 Q λH2 s2=>q H2 (s1.trans s2)⟩)
theorem vand {c:Expr}{rest:List Expr}{a1 b1:Bool}(h:Ev X a Z H (.bl a1))(h2:a1=true->∀H1,Same H H1->Ev X (.BoolOp .And (c::rest) pos) Z H1 (.bl b1)):Ev X (.BoolOp .And (a::c::rest) pos) Z H (.bl (a1&&b1)):=λQ q=>goE (pe_and (okE a) (okE (.BoolOp .And (c::rest) pos))) (h _ λH1 s1=>⟨a1,rfl,by
  cases a1 with
  |true=>rw[if_pos rfl];exact h2 rfl H1 s1 Q λH2 s2=>q H2 (s1.trans s2)
  |false=>rw[if_neg Bool.false_ne_true];exact q H1 s1⟩)
theorem vnot {bb:Bool}(h:Ev X a Z H (.bl bb)):Ev X (.UnaryOp .Not a pos) Z H (.bl (!bb)):=λQ q=>goE (pe_not (okE a)) (h _ λH1 s1=>⟨bb,rfl,q H1 s1⟩)
theorem ifx {c:Expr}{bb:Bool}(h:Tv X c Z H bb)(h1:bb=true->∀H1,Same H H1->Ev X a Z H1 v)(h2:bb=false->∀H1,Same H H1->Ev X b Z H1 v):Ev X (.IfExp c a b pos) Z H v:=λQ q=>goE (pe_ifExp (okT c) (okE a) (okE b)) (h _ λH1 s1=>by
  cases bb with
  |true=>rw[if_pos rfl];exact h1 rfl H1 s1 Q λH2 s2=>q H2 (s1.trans s2)
  |false=>rw[if_neg Bool.false_ne_true];exact h2 rfl H1 s1 Q λH2 s2=>q H2 (s1.trans s2))
variable {D:Ends}{st:Stmt}{rest:List Stmt}
theorem bnil (h:D.nx Z H):tB X [] D Z H:=goB pss_nil h
theorem bcons (h:tS X st {D with nx:=λZ' H'=>tB X rest D Z' H'} Z H):tB X (st::rest) D Z H:=goB (pss_cons (okS st) (okB rest)) h
theorem bone (h:tS X st D Z H):tB X [st] D Z H:=goB (pss_one (okS st)) h
theorem ret (h:Ev X e Z H v)(k:∀H',Same H H'->D.rt v H'):tS X (.Return (some e) pos) D Z H:=goS (ps_ret (okE e)) (h _ k)
theorem retP {P:V->Hp->Prop}(h:EvP X e Z H P)(k:∀v H',Same H H'->P v H'->D.rt v H'):tS X (.Return (some e) pos) D Z H:=goS (ps_ret (okE e)) (h _ k)
theorem retE (h:tE X e Z H D.rt):tS X (.Return (some e) pos) D Z H:=goS (ps_ret (okE e)) h
theorem setE (i:Nat)(h:tE X e Z H λv H'=>D.nx (Z.set i (some v)) H')(hN:X.N.Nodup)(hi:X.N[i]?=some x:=by rfl)(hx:Loc X.env.scope x:=by exact Or.inl rfl)(hs:swapsWith e (some (.Name x pos')) pos.line X.env=pure false:=by rfl)(hf:X.fn x=true\/X.env.scope.names.lookup x=some .local:=by first|exact .inl rfl|exact .inr rfl):
  tS X (.Assign [.Name x pos'] e pos) D Z H:=goS (ps_set hN hi hx (okE e) hs hf) h
theorem set (i:Nat)(hN:X.N.Nodup)(h:Ev X e Z H v)(k:∀H',Same H H'->D.nx (Z.set i (some v)) H')(hi:X.N[i]?=some x:=by rfl)(hx:Loc X.env.scope x:=by exact Or.inl rfl)(hs:swapsWith e (some (.Name x pos')) pos.line X.env=pure false:=by rfl)(hf:X.fn x=true\/X.env.scope.names.lookup x=some .local:=by first|exact .inl rfl|exact .inr rfl):
  tS X (.Assign [.Name x pos'] e pos) D Z H:=setE i (h _ k) hN hi hx hs hf
theorem drop (h:tE X e Z H λ_ H'=>D.nx Z H')(hs:swapsWith e none pos.line X.env=pure false:=by rfl):tS X (.Expr e pos) D Z H:=goS (ps_expr (okE e) hs) h
theorem if_ {c:Expr}{p q:List Stmt}{bb:Bool}(h:Tv X c Z H bb)(h1:bb=true->∀H1,Same H H1->tB X p D Z H1)(h2:bb=false->∀H1,Same H H1->tB X q D Z H1):tS X (.If c p q pos) D Z H:=goS (ps_if (okT c) (okB p) (okB q)) (h _ λH1 s1=>by
  cases bb with
  |true=>rw[if_pos rfl];exact h1 rfl H1 s1
  |false=>rw[if_neg Bool.false_ne_true];exact h2 rfl H1 s1)
end
section
variable {P:Program}{w:World}{K:Fg}{mg:Str->Option Value}{base:Heap}
theorem def_ {x qual:Str}{stt:Stmt}{f:Addr}{fd:FuncData}{N ps:List Str}{k:Nat}{sp:Sp}(F:Fun K x qual stt f fd)(S:FnScope N ps (defScope stt))(len:∀vs H Q E,sp vs H Q E->vs.length=ps.length)
  (hb:∀(cdv:Value) (A:Around) (outer:List Env) (s:Shared) (H:Hp) (vs:List V) (Q:VK) (E:XK),Room k (A.deeper (envOfC qual (defScope stt) s.heap.objs.size f cdv))->sp vs H Q E->
   tB (cxOf CX0 P w K mg base N qual (defScope stt) f cdv A outer s H E).nox (defBody stt) {nx:=λ_ H'=>Q .non H',rt:=Q} (start N vs) H):FnOk P w K mg base CX0 (k+1) f fd ps sp:=
 F.ok S len λcdv A outer s H vs Q E hr h=>⟨_,okB _,hb cdv A outer s H vs Q E hr h⟩
end
section
variable {X:Cx}{Z:Sg}{H:Hp}{D:Ends}{pos pos' apos:Pos}{o i e value:Expr}{es:List Expr}{v:V}{x:Str}
theorem dput {a:Addr}{Pk:V->Hp->Prop}(hu:X.A.units+1<cLine)(hv:Ev X value Z H v)(ho:∀H1,Same H H1->Ev X o Z H1 (.ref a))(hi:∀H1,Same H H1->EvP X i Z H1 Pk)(k:∀H3 y,Same H H3->Pk y H3->∃H4,DPut H3 a y v H4/\D.nx Z H4)
  (hs:swapsWith value (some (.Subscript o i pos')) pos.line X.env=pure false:=by rfl):tS X (.Assign [.Subscript o i pos'] value pos) D Z H:=
 goS (ps_dput hu (okE o) (okE i) (okE value) hs) (hv _ λH1 s1=>ho H1 s1 _ λH2 s2=>hi H2 (s1.trans s2) _ λy H3 s3 z=>by
  obtain⟨H4,h1,h2⟩:=k H3 y ((s1.trans s2).trans s3) z
  exact⟨a,H4,rfl,h1,h2⟩)
theorem dputN {a:Addr}{Pk:V->Hp->Prop}(hu:X.A.units+16<cLine)(hv:Ev X value Z H v)(ho:∀H1,Same H H1->Ev X o Z H1 (.ref a))(hi:∀H1,Same H H1->EvP X i Z H1 Pk)
  (k:∀H3 y,Same H H3->Pk y H3->∃b ks kk,y=.ref b/\ND X.prog X.w H3 a ks/\NKey H3 b kk/\kk∉ks/\ks.length<sizeLine/\∀H4:Hp,ND X.prog X.w H4 a (ks++[kk])->(∀c o,c≠a->H3 c=some o->H4 c=some o)->(∀c,c≠a->H3 c=none->H4 c=none)->D.nx Z H4)
  (hs:swapsWith value (some (.Subscript o i pos')) pos.line X.env=pure false:=by rfl):tS X (.Assign [.Subscript o i pos'] value pos) D Z H:=
 goS (ps_dputN hu (okE o) (okE i) (okE value) hs) (hv _ λH1 s1=>ho H1 s1 _ λH2 s2=>hi H2 (s1.trans s2) _ λy H3 s3 z=>by
  obtain⟨b,ks,kk,h⟩:=k H3 y ((s1.trans s2).trans s3) z
  exact⟨a,b,ks,kk,rfl,h⟩)
theorem inP {p:Addr}{oo:Option V}{Pk:V->Hp->Prop}{a b:Expr}(hu:X.A.units+1<cLine)(ha:EvP X a Z H Pk)(hb:∀H1,Same H H1->Ev X b Z H1 (.ref p))(hd:∀y H1 H2,Same H H1->Same H1 H2->Pk y H1->DGet H2 p y oo)(hm:behindInMarks .In b=false:=by with_unfolding_all rfl):Ev X (.Compare a [.In] [b] pos) Z H (.bl oo.isSome):=
 λQ q=>goE (pe_cmp (pc_din hu (okE a) (okE b)) hm) (ha _ λy H1 s1 z=>hb H1 s1 _ λH2 s2=>⟨p,_,rfl,hd y H1 H2 s1 s2 z,q H2 (s1.trans s2)⟩)
theorem inN {p:Addr}{bb:Bool}{ks:List (List (List Key))}{kk:List (List Key)}{Pk:V->Hp->Prop}{a b:Expr}(hu:X.A.units+16<cLine)(ha:EvP X a Z H Pk)(hb:∀H1,Same H H1->Ev X b Z H1 (.ref p))(hk:∀y H1,Same H H1->Pk y H1->∃c,y=.ref c/\NKey H1 c kk)(hd:ND X.prog X.w H p ks)(hbb:bb=true<->kk∈ks)(hm:behindInMarks .In b=false:=by with_unfolding_all rfl):Ev X (.Compare a [.In] [b] pos) Z H (.bl bb):=
 λQ q=>goE (pe_cmp (pc_dinN hu (okE a) (okE b)) hm) (ha _ λy H1 s1 z=>hb H1 s1 _ λH2 s2=>by
  obtain⟨c,e,n⟩:=hk y H1 s1 z
  exact⟨p,c,ks,kk,rfl,e,hd.same (s1.trans s2),n.same λc xs q=>s2 _ _ q,bb,hbb,q H2 (s1.trans s2)⟩)
theorem put {ad C dx:Addr}{fs:List (Str×V)}{f:Str}{P:V->Hp->Prop}(h:EvP X e Z H P)(ho:∀H1,Same H H1->Ev X o Z H1 (.ref ad))(hH:H ad=some (.ins C dx fs))(c:Cls X.K C)(n:NoAttr X.K C f)(hl:fs.length<1000)(k:∀w H1 H2,Same H H1->P w H1->Same H1 H2->D.nx Z (upd H2 ad (.ins C dx (putF f w fs))))
  (hs:swapsWith e (some (.Attribute o f pos')) pos.line X.env=pure false:=by rfl):tS X (.Assign [.Attribute o f pos'] e pos) D Z H:=
 goS (ps_fld (okE o) (okE e) hs) (h _ λw H1 s1 z=>ho H1 s1 _ λH2 s2=>⟨ad,C,dx,fs,rfl,(s1.trans s2) _ _ hH,c,n,hl,k w H1 H2 s1 z s2⟩)
theorem Ev.p {P:V->Hp->Prop}(h:Ev X e Z H v)(k:∀H',Same H H'->P v H'):EvP X e Z H P:=λQ q=>h _ λH' s=>q v H' s (k H' s)
theorem newK:EvP X (.Dict [] [] pos) Z H (λv H'=>∃p,v=.ref p/\H p=none/\H'=upd H p (.dK [])):=λQ q=>goE pe_dnewK λp hp=>q _ _ (λc o e=>by rw[upd_ne (ne_of_none e hp)];exact e) ⟨p,rfl,hp,rfl⟩
theorem newT:EvP X (.Dict [] [] pos) Z H (λv H'=>∃p,v=.ref p/\H p=none/\H'=upd H p (.dT [])):=λQ q=>goE pe_dnewT λp hp=>q _ _ (λc o e=>by rw[upd_ne (ne_of_none e hp)];exact e) ⟨p,rfl,hp,rfl⟩
theorem newN:EvP X (.Dict [] [] pos) Z H (λv H'=>∃p,v=.ref p/\H p=none/\(p==sysModules)=false/\H'=upd H p (nobj X.prog X.w p [])):=λQ q=>goE pe_dnewN λp hp hs=>q _ _ (λc o e=>by rw[upd_ne (ne_of_none e hp)];exact e) ⟨p,rfl,hp,hs,rfl⟩
theorem newL:EvP X (.List [] pos) Z H (λv H'=>∃p,v=.ref p/\H p=none/\H' p=some (.lst [])):=lst nil
theorem methE {k:Nat}{C ad dx:Addr}{fs:List (Str×V)}{m:Str}{ps:List Str}{sp:Sp}{Q:VK}{pl:Sem Bool}(M:Mt X.prog X.w X.K X.mg X.base k C m ps sp)(hr:Room k X.A)(ho:Ev X o Z H (.ref ad))(hH:H ad=some (.ins C dx fs))(l:fs.lookup m=none)
  (h:∀H1,Same H H1->tA X (e::es) Z H1 λvs H2=>sp (.ref ad::vs) H2 Q E0)
  (hst:starEach (e::es) X.env=(false,eval e X.env)::starEach es X.env:=by rfl) (hpl:(backTo pos (starEach es X.env)).any (·.1)=false:=by rfl)
  (ht:eval (.Call (.Attribute o m apos) (e::es) [] pos) X.env=(do
   let ov<-eval o X.env
   standAt apos.atName
   let(f,first)<-holding [ov] (getMethod ov m pl)
   callWith pos f first (backTo pos (starEach (e::es) X.env)) (backToKw pos (keywordEach [] X.env))):=by rfl):tE X (.Call (.Attribute o m apos) (e::es) [] pos) Z H Q:=by
 obtain⟨f,fd,hm,F,b⟩:=M.ex
 refine goE (pe_meth (dvs:=[]) (ds:=[]) (E:=E0) (okE o) M.cl hm F hr b .nil pass0 (okA (e::es)) hst hpl ht) (ho _ λH1 s1=>⟨ad,dx,fs,rfl,s1 _ _ hH,l,λpos pins s I=>thn (h H1 s1 pos pins s I) λus s' ⟨vs,H',I',r,q⟩=>⟨vs,H',I',r,?_⟩⟩)
 show sp (.ref ad::(vs++[])) H' Q E0
 rw[List.append_nil];exact q
theorem append {ad:Addr}{xs:List V}{Q:VK}(ho:Ev X o Z H (.ref ad))(hH:H ad=some (.lst xs))(he:∀H1,Same H H1->Ev X e Z H1 v)(hl:xs.length<sizeLine)(k:∀H1,Same H H1->Q .non (upd H1 ad (.lst (xs++[v]))))
  (hbase:attributeBase o "append" X.env (eval o X.env)=eval o X.env:=by rfl)
  (hfew:((backTo pos (starEach [e] X.env)).all (λx=>!x.1)&&(backToKw pos (keywordEach [] X.env)).all (λx=>x.1.isSome)&&decide (([e]:List Expr).length+([]:List Keyword).length+(if([]:List Keyword).isEmpty then 0 else 1)<30))=true:=by rfl)
  (hline:(apos.endLine==pos.line)=true:=by rfl) (hs:starEach [e] X.env=(false,eval e X.env)::starEach [] X.env:=by rfl) (hplain:(backTo pos (starEach [] X.env)).any (·.1)=false:=by rfl):tE X (.Call (.Attribute o "append" apos) [e] [] pos) Z H Q:=
 goE (pe_bm PySem.F.plainAttrs_list PySem.F.slot_list_append PySem.F.type_list_append mt_append (okE o) (okA [e]) hbase hfew hline hs hplain) (ho _ λH1 s1=>⟨.inl ⟨rfl,_,SqL.of (s1 _ _ hH)⟩,one (he H1 s1) hs _ λH2 s2=>⟨ad,xs,v,rfl,rfl,(s1.trans s2) _ _ hH,hl,k H2 (s1.trans s2)⟩⟩)
end
section
variable {X:Cx}{Z:Sg}{H:Hp}{D:Ends}{pos pos' apos:Pos}{o i e value a b:Expr}{es:List Expr}{v:V}{x:Str}
theorem bAny:bootBuiltins "any"=some (.builtin "any"):=by decide+kernel
theorem bAll:bootBuiltins "all"=some (.builtin "all"):=by decide+kernel
theorem bSum:bootBuiltins "sum"=some (.builtin "sum"):=by decide+kernel
theorem bList:bootBuiltins "list"=some (.type "list"):=by decide+kernel
abbrev Bk (X:Cx)(sc:Scope)(s:Shared)(H0:Hp)(C:Addr)(cl:List (Str×Addr))(fp:List Addr):Cx:=X.blk s H0 sc (compEnvC sc cl C X.env) fp
def tTb (X:Cx)(sc:Scope)(e:Expr):TT:=λZ H Q=>∀s H0 C cl fp,tT (Bk X sc s H0 C cl fp) e Z H Q
def tEb (X:Cx)(sc:Scope)(e:Expr):TE:=λZ H Q=>∀s H0 C cl fp,tE (Bk X sc s H0 C cl fp) e Z H Q
theorem take_snoc' {α:Type}:∀{l:List α} {i:Nat} {x:α},l[i]?=some x->l.take (i+1)=l.take i++[x]
 |[],i,x,h=>by simp at h
 |a::l,0,x,h=>by cases h;rfl
 |a::l,i+1,x,h=>by
  have ih:=take_snoc' (l:=l) (i:=i) (x:=x) h
  show a::l.take (i+1)=a::l.take i++[x]
  rw[ih];rfl
theorem lc_turns {J:It}{j:Nat}{xs:List V}{f:V->Bool}{g:V->V}{tt:TT}{te:TE}{H1:Hp}{Q:VK}(hz:xs.length<=1000)
  (go:∀i H,Same H1 H->i<xs.length->J.go i H) (stop:∀H,Same H1 H->J.stop xs.length H) (yld:∀i H y H',i<xs.length->Same H1 H->J.yld i H y H'->H'=H/\xs[i]?=some y)
  (ht:∀y∈xs,∀H2,Same H1 H2->∀Q:Bool->Hp->Prop,(∀H',Same H2 H'->Q (f y) H')->tt (Z.set j (some y)) H2 Q) (he:∀y∈xs,f y=true->∀H2,Same H1 H2->∀Q:VK,(∀H',Same H2 H'->Q (g y) H')->te (Z.set j (some y)) H2 Q)
  (q:∀D H',H1 D=none->Same H1 H'->H' D=some (.lst ((xs.filter f).map g))->Q (.ref D) H'):∀D,H1 D=none->∃W:Nat->Nat->Hp->Prop,(∃m,W 0 m (upd H1 D (.lst [])))/\∀i m H,W i m H->
  (J.stop i H/\Q (.ref D) H)\/(J.go i H/\∃Nx:Hp->Prop,(∀H',Nx H'->∃m',m'<m/\W (i+1) m' H')/\∀y H',J.yld i H y H'->gName j y (wipe Z [j]) H' λZ2 H2=>wipe Z2 [j]=wipe Z [j]/\tt Z2 H2 λb H3=>
   if b=true then te Z2 H3 λy H4=>∃acc,H4 D=some (.lst acc)/\acc.length<sizeLine/\Nx (upd H4 D (.lst (acc++[y])))else Nx H3):=by
 intro D hD
 refine⟨λi m H=>m=xs.length-i/\i<=xs.length/\Same H1 H/\H D=some (.lst (((xs.take i).filter f).map g)),⟨xs.length,by simp,Nat.zero_le _,λc o e=>by rw[upd_ne (ne_of_none e hD)];exact e,by rw[upd_same];rfl⟩,?_⟩
 rintro i m H2 ⟨rfl,hi,s2,hD2⟩
 by_cases hlt:i<xs.length
 ·refine .inr ⟨go i H2 s2 hlt,λH'=>Same H1 H'/\H' D=some (.lst (((xs.take (i+1)).filter f).map g)),λH' ⟨h1,h2⟩=>⟨_,by omega,rfl,hlt,h1,h2⟩,λy H' hy=>?_⟩
  obtain⟨e0,hy2⟩:=yld i H2 y H' hlt s2 hy
  subst e0
  have hm:y∈xs:=List.mem_of_getElem? hy2
  have e1:(wipe Z [j]).set j (some y)=Z.set j (some y):=by show(Z.set j none).set j (some y)=_;rw[List.set_set]
  show wipe ((wipe Z [j]).set j (some y)) [j]=wipe Z [j]/\_
  rw[e1]
  refine⟨by show(Z.set j (some y)).set j none=Z.set j none;rw[List.set_set],?_⟩
  refine ht y hm _ s2 _ λH3 s3=>?_
  rw[take_snoc' hy2,List.filter_append,List.map_append]
  cases hf:f y with
  |false=>
   rw[if_neg Bool.false_ne_true]
   refine⟨s2.trans s3,?_⟩
   rw[s3 _ _ hD2,List.filter_cons,hf]
   simp
  |true=>
   rw[if_pos rfl]
   refine he y hm hf _ (s2.trans s3) _ λH4 s4=>⟨_,s4 _ _ (s3 _ _ hD2),?_,?_,?_⟩
   ·rw[List.length_map]
    have h1:=List.length_filter_le f (xs.take i)
    rw[List.length_take]at h1
    exact small1000 (by omega)
   ·intro c o e
    rw[upd_ne (ne_of_none e hD)]
    exact s4 _ _ (s3 _ _ (s2 _ _ e))
   ·rw[upd_same,List.filter_cons,hf];rfl
 ·have e:i=xs.length:=by omega
  subst e
  rw[List.take_length]at hD2
  exact .inl ⟨stop H2 s2,q D H2 hD s2 hD2⟩
variable {iter elt c:Expr}{sc:Scope}{tp:Pos}{xs:List V}
theorem blk_pg {j:Nat}(hN:X.N.Nodup)(hj:X.N[j]?=some x)(hl:sc.names.lookup x=some .local)(s:Shared)(H0:Hp)(C:Addr)(cl:List (Str×Addr))(fp:List Addr):PG (Bk X sc s H0 C cl fp) (.Name x tp) (gName j):=
 pg_name (X:=Bk X sc s H0 C cl fp) hN hj (Or.inl (lookup_relabel_local hl)) (.inr (lookup_relabel_local hl))
theorem blk_pt (s:Shared)(H0:Hp)(C:Addr)(cl:List (Str×Addr))(fp:List Addr):PTs (Bk X sc s H0 C cl fp) [c] (tTb X sc c):=pts_one λpins s1 Z H Q I h=>okT c pins s1 Z H Q I (h s H0 C cl fp)
theorem blk_pe (s:Shared)(H0:Hp)(C:Addr)(cl:List (Str×Addr))(fp:List Addr):PE (Bk X sc s H0 C cl fp) elt (tEb X sc elt):=λpins s1 Z H Q I h=>okE elt pins s1 Z H Q I (h s H0 C cl fp)
theorem lcCore {j:Nat}(f:V->Bool)(g:V->V){Q:VK}(hi:EvP X iter Z H (λv H1=>∃a,v=.ref a/\SqL X.K H1 a xs))(hz:xs.length<=1000)
  (ht:∀s H0 C cl fp,∀y∈xs,∀H2,Same H H2->Tv (Bk X sc s H0 C cl fp) c (Z.set j (some y)) H2 (f y)) (he:∀s H0 C cl fp,∀y∈xs,f y=true->∀H2,Same H H2->Ev (Bk X sc s H0 C cl fp) elt (Z.set j (some y)) H2 (g y))
  (q:∀p H',Same H H'->H p=none->H' p=some (.lst ((xs.filter f).map g))->Q (.ref p) H'):tLc (iList X.K (tE X iter)) (gName j) (tTb X sc c) (tEb X sc elt) [j] Z H Q:=by
 refine hi _ λv H1 s1 ⟨a,e,hs⟩=>⟨a,e,⟨xs,hs⟩,?_⟩
 refine lc_turns (f:=f) (g:=g) hz (λi H2 s2 hl=>⟨xs,xs[i],s2.seq hs,by rw[List.getElem?_eq_getElem hl]⟩) (λH2 s2=>⟨xs,s2.seq hs,Nat.le_refl _⟩) (λi H2 y H' _ s2 ⟨h1,h2⟩=>⟨h1,h2 xs (s2.seq hs)⟩)
  (λy hy H2 s2 Q' q' s H0 C cl fp=>ht s H0 C cl fp y hy H2 (s1.trans s2) Q' q') (λy hy hf H2 s2 Q' q' s H0 C cl fp=>he s H0 C cl fp y hy hf H2 (s1.trans s2) Q' q') λp H' hp s' hl=>q p H' (s1.trans s') (s1.free hp) hl
theorem lc0Core {j:Nat}(g:V->V){Q:VK}(hi:EvP X iter Z H (λv H1=>∃a,v=.ref a/\SqL X.K H1 a xs))(hz:xs.length<=1000)
  (he:∀s H0 C cl fp,∀y∈xs,∀H2,Same H H2->Ev (Bk X sc s H0 C cl fp) elt (Z.set j (some y)) H2 (g y))
  (q:∀p H',Same H H'->H p=none->H' p=some (.lst (xs.map g))->Q (.ref p) H'):tLc (iList X.K (tE X iter)) (gName j) tYes (tEb X sc elt) [j] Z H Q:=by
 refine hi _ λv H1 s1 ⟨a,e,hs⟩=>⟨a,e,⟨xs,hs⟩,?_⟩
 refine lc_turns (f:=λ_=>true) (g:=g) hz (λi H2 s2 hl=>⟨xs,xs[i],s2.seq hs,by rw[List.getElem?_eq_getElem hl]⟩) (λH2 s2=>⟨xs,s2.seq hs,Nat.le_refl _⟩) (λi H2 y H' _ s2 ⟨h1,h2⟩=>⟨h1,h2 xs (s2.seq hs)⟩)
  (λy hy H2 s2 Q' q'=>q' H2 (Same.refl _)) (λy hy _ H2 s2 Q' q' s H0 C cl fp=>he s H0 C cl fp y hy H2 (s1.trans s2) Q' q') λp H' hp s' hl=>q p H' (s1.trans s') (s1.free hp) (by rw[hl,List.filter_eq_self.mpr (λ_ _=>rfl)])
abbrev NewL (H:Hp)(xs:List V):V->Hp->Prop:=λv H'=>∃p,v=.ref p/\H p=none/\H' p=some (.lst xs)
theorem lcT (j:Nat)(f:V->Bool)(g:V->V)(hN:X.N.Nodup)(ok:BlkOk X.N X.env.scope sc [(x,j)])(hi:EvP X iter Z H (λv H1=>∃a,v=.ref a/\SqL X.K H1 a xs))(hz:xs.length<=1000)
  (ht:∀s H0 C cl fp,∀y∈xs,∀H2,Same H H2->Tv (Bk X sc s H0 C cl fp) c (Z.set j (some y)) H2 (f y)) (he:∀s H0 C cl fp,∀y∈xs,f y=true->∀H2,Same H H2->Ev (Bk X sc s H0 C cl fp) elt (Z.set j (some y)) H2 (g y))
  (hl:sc.names.lookup x=some .local:=by rfl) (hs:∀y,foldedSetIterable iter X.env y=pure y:=by intro _;rfl) (hc:X.calm=true:=by rfl):EvP X (.ListComp elt [⟨.Name x tp,iter,[c],0⟩] sc pos) Z H (NewL H ((xs.filter f).map g)):=λQ q=>
 goE (pe_lc hc hN (pi_list (okE iter)) ok (blk_pg hN (ok.ix _ (.head _)) hl) blk_pt blk_pe hs) (lcCore f g hi hz ht he λp H' s' hp h=>q _ H' s' ⟨p,rfl,hp,h⟩)
theorem lc0 (j:Nat)(g:V->V)(hN:X.N.Nodup)(ok:BlkOk X.N X.env.scope sc [(x,j)])(hi:EvP X iter Z H (λv H1=>∃a,v=.ref a/\SqL X.K H1 a xs))(hz:xs.length<=1000)
  (he:∀s H0 C cl fp,∀y∈xs,∀H2,Same H H2->Ev (Bk X sc s H0 C cl fp) elt (Z.set j (some y)) H2 (g y))
  (hl:sc.names.lookup x=some .local:=by rfl) (hs:∀y,foldedSetIterable iter X.env y=pure y:=by intro _;rfl) (hc:X.calm=true:=by rfl):EvP X (.ListComp elt [⟨.Name x tp,iter,[],0⟩] sc pos) Z H (NewL H (xs.map g)):=λQ q=>
 goE (pe_lc hc hN (pi_list (okE iter)) ok (blk_pg hN (ok.ix _ (.head _)) hl) (λ_ _ _ _ _=>pts_nil) blk_pe hs) (lc0Core g hi hz he λp H' s' hp h=>q _ H' s' ⟨p,rfl,hp,h⟩)
theorem lcR (j:Nat)(n:Nat)(g:V->V){p:Pos}(hN:X.N.Nodup)(ok:BlkOk X.N X.env.scope sc [(x,j)])(hm:X.mg "range"=none)(hi:Ev X a Z H (.int n))(hz:n<=1000)
  (he:∀s H0 C cl fp,∀t:Nat,t<n->∀H2,Same H H2->Ev (Bk X sc s H0 C cl fp) elt (Z.set j (some (.int t))) H2 (g (.int t)))
  (hl:sc.names.lookup x=some .local:=by rfl) (hs:∀y,foldedSetIterable (.Call (.Name "range" p) [a] [] pos') X.env y=pure y:=by intro _;rfl) (hc:X.calm=true:=by rfl) (hg:Gl X "range":=by rfl) (hst:starEach [a] X.env=[(false,eval a X.env)]:=by rfl):
  EvP X (.ListComp elt [⟨.Name x tp,.Call (.Name "range" p) [a] [] pos',[],0⟩] sc pos) Z H (NewL H ((List.range n).map λt:Nat=>g (.int (t:Int)))):=λQ q=>
 goE (pe_lc hc hN (pi_range1 hg hm (okA [a]) hst) ok (blk_pg hN (ok.ix _ (.head _)) hl) (λ_ _ _ _ _=>pts_nil) blk_pe hs) (one hi (by rw[hst];rfl) _ λH1 s1=>⟨n,rfl,by omega,by omega,by
  have e1:(((n:Nat):Int)).toNat=n:=by omega
  rw[e1]
  refine lc_turns (xs:=(List.range n).map λt:Nat=>V.int (t:Int)) (f:=λ_=>true) (g:=g) (by simpa using hz) (λi H2 s2 hl=>by show i<n;simpa using hl) (λH2 s2=>by show n<=_;simp) (λi H2 y H' hlt s2 ⟨h1,h2⟩=>⟨h1,?_⟩) (λy hy H2 s2 Q' q'=>q' H2 (Same.refl _)) (λy hy _ H2 s2 Q' q' s H0 C cl fp=>?_) λp H' hp s' hl=>q _ H' (s1.trans s') ⟨p,rfl,s1.free hp,?_⟩
  ·have hlt':i<n:=by simpa using hlt
   rw[h2,List.getElem?_map,List.getElem?_range hlt']
   simp
  ·obtain⟨t,ht,rfl⟩:=List.mem_map.mp hy
   exact he s H0 C cl fp t (List.mem_range.mp ht) H2 (s1.trans s2) Q' q'
  ·rw[hl,List.filter_eq_self.mpr (λ_ _=>rfl),List.map_map];rfl⟩)
theorem setLcT (n j:Nat)(f:V->Bool)(g:V->V){y:Str}{py spos:Pos}(hN:X.N.Nodup)(ok:BlkOk X.N X.env.scope sc [(x,j)])(hi:EvP X iter Z H (λv H1=>∃a,v=.ref a/\SqL X.K H1 a xs))(hz:xs.length<=1000)
  (ht:∀s H0 C cl fp,∀y∈xs,∀H2,Same H H2->Tv (Bk X sc s H0 C cl fp) c (Z.set j (some y)) H2 (f y)) (he:∀s H0 C cl fp,∀y∈xs,f y=true->∀H2,Same H H2->Ev (Bk X sc s H0 C cl fp) elt (Z.set j (some y)) H2 (g y))
  (q:∀p H',Same H H'->H p=none->H' p=some (.lst ((xs.filter f).map g))->D.nx (Z.set n (some (.ref p))) H')
  (hl:sc.names.lookup x=some .local:=by rfl) (hs:∀y,foldedSetIterable iter X.env y=pure y:=by intro _;rfl) (hc:X.calm=true:=by rfl) (hy:X.N[n]?=some y:=by rfl) (hyl:X.env.scope.names.lookup y=some .local:=by rfl)
  (hsw:swapsWith (.ListComp elt [⟨.Name x tp,iter,[c],0⟩] sc pos) (some (.Name y py)) spos.line X.env=pure true:=by rfl):tS X (.Assign [.Name y py] (.ListComp elt [⟨.Name x tp,iter,[c],0⟩] sc pos) spos) D Z H:=
 goS (ps_setLc (i:=n) hc hN hy hyl hsw (pi_list (okE iter)) ok (blk_pg hN (ok.ix _ (.head _)) hl) blk_pt blk_pe hs) (lcCore f g hi hz ht he q)
theorem callU {j k:Nat}{ps:List Str}{R:List V->Hp->V->Prop}{vs:List V}{p:Pos}(F:Fn X.prog X.w X.K X.mg X.base j x ps (spv R))(hr:Room k X.A)(h:Av X (e::es) Z H vs)(hR:∀H1,Same H H1->R vs H1 v)(hjk:j<=k:=by decide)(hg:Gl X x:=by rfl)(hdb:(x==("__debug__":Str))=false:=by decide)
  (he:starEach (e::es) X.env=(false,eval e X.env)::starEach es X.env:=by rfl) (hpl:(backTo pos (starEach es X.env)).any (·.1)=false:=by rfl):Ev X (.Call (.Name x p) (e::es) [] pos) Z H v:=call F (hr.mono hjk) h hR hg hdb he hpl
theorem callPU {j k:Nat}{ps:List Str}{R:List V->Hp->(V->Hp->Prop)->Prop}{vs:List V}{p:Pos}{P:V->Hp->Prop}(F:Fn X.prog X.w X.K X.mg X.base j x ps (spp R))(hr:Room k X.A)(h:Av X (e::es) Z H vs)(hR:∀H1,Same H H1->∃P1,R vs H1 P1/\∀v H2,Same H1 H2->P1 v H2->P v H2)(hjk:j<=k:=by decide)(hg:Gl X x:=by rfl)(hdb:(x==("__debug__":Str))=false:=by decide)
  (he:starEach (e::es) X.env=(false,eval e X.env)::starEach es X.env:=by rfl) (hpl:(backTo pos (starEach es X.env)).any (·.1)=false:=by rfl):EvP X (.Call (.Name x p) (e::es) [] pos) Z H P:=callP F (hr.mono hjk) h hR hg hdb he hpl
theorem meth {j k:Nat}{C ad dx:Addr}{fs:List (Str×V)}{m:Str}{ps:List Str}{R:List V->Hp->V->Prop}{vs:List V}{pl:Sem Bool}(M:Mt X.prog X.w X.K X.mg X.base j C m ps (spv R))(hr:Room k X.A)(ho:Ev X o Z H (.ref ad))(hH:H ad=some (.ins C dx fs))(l:fs.lookup m=none)
  (h:∀H1,Same H H1->Av X (e::es) Z H1 vs) (hR:∀H1,Same H H1->R (.ref ad::vs) H1 v) (hjk:j<=k:=by decide)
  (hst:starEach (e::es) X.env=(false,eval e X.env)::starEach es X.env:=by rfl) (hpl:(backTo pos (starEach es X.env)).any (·.1)=false:=by rfl)
  (ht:eval (.Call (.Attribute o m apos) (e::es) [] pos) X.env=(do
   let ov<-eval o X.env
   standAt apos.atName
   let(f,first)<-holding [ov] (getMethod ov m pl)
   callWith pos f first (backTo pos (starEach (e::es) X.env)) (backToKw pos (keywordEach [] X.env))):=by rfl):Ev X (.Call (.Attribute o m apos) (e::es) [] pos) Z H v:=
 λQ q=>methE M (hr.mono hjk) ho hH l (λH1 s1=>h H1 s1 _ λH2 s2=>⟨v,hR H2 (s1.trans s2),λH3 s3=>q H3 ((s1.trans s2).trans s3)⟩) hst hpl ht
theorem methP {j k:Nat}{C ad dx:Addr}{fs:List (Str×V)}{m:Str}{ps:List Str}{R:List V->Hp->(V->Hp->Prop)->Prop}{vs:List V}{P:V->Hp->Prop}{pl:Sem Bool}(M:Mt X.prog X.w X.K X.mg X.base j C m ps (spp R))(hr:Room k X.A)(ho:Ev X o Z H (.ref ad))(hH:H ad=some (.ins C dx fs))(l:fs.lookup m=none)
  (h:∀H1,Same H H1->Av X (e::es) Z H1 vs) (hR:∀H1,Same H H1->∃P1,R (.ref ad::vs) H1 P1/\∀v H2,Same H1 H2->P1 v H2->P v H2) (hjk:j<=k:=by decide)
  (hst:starEach (e::es) X.env=(false,eval e X.env)::starEach es X.env:=by rfl) (hpl:(backTo pos (starEach es X.env)).any (·.1)=false:=by rfl)
  (ht:eval (.Call (.Attribute o m apos) (e::es) [] pos) X.env=(do
   let ov<-eval o X.env
   standAt apos.atName
   let(f,first)<-holding [ov] (getMethod ov m pl)
   callWith pos f first (backTo pos (starEach (e::es) X.env)) (backToKw pos (keywordEach [] X.env))):=by rfl):EvP X (.Call (.Attribute o m apos) (e::es) [] pos) Z H P:=
 λQ q=>methE M (hr.mono hjk) ho hH l (λH1 s1=>h H1 s1 _ λH2 s2=>by
  obtain⟨P1,r,z⟩:=hR H2 (s1.trans s2)
  exact⟨P1,r,λv H3 s3 y=>q v H3 ((s1.trans s2).trans s3) (z v H3 s3 y)⟩) hst hpl ht
theorem anyP {bs:List Bool}{p:Pos}(hm:X.mg "any"=none)(h:EvP X e Z H (λv H1=>∃a,v=.ref a/\SqL X.K H1 a (bs.map V.bl)))(hst:starEach [e] X.env=(false,eval e X.env)::starEach [] X.env:=by rfl)(hg:Gl X "any":=by rfl)(hpl:(backTo pos (starEach [] X.env)).any (·.1)=false:=by rfl)(hc:X.calm=true:=by rfl):Ev X (.Call (.Name "any" p) [e] [] pos) Z H (.bl (bs.any id)):=λQ q=>
 goE (pe_callB (cr_any hc) hg hm bAny (okA [e]) (by decide) (by decide) hst hpl) (goA (pa_cons (okE e) pa_nil hst) (h _ λv H1 s1 ⟨a,ev,hs⟩=>⟨a,bs,by rw[ev],hs,q H1 s1⟩))
theorem allP {bs:List Bool}{p:Pos}(hm:X.mg "all"=none)(h:EvP X e Z H (λv H1=>∃a,v=.ref a/\SqL X.K H1 a (bs.map V.bl)))(hst:starEach [e] X.env=(false,eval e X.env)::starEach [] X.env:=by rfl)(hg:Gl X "all":=by rfl)(hpl:(backTo pos (starEach [] X.env)).any (·.1)=false:=by rfl)(hc:X.calm=true:=by rfl):Ev X (.Call (.Name "all" p) [e] [] pos) Z H (.bl (bs.all id)):=λQ q=>
 goE (pe_callB (cr_all hc) hg hm bAll (okA [e]) (by decide) (by decide) hst hpl) (goA (pa_cons (okE e) pa_nil hst) (h _ λv H1 s1 ⟨a,ev,hs⟩=>⟨a,bs,by rw[ev],hs,q H1 s1⟩))
theorem sumP {ns:List Int}{p:Pos}(hm:X.mg "sum"=none)(h:EvP X e Z H (λv H1=>∃a,v=.ref a/\SqL X.K H1 a (ns.map V.int)))(hst:starEach [e] X.env=(false,eval e X.env)::starEach [] X.env:=by rfl)(hg:Gl X "sum":=by rfl)(hpl:(backTo pos (starEach [] X.env)).any (·.1)=false:=by rfl)(hc:X.calm=true:=by rfl):Ev X (.Call (.Name "sum" p) [e] [] pos) Z H (.int ns.sum):=λQ q=>
 goE (pe_callB (cr_sum hc) hg hm bSum (okA [e]) (by decide) (by decide) hst hpl) (goA (pa_cons (okE e) pa_nil hst) (h _ λv H1 s1 ⟨a,ev,hs⟩=>⟨a,ns,by rw[ev],hs,q H1 s1⟩))
theorem lenP {p:Pos}(hm:X.mg "len"=none)(h:EvP X e Z H (λv H1=>∃a,v=.ref a/\SqL X.K H1 a xs))(hst:starEach [e] X.env=(false,eval e X.env)::starEach [] X.env:=by rfl)(hg:Gl X "len":=by rfl)(hpl:(backTo pos (starEach [] X.env)).any (·.1)=false:=by rfl):Ev X (.Call (.Name "len" p) [e] [] pos) Z H (.int xs.length):=λQ q=>
 goE (pe_callB call_len_seq hg hm PySem.boot_len (okA [e]) (by decide) (by decide) hst hpl) (goA (pa_cons (okE e) pa_nil hst) (h _ λv H1 s1 ⟨a,ev,hs⟩=>⟨a,xs,by rw[ev],.inl hs,q H1 s1⟩))
theorem NewL.sq {K:Fg}(h:EvP X e Z H (NewL H xs)):EvP X e Z H (λv H1=>∃a,v=.ref a/\SqL K H1 a xs):=λQ q=>h _ λv H1 s1 ⟨a,ev,_,hs⟩=>q v H1 s1 ⟨a,ev,SqL.of hs⟩
theorem Ev.sq {K:Fg}{ad:Addr}(h:Ev X e Z H (.ref ad))(hs:SqL K H ad xs):EvP X e Z H (λv H1=>∃a,v=.ref a/\SqL K H1 a xs):=λQ q=>h _ λH1 s1=>q _ H1 s1 ⟨ad,rfl,s1.seq hs⟩
theorem EvP.mono {P P':V->Hp->Prop}(h:EvP X e Z H P)(k:∀v H',Same H H'->P v H'->P' v H'):EvP X e Z H P':=λQ q=>h _ λv H1 s1 z=>q v H1 s1 (k v H1 s1 z)
theorem listOf {p:Pos}(hm:X.mg "list"=none)(h:EvP X e Z H (λv H1=>∃a,v=.ref a/\SqL X.K H1 a xs))(hst:starEach [e] X.env=(false,eval e X.env)::starEach [] X.env:=by rfl)(hg:Gl X "list":=by rfl)(hpl:(backTo pos (starEach [] X.env)).any (·.1)=false:=by rfl):EvP X (.Call (.Name "list" p) [e] [] pos) Z H (NewL H xs):=λQ q=>
 goE (pe_callTy call_list_of hg hm bList (okA [e]) (by decide) (by decide) hst hpl) (goA (pa_cons (okE e) pa_nil hst) (h _ λv H1 s1 ⟨a,ev,hs⟩=>⟨a,xs,by rw[ev],.inl hs,λl hl=>q _ _ (λc o e=>by rw[upd_ne (ne_of_none (s1 _ _ e) hl)];exact s1 _ _ e) ⟨l,rfl,s1.free hl,upd_same⟩⟩))
theorem catP {ys:List V}(hz:xs.length+ys.length<=1000)(ha:EvP X a Z H (NewL H xs))(hb:∀H1,Same H H1->EvP X b Z H1 (NewL H1 ys)):EvP X (.BinOp a .Add b pos) Z H (NewL H (xs++ys)):=λQ q=>
 goE (pe_op op_cat (okE a) (okE b)) (ha _ λv H1 s1 ⟨p,ev,hp,hx⟩=>hb H1 s1 _ λw H2 s2 ⟨r,ew,hr,hy⟩=>⟨p,r,xs,ys,ev,ew,s2 _ _ hx,hy,Nat.le_of_lt (small1000 hz),λl hl=>q _ _ (λc o e=>by rw[upd_ne (ne_of_none (s2 _ _ (s1 _ _ e)) hl)];exact s2 _ _ (s1 _ _ e)) ⟨l,rfl,(s1.trans s2).free hl,upd_same⟩⟩)
theorem catPE {ys:List V}{ad:Addr}(hz:xs.length+ys.length<=1000)(ha:EvP X a Z H (NewL H xs))(hb:∀H1,Same H H1->Ev X b Z H1 (.ref ad))(hy:H ad=some (.lst ys)):EvP X (.BinOp a .Add b pos) Z H (NewL H (xs++ys)):=λQ q=>
 goE (pe_op op_cat (okE a) (okE b)) (ha _ λv H1 s1 ⟨p,ev,hp,hx⟩=>hb H1 s1 _ λH2 s2=>⟨p,ad,xs,ys,ev,rfl,s2 _ _ hx,s2 _ _ (s1 _ _ hy),Nat.le_of_lt (small1000 hz),λl hl=>q _ _ (λc o e=>by rw[upd_ne (ne_of_none (s2 _ _ (s1 _ _ e)) hl)];exact s2 _ _ (s1 _ _ e)) ⟨l,rfl,(s1.trans s2).free hl,upd_same⟩⟩)
theorem inT {ys:List V}(ha:Ev X a Z H v)(hb:∀H1,Same H H1->EvP X b Z H1 (λw H2=>∃p,w=.ref p/\H1 p=none/\H2 p=some (.tup ys)))(fx:flatV v=true:=by rfl)(fy:ys.all flatV=true:=by rfl)(hm:behindInMarks .In b=false:=by with_unfolding_all rfl):Ev X (.Compare a [.In] [b] pos) Z H (.bl (inV v ys)):=λQ q=>
 goE (pe_cmpR op_in_seq (okE a) (okE b) hm) (ha _ λH1 s1=>hb H1 s1 _ λw H2 s2 ⟨p,ew,_,hp⟩=>⟨p,ys,ew,.inr (SqT.of hp),fx,fy,q H2 (s1.trans s2)⟩)
theorem tinT {ys:List V}(ha:Ev X a Z H v)(hb:∀H1,Same H H1->EvP X b Z H1 (λw H2=>∃p,w=.ref p/\H1 p=none/\H2 p=some (.tup ys)))(fx:flatV v=true:=by rfl)(fy:ys.all flatV=true:=by rfl)(hm:behindInMarks .In b=false:=by with_unfolding_all rfl):Tv X (.Compare a [.In] [b] pos) Z H (inV v ys):=λQ q=>
 goT (pt_cmpR op_in_seq (okE a) (okE b) hm) (ha _ λH1 s1=>hb H1 s1 _ λw H2 s2 ⟨p,ew,_,hp⟩=>⟨p,ys,ew,.inr (SqT.of hp),fx,fy,_,rfl,q H2 (s1.trans s2)⟩)
theorem tnotInL {ad:Addr}{ys:List V}(ha:Ev X a Z H v)(hb:∀H1,Same H H1->Ev X b Z H1 (.ref ad))(hs:SqL X.K H ad ys)(fx:flatV v=true)(fy:ys.all flatV=true)(hm:behindInMarks .NotIn b=false:=by with_unfolding_all rfl):Tv X (.Compare a [.NotIn] [b] pos) Z H (!inV v ys):=λQ q=>
 goT (pt_cmpR op_notIn_seq (okE a) (okE b) hm) (ha _ λH1 s1=>hb H1 s1 _ λH2 s2=>⟨ad,ys,rfl,.inl ((s1.trans s2).seq hs),fx,fy,_,rfl,q H2 (s1.trans s2)⟩)
theorem aug {n m:Int}(j:Nat)(hN:X.N.Nodup)(h0:Z[j]?=some (some (.int n)))(h:tE X e Z H λv H'=>v=.int m/\D.nx (Z.set j (some (.int (n+m)))) H')(hj:X.N[j]?=some x:=by rfl)(hx:Loc X.env.scope x:=by exact Or.inl rfl)(hf:X.fn x=true\/X.env.scope.names.lookup x=some .local:=by first|exact .inl rfl|exact .inr rfl):tS X (.AugAssign (.Name x pos') .Add e pos) D Z H:=
 goS (ps_aug (i:=j) hN hj hx (okE e) ip_add hf) ⟨.int n,h0,h.mono λv H' ⟨ev,q⟩=>⟨n,m,rfl,ev,q⟩⟩
end
end Vm
namespace Vm
open PySem PySem.Spec PyProof.Rows L2 RR
section
variable {X:Cx}{Z:Sg}{H:Hp}{D:Ends}{pos pos' apos:Pos}{o i e value a b:Expr}{es:List Expr}{v:V}{x:Str}
def AvP (X:Cx)(es:List Expr)(Z:Sg)(H:Hp)(R:List V->Hp->Prop):Prop:=∀Q:List V->Hp->Prop,(∀vs H',Same H H'->R vs H'->Q vs H')->tA X es Z H Q
theorem consA {P:V->Hp->Prop}{R:List V->Hp->Prop}(h:EvP X e Z H P)(h2:∀H1,Same H H1->AvP X es Z H1 R)(hs:starEach (e::es) X.env=(false,eval e X.env)::starEach es X.env:=by rfl):AvP X (e::es) Z H (λvs H'=>∃v ws H1,vs=v::ws/\P v H1/\Same H1 H'/\R ws H'):=λQ q=>
 goA (pa_cons (okE e) (okA es) hs) (h _ λv H1 s1 z=>h2 H1 s1 _ λws H2 s2 y=>q _ H2 (s1.trans s2) ⟨v,ws,H1,rfl,z,s2,y⟩)
theorem Av.ap {vs:List V}(h:Av X es Z H vs):AvP X es Z H (λws _=>ws=vs):=λQ q=>h _ λH1 s1=>q vs H1 s1 rfl
theorem one' {P:V->Hp->Prop}(h:EvP X e Z H P)(hs:starEach [e] X.env=(false,eval e X.env)::starEach [] X.env:=by rfl):AvP X [e] Z H (λvs H'=>∃v,vs=[v]/\P v H'):=λQ q=>
 goA (pa_cons (okE e) pa_nil hs) (h _ λv H1 s1 z=>q _ H1 s1 ⟨v,rfl,z⟩)
theorem cons' {R:List V->Hp->Prop}(h:Ev X e Z H v)(h2:∀H1,Same H H1->AvP X es Z H1 R)(hs:starEach (e::es) X.env=(false,eval e X.env)::starEach es X.env:=by rfl):AvP X (e::es) Z H (λvs H'=>∃ws,vs=v::ws/\R ws H'):=λQ q=>
 goA (pa_cons (okE e) (okA es) hs) (h _ λH1 s1=>h2 H1 s1 _ λws H2 s2 y=>q _ H2 (s1.trans s2) ⟨ws,rfl,y⟩)
theorem callA {j k:Nat}{ps:List Str}{R:List V->Hp->V->Prop}{R0:List V->Hp->Prop}{p:Pos}(F:Fn X.prog X.w X.K X.mg X.base j x ps (spv R))(hr:Room k X.A)(h:AvP X (e::es) Z H R0)(hR:∀vs H1,Same H H1->R0 vs H1->R vs H1 v)(hjk:j<=k:=by decide)(hg:Gl X x:=by rfl)(hdb:(x==("__debug__":Str))=false:=by decide)
  (he:starEach (e::es) X.env=(false,eval e X.env)::starEach es X.env:=by rfl) (hpl:(backTo pos (starEach es X.env)).any (·.1)=false:=by rfl):Ev X (.Call (.Name x p) (e::es) [] pos) Z H v:=
 λQ q=>callE F (hr.mono hjk) (h _ λvs H1 s1 z=>⟨v,hR vs H1 s1 z,λH2 s2=>q H2 (s1.trans s2)⟩) hg hdb he hpl
theorem callAP {j k:Nat}{ps:List Str}{R:List V->Hp->(V->Hp->Prop)->Prop}{R0:List V->Hp->Prop}{P:V->Hp->Prop}{p:Pos}(F:Fn X.prog X.w X.K X.mg X.base j x ps (spp R))(hr:Room k X.A)(h:AvP X (e::es) Z H R0)(hR:∀vs H1,Same H H1->R0 vs H1->∃P1,R vs H1 P1/\∀v H2,Same H1 H2->P1 v H2->P v H2)(hjk:j<=k:=by decide)(hg:Gl X x:=by rfl)(hdb:(x==("__debug__":Str))=false:=by decide)
  (he:starEach (e::es) X.env=(false,eval e X.env)::starEach es X.env:=by rfl) (hpl:(backTo pos (starEach es X.env)).any (·.1)=false:=by rfl):EvP X (.Call (.Name x p) (e::es) [] pos) Z H P:=
 λQ q=>callE F (hr.mono hjk) (h _ λvs H1 s1 z=>by
  obtain⟨P1,r,y⟩:=hR vs H1 s1 z
  exact⟨P1,r,λv H2 s2 u=>q v H2 (s1.trans s2) (y v H2 s2 u)⟩) hg hdb he hpl
theorem methA {j k:Nat}{C ad dx:Addr}{fs:List (Str×V)}{m:Str}{ps:List Str}{R:List V->Hp->V->Prop}{R0:List V->Hp->Prop}{pl:Sem Bool}(M:Mt X.prog X.w X.K X.mg X.base j C m ps (spv R))(hr:Room k X.A)(ho:Ev X o Z H (.ref ad))(hH:H ad=some (.ins C dx fs))(l:fs.lookup m=none)
  (h:∀H1,Same H H1->AvP X (e::es) Z H1 R0) (hR:∀vs H1,Same H H1->R0 vs H1->R (.ref ad::vs) H1 v) (hjk:j<=k:=by decide)
  (hst:starEach (e::es) X.env=(false,eval e X.env)::starEach es X.env:=by rfl) (hpl:(backTo pos (starEach es X.env)).any (·.1)=false:=by rfl)
  (ht:eval (.Call (.Attribute o m apos) (e::es) [] pos) X.env=(do
   let ov<-eval o X.env
   standAt apos.atName
   let(f,first)<-holding [ov] (getMethod ov m pl)
   callWith pos f first (backTo pos (starEach (e::es) X.env)) (backToKw pos (keywordEach [] X.env))):=by rfl):Ev X (.Call (.Attribute o m apos) (e::es) [] pos) Z H v:=
 λQ q=>methE M (hr.mono hjk) ho hH l (λH1 s1=>h H1 s1 _ λvs H2 s2 z=>⟨v,hR vs H2 (s1.trans s2) z,λH3 s3=>q H3 ((s1.trans s2).trans s3)⟩) hst hpl ht
theorem methAP {j k:Nat}{C ad dx:Addr}{fs:List (Str×V)}{m:Str}{ps:List Str}{R:List V->Hp->(V->Hp->Prop)->Prop}{R0:List V->Hp->Prop}{P:V->Hp->Prop}{pl:Sem Bool}(M:Mt X.prog X.w X.K X.mg X.base j C m ps (spp R))(hr:Room k X.A)(ho:Ev X o Z H (.ref ad))(hH:H ad=some (.ins C dx fs))(l:fs.lookup m=none)
  (h:∀H1,Same H H1->AvP X (e::es) Z H1 R0) (hR:∀vs H1,Same H H1->R0 vs H1->∃P1,R (.ref ad::vs) H1 P1/\∀v H2,Same H1 H2->P1 v H2->P v H2) (hjk:j<=k:=by decide)
  (hst:starEach (e::es) X.env=(false,eval e X.env)::starEach es X.env:=by rfl) (hpl:(backTo pos (starEach es X.env)).any (·.1)=false:=by rfl)
  (ht:eval (.Call (.Attribute o m apos) (e::es) [] pos) X.env=(do
   let ov<-eval o X.env
   standAt apos.atName
   let(f,first)<-holding [ov] (getMethod ov m pl)
   callWith pos f first (backTo pos (starEach (e::es) X.env)) (backToKw pos (keywordEach [] X.env))):=by rfl):EvP X (.Call (.Attribute o m apos) (e::es) [] pos) Z H P:=
 λQ q=>methE M (hr.mono hjk) ho hH l (λH1 s1=>h H1 s1 _ λvs H2 s2 z=>by
  obtain⟨P1,r,y⟩:=hR vs H2 (s1.trans s2) z
  exact⟨P1,r,λv H3 s3 u=>q v H3 ((s1.trans s2).trans s3) (y v H3 s3 u)⟩) hst hpl ht
theorem setP (n:Nat){P:V->Hp->Prop}(hN:X.N.Nodup)(h:EvP X e Z H P)(k:∀v H',Same H H'->P v H'->D.nx (Z.set n (some v)) H')(hi:X.N[n]?=some x:=by rfl)(hx:Loc X.env.scope x:=by first|exact Or.inl rfl|exact Or.inr rfl)(hs:swapsWith e (some (.Name x pos')) pos.line X.env=pure false:=by rfl)(hf:X.fn x=true\/X.env.scope.names.lookup x=some .local:=by first|exact .inl rfl|exact .inr rfl):
  tS X (.Assign [.Name x pos'] e pos) D Z H:=setE n (h _ k) hN hi hx hs hf
theorem get1 {p:Addr}{oo:Option V}{y:V}(hu:X.A.units+1<cLine)(ho:Ev X o Z H (.ref p))(hp:IsD H p)(hy:∀H1,Same H H1->Ev X e Z H1 y)(hd:∀H1,Same H H1->DGet H1 p y oo)(hI:∀H1,Same H H1->IsD H1 p)(m:M1 X o "get" apos e pos):Ev X (.Call (.Attribute o "get" apos) [e] [] pos) Z H (oo.getD .non):=λQ q=>
 goE (pe_dget1 hu (okE o) (okE e) m) (ho _ λH1 s1=>⟨p,rfl,hI H1 s1,hy H1 s1 _ λH2 s2=>⟨oo,hd H2 (s1.trans s2),q H2 (s1.trans s2)⟩⟩)
end
end Vm
namespace Vm
open PySem PySem.Spec PyProof.Rows L2 RR
section
variable {X:Cx}{Z:Sg}{H:Hp}{D:Ends}{pos pos' apos:Pos}{o i e value a b c:Expr}{es rest:List Expr}{p q:List Stmt}{v:V}{x:Str}
theorem ifF (h:Tv X c Z H false)(k:∀H1,Same H H1->D.nx Z H1):tS X (.If c p [] pos) D Z H:=if_ h (λz=>nomatch z) λ_ H1 s1=>bnil (k H1 s1)
theorem ifT (h:Tv X c Z H true)(k:∀H1,Same H H1->tB X p D Z H1):tS X (.If c p q pos) D Z H:=if_ h (λ_=>k) (λz=>nomatch z)
theorem ifR {bb:Bool}(h:Tv X c Z H bb)(k1:bb=true->∀H1,Same H H1->tB X p D Z H1)(k2:bb=false->∀H1,Same H H1->D.nx Z H1):tS X (.If c p [] pos) D Z H:=if_ h k1 λz H1 s1=>bnil (k2 z H1 s1)
theorem wandF (h:Tv X a Z H false):Wv X (.BoolOp .And (a::c::rest) pos) Z H false:=wand (b1:=false) h (λz=>nomatch z)
theorem and2 {a1 b1:Bool}(h:Tv X a Z H a1)(h2:a1=true->∀H1,Same H H1->Tv X c Z H1 b1):Tv X (.BoolOp .And [a,c] pos) Z H (a1&&b1):=(wand h λz H1 s1=>wand1 (h2 z H1 s1)).tv
theorem or2 {a1 b1:Bool}(h:Tv X a Z H a1)(h2:a1=false->∀H1,Same H H1->Tv X c Z H1 b1):Tv X (.BoolOp .Or [a,c] pos) Z H (a1||b1):=(wor h λz H1 s1=>wor1 (h2 z H1 s1)).tv
theorem vand2 {a1 b1:Bool}(h:Ev X a Z H (.bl a1))(h2:a1=true->∀H1,Same H H1->Ev X c Z H1 (.bl b1)):Ev X (.BoolOp .And [a,c] pos) Z H (.bl (a1&&b1)):=vand h λz H1 s1=>vone (h2 z H1 s1)
theorem vor2 {a1 b1:Bool}(h:Ev X a Z H (.bl a1))(h2:a1=false->∀H1,Same H H1->Ev X c Z H1 (.bl b1)):Ev X (.BoolOp .Or [a,c] pos) Z H (.bl (a1||b1)):=vor h λz H1 s1=>vone (h2 z H1 s1)
theorem strEq {s t:Str}{k:Bool}(h:(s==t)=k):decide (V.str s=V.str t)=k:=by
 cases k with
 |true=>exact decide_eq_true (by rw[eq_of_beq h])
 |false=>exact decide_eq_false λe=>by injection e with e;rw[e,beq_self_eq_true]at h;cases h
theorem teqS {s t:Str}{k:Bool}(ha:Ev X a Z H (.str s))(hb:∀H1,Same H H1->Ev X b Z H1 (.str t))(h:(s==t)=k:=by decide):Tv X (.Compare a [.Eq] [b] pos) Z H k:=(teq ha hb).to (strEq h)
theorem eqS {s t:Str}{k:Bool}(ha:Ev X a Z H (.str s))(hb:∀H1,Same H H1->Ev X b Z H1 (.str t))(h:(s==t)=k:=by decide):Ev X (.Compare a [.Eq] [b] pos) Z H (.bl k):=(eq_ ha hb).to (by rw[strEq h])
theorem intEq (i j:Int):decide (V.int i=V.int j)=decide (i=j):=by
 by_cases h:i=j
 ·rw[decide_eq_true h,decide_eq_true (by rw[h])]
 ·rw[decide_eq_false h,decide_eq_false λe=>by injection e with e;exact h e]
theorem teqI {i j:Int}(ha:Ev X a Z H (.int i))(hb:∀H1,Same H H1->Ev X b Z H1 (.int j)):Tv X (.Compare a [.Eq] [b] pos) Z H (decide (i=j)):=(teq ha hb).to (intEq i j)
theorem tneI {i j:Int}(ha:Ev X a Z H (.int i))(hb:∀H1,Same H H1->Ev X b Z H1 (.int j)):Tv X (.Compare a [.NotEq] [b] pos) Z H (!decide (i=j)):=(tne ha hb).to (by rw[intEq])
theorem eqI {i j:Int}(ha:Ev X a Z H (.int i))(hb:∀H1,Same H H1->Ev X b Z H1 (.int j)):Ev X (.Compare a [.Eq] [b] pos) Z H (.bl (decide (i=j))):=(eq_ ha hb).to (by rw[intEq])
theorem neI {i j:Int}(ha:Ev X a Z H (.int i))(hb:∀H1,Same H H1->Ev X b Z H1 (.int j)):Ev X (.Compare a [.NotEq] [b] pos) Z H (.bl (!decide (i=j))):=(ne_ ha hb).to (by rw[intEq])
end
end Vm
namespace Vm
open PySem PySem.Spec PyProof.Rows L2 RR
section
variable {X:Cx}{Z:Sg}{H:Hp}{D:Ends}{pos pos' apos:Pos}{o i e f value a b c:Expr}{es rest:List Expr}{v:V}{x:Str}
theorem ixG {p:Addr}{y:V}(hu:X.A.units+1<cLine)(ha:Ev X a Z H (.ref p))(hb:∀H1,Same H H1->Ev X b Z H1 y)(hd:∀H1,Same H H1->DGet H1 p y (some v))(hp:NoSl b:=by exact λ_ _=>rfl):Ev X (.Subscript a b pos) Z H v:=
 λQ q=>goE (pe_dget hu (okE a) (okE b) hp) (ha _ λH1 s1=>hb H1 s1 _ λH2 s2=>⟨p,v,rfl,hd H2 (s1.trans s2),q H2 (s1.trans s2)⟩)
theorem get2P {p:Addr}{oo:Option V}{y:V}{Pz:V->Hp->Prop}(hu:X.A.units+1<cLine)(ho:Ev X o Z H (.ref p))(hI:∀H1,Same H H1->IsD H1 p)(hy:∀H1,Same H H1->Ev X e Z H1 y)(hz:∀H1,Same H H1->EvP X f Z H1 Pz)(hd:∀H1,Same H H1->DGet H1 p y oo)(m:M2 X o "get" apos e f pos):EvP X (.Call (.Attribute o "get" apos) [e,f] [] pos) Z H (λv H'=>∃z,Pz z H'/\v=oo.getD z):=λQ q=>
 goE (pe_dget2 hu (okE o) (okE e) (okE f) m) (ho _ λH1 s1=>⟨p,rfl,hI H1 s1,hy H1 s1 _ λH2 s2=>hz H2 (s1.trans s2) _ λz H3 s3 hz3=>⟨oo,hd H3 ((s1.trans s2).trans s3),q _ H3 ((s1.trans s2).trans s3) ⟨z,hz3,rfl⟩⟩⟩)
theorem eqD {y:V}{d e':PyData}{Pz:V->Hp->Prop}(hu:X.A.units+64<cLine)(ha:Ev X a Z H y)(hb:∀H1,Same H H1->EvP X b Z H1 Pz)(hd:∀H1,Same H H1->Dp X.K H1 y d)(he:∀z H1,Same H H1->Pz z H1->Dp X.K H1 z e')(sd:SeqAt.shaped d=true)(se:SeqAt.shaped e'=true):Ev X (.Compare a [.Eq] [b] pos) Z H (.bl (PyData.eqv d e')):=λQ q=>
 goE (pe_cmpR (op_eqD hu) (okE a) (okE b) (nomark _)) (ha _ λH1 s1=>hb H1 s1 _ λz H2 s2 hz=>⟨d,e',hd H2 (s1.trans s2),he z H2 (s1.trans s2) hz,sd,se,q H2 (s1.trans s2)⟩)
end
end Vm
namespace Vm
open PySem PySem.Spec PyProof.Rows L2 RR
section
variable {X:Cx}{Z:Sg}{H:Hp}{D:Ends}{pos pos' apos:Pos}{o i e f value a b c:Expr}{es rest:List Expr}{v:V}{x:Str}
theorem extend {ad bd:Addr}{xs zs:List V}{Q:VK}(ho:Ev X o Z H (.ref ad))(hH:H ad=some (.lst xs))(he:∀H1,Same H H1->Ev X e Z H1 (.ref bd))(hB:H bd=some (.lst zs))(hl:xs.length+zs.length<=sizeLine)(k:∀H1,Same H H1->Q .non (upd H1 ad (.lst (xs++zs))))
  (hbase:attributeBase o "extend" X.env (eval o X.env)=eval o X.env:=by rfl)
  (hfew:((backTo pos (starEach [e] X.env)).all (λx=>!x.1)&&(backToKw pos (keywordEach [] X.env)).all (λx=>x.1.isSome)&&decide (([e]:List Expr).length+([]:List Keyword).length+(if([]:List Keyword).isEmpty then 0 else 1)<30))=true:=by rfl)
  (hline:(apos.endLine==pos.line)=true:=by rfl) (hs:starEach [e] X.env=(false,eval e X.env)::starEach [] X.env:=by rfl) (hplain:(backTo pos (starEach [] X.env)).any (·.1)=false:=by rfl):tE X (.Call (.Attribute o "extend" apos) [e] [] pos) Z H Q:=
 goE (pe_bm PySem.F.plainAttrs_list PySem.F.slot_list_extend PySem.F.type_list_extend mt_extend (okE o) (okA [e]) hbase hfew hline hs hplain) (ho _ λH1 s1=>⟨.inl ⟨rfl,_,SqL.of (s1 _ _ hH)⟩,one (he H1 s1) hs _ λH2 s2=>⟨ad,bd,xs,zs,rfl,rfl,(s1.trans s2) _ _ hH,(s1.trans s2) _ _ hB,hl,k H2 (s1.trans s2)⟩⟩)
theorem extendP {ad:Addr}{xs zs:List V}{Q:VK}(ho:Ev X o Z H (.ref ad))(hH:H ad=some (.lst xs))(he:∀H1,Same H H1->EvP X e Z H1 (NewL H1 zs))(hl:xs.length+zs.length<=sizeLine)(k:∀H1,Same H H1->Q .non (upd H1 ad (.lst (xs++zs))))
  (hbase:attributeBase o "extend" X.env (eval o X.env)=eval o X.env:=by rfl)
  (hfew:((backTo pos (starEach [e] X.env)).all (λx=>!x.1)&&(backToKw pos (keywordEach [] X.env)).all (λx=>x.1.isSome)&&decide (([e]:List Expr).length+([]:List Keyword).length+(if([]:List Keyword).isEmpty then 0 else 1)<30))=true:=by rfl)
  (hline:(apos.endLine==pos.line)=true:=by rfl) (hs:starEach [e] X.env=(false,eval e X.env)::starEach [] X.env:=by rfl) (hplain:(backTo pos (starEach [] X.env)).any (·.1)=false:=by rfl):tE X (.Call (.Attribute o "extend" apos) [e] [] pos) Z H Q:=
 goE (pe_bm PySem.F.plainAttrs_list PySem.F.slot_list_extend PySem.F.type_list_extend mt_extend (okE o) (okA [e]) hbase hfew hline hs hplain) (ho _ λH1 s1=>⟨.inl ⟨rfl,_,SqL.of (s1 _ _ hH)⟩,goA (pa_cons (okE e) pa_nil hs) (he H1 s1 _ λv H2 s2 ⟨p,ev,_,hp⟩=>⟨ad,p,xs,zs,rfl,by rw[ev],(s1.trans s2) _ _ hH,hp,hl,k H2 (s1.trans s2)⟩)⟩)
theorem while_ {c:Expr}{body:List Stmt}(W:Nat->Sg->Hp->Prop){m:Nat}(h0:W m Z H)(turn:∀m Z H,W m Z H->∃bb,Tv X c Z H bb/\(bb=true->∀H1,Same H H1->tB X body {D with nx:=λZ' H'=>∃m',m'<m/\W m' Z' H',ct:=λZ' H'=>∃m',m'<m/\W m' Z' H',bk:=D.nx} Z H1)/\(bb=false->∀H1,Same H H1->D.nx Z H1))
  (hp:PassesOwn (model X.prog X.w) X.A X.env X.xe:=by exact PassesOwn.never):tS X (.While c body [] pos) D Z H:=
 goS (ps_while hp (okT c) (okB body)) ⟨W,⟨m,h0⟩,λm Z H hw=>by
  obtain⟨bb,ht,h1,h2⟩:=turn m Z H hw
  refine ht _ λH1 s1=>?_
  cases bb with
  |true=>rw[if_pos rfl];exact⟨_,λ_ _ z=>z,h1 rfl H1 s1⟩
  |false=>rw[if_neg Bool.false_ne_true];exact h2 rfl H1 s1⟩
theorem meth0E {k:Nat}{C ad dx:Addr}{fs:List (Str×V)}{m:Str}{ps:List Str}{sp:Sp}{Q:VK}{pl:Sem Bool}(M:Mt X.prog X.w X.K X.mg X.base k C m ps sp)(hr:Room k X.A)(ho:Ev X o Z H (.ref ad))(hH:H ad=some (.ins C dx fs))(l:fs.lookup m=none)
  (h:∀H1,Same H H1->sp [.ref ad] H1 Q E0)
  (ht:eval (.Call (.Attribute o m apos) [] [] pos) X.env=(do
   let ov<-eval o X.env
   standAt apos.atName
   let(f,first)<-holding [ov] (getMethod ov m pl)
   callWith pos f first (backTo pos (starEach [] X.env)) (backToKw pos (keywordEach [] X.env))):=by rfl):tE X (.Call (.Attribute o m apos) [] [] pos) Z H Q:=by
 obtain⟨f,fd,hm,F,b⟩:=M.ex
 exact goE (pe_meth0 (dvs:=[]) (ds:=[]) (E:=E0) (okE o) M.cl hm F hr b .nil pass0 ht) (ho _ λH1 s1=>⟨ad,dx,fs,rfl,s1 _ _ hH,l,h H1 s1⟩)
end
end Vm
namespace Vm
open PySem PySem.Spec PyProof.Rows L2 RR
section
variable {X:Cx}{Z:Sg}{H:Hp}{pos:Pos}{es:List Expr}
theorem tupA {vs:List V}{j}(h:Av X es Z H vs)(hl:vs.length<=1000:=by exact Nat.le_of_ble_eq_true rfl):EvP X (.Tuple es j pos) Z H (λv H'=>∃p,v=.ref p/\H' p=some (.tup vs)):=(tup h hl).mono λ_ _ _ ⟨p,e,_,h⟩=>⟨p,e,h⟩
theorem newLA:EvP X (.List [] pos) Z H (λv H'=>∃p,v=.ref p/\H' p=some (.lst [])):=newL.mono λ_ _ _ ⟨p,e,_,h⟩=>⟨p,e,h⟩
end
end Vm
namespace SD
open PySem
section
variable {prog:Program}{w:World}{K:Type}[DecidableEq K]{knd:HeapKind prog w K}{A:Around}{E:Value->Shared->Prop}{s:Shared}{d a:Addr}{k:K}{xs:List (K×Addr×Value)}
theorem setDefault_heap {dflt:Value}{Q:Value->Shared->Prop}(hu:knd.room A)(hkey:knd.is s.heap k a)(hm:s.heap.DictOfH knd d xs)
  (h1:∀p,atKey xs k=some p->Q p.2 {s with toks:=s.toks+knd.draws k})
  (h2:atKey xs k=none->∀h',h'.DictOfH knd d (xs++[(k,a,dflt)])->Heap.SameBut d s.heap h'->Q dflt {s with heap:=h',toks:=s.toks+knd.draws k})
  (hsz:xs.length<=sizeLine):wpAny (model prog w) A (dictSetDefault d (.ref a) dflt) Q E s:=by
 obtain⟨o,es,ep,ho,hc,hd,he,his,hn⟩:=hm
 unfold dictSetDefault
 try with_reducible refine wpAny_holding ?_
 refine wpAny_bind (knd.pyHash hu hkey ?_)
 refine wpAny_bind (wpAny_dictFind_heap (s:={s with toks:=s.toks+knd.draws k}) hu hkey ho hd he his hn ?_ ?_)
 ·intro hno
  have hnone:=atKey_none_of_get hno
  have hnot:k∉xs.map (·.1):=not_mem_keys_of_get hno
  refine wpAny_bind (wpAny_rule (wpAny_bind (wpAny_updateDictKeys (hz:=by have e:=size_of_entries he;omega) (s:={s with toks:=s.toks+knd.draws k}) ho hd (wpAny_pure (h2 hnone _ ⟨_,_,ep+1,Heap.get?_update_self _ ho (Obj.isFreed_of_dict (Obj.data_mapDictKeys hd _)),
   hc.mapDictKeys _,Obj.data_mapDictKeys hd _,?_,?_,?_⟩ (Heap.SameBut.update ..))))))
  ·simp[he,entryOfKey]
  ·intro x hx
   rcases List.mem_append.mp hx with hx|hx
   ·exact knd.keeps (his x hx) ho hd (Heap.SameBut.update ..)
   ·simp only[List.mem_singleton]at hx
    subst hx
    exact knd.keeps hkey ho hd (Heap.SameBut.update ..)
  ·rw[List.map_append,List.nodup_append]
   refine⟨hn,by simp,?_⟩
   intro x hx y hy
   simp only[List.map_cons,List.map_nil,List.mem_singleton]at hy
   subst hy
   exact λe=>hnot (e▸hx)
 ·intro j p hj
  refine wpAny_bind (wpAny_dictEntries (s:={s with toks:=s.toks+knd.draws k}) ho hd ?_)
  rw[entry_at he j,hj]
  exact wpAny_bind (wpAny_rule (wpAny_pure (h1 p (atKey_of_get hn hj))))
theorem meets_setdefault (knd:HeapKind prog w K)(d a:Addr)(hd:(d==sysModules)=false)(dflt:Value):
  MeetsIn prog w (Builtin.«dict.setdefault» ⟨[.ref d,.ref a,dflt],[]⟩) (λA R s=>knd.room A.in1/\∃k xs,knd.is s.heap k a/\s.heap.DictOfH knd d xs/\xs.length<=sizeLine/\
   (∀p,atKey xs k=some p->R (.ok (.ret p.2)) {s with toks:=s.toks+knd.draws k})/\
   (atKey xs k=none->∀h',h'.DictOfH knd d (xs++[(k,a,dflt)])->Heap.SameBut d s.heap h'->R (.ok (.ret dflt)) {s with heap:=h',toks:=s.toks+knd.draws k})):=
 .of_wp λA R s ⟨hu,k,xs,hkey,hm,hz,h1,h2⟩=>by
  unfold Builtin.«dict.setdefault»
  refine wpAny_bind ?_
  unfold Builtin.Dict.keyAndDefault
  refine wpAny_bind (wpAny_notOrdered_dict hm.typeIs ?_)
  show wpAny _ _ (pure (d,Value.ref a,some dflt)) _ _ s
  refine wpAny_pure ?_
  show wpAny _ _ (if(d==sysModules)=true then _ else(dictSetDefault d (.ref a) dflt>>=_)) _ _ s
  rw[if_neg (by rw[hd];exact Bool.false_ne_true)]
  exact wpAny_bind (setDefault_heap hu hkey hm (λp hp=>wpAny_pure ⟨p.2,rfl,h1 p hp⟩) (λhn h' hm' hs'=>wpAny_pure ⟨dflt,rfl,h2 hn h' hm' hs'⟩) hz)
end
section
open PySem.W PyProof.Rows PySem.Calls
variable {prog:Program}{w:World}{A:Around}{E:Value->Shared->Prop}{s:Shared}{T:String}{r d:Addr}{n:Nat}{P:Nat->Value->Prop}{OK:Heap->Prop}{Q:Value->Shared->Prop}
theorem sorted_src (K:KdlSrc prog w T r d n P OK)(hh:A.handled=none)(hok:OK s.heap)(hn:n<=sizeLine)
  (h:∀(h':Heap) (tk:Nat) (vs:List Value),(∀b o,s.heap.get? b=some o->h'.get? b=some o)->vs.length=n->(∀(j:Nat) (v:Value),vs[j]?=some v->P j v)->
   wpAny (model prog w) A.in1 (call (.builtin "list.sort") [.ref h'.objs.size]) (λ_ s'=>Q (.ref h'.objs.size) s') E {s with heap:=h'.push {cls:=.type "list",data:=.seq vs.toArray},toks:=tk}):
  wpAny (model prog w) A (call (.builtin "sorted") [.ref r]) Q E s:=by
 refine call_function_entry kind_sorted plain_sorted entry_sorted (args_sorted1 _) ?_
 unfold Builtin.«sorted»
 refine wpAny_bind (m:=checkCount "sorted" 1 1 _) (wpAny_pure ?_)
 refine wpAny_bind (kdu_collect (A:=A.in1) K hh hok hn λh' tk acc hk hacc=>?_)
 have hl:acc.toList.length=n:=by rw[Array.length_toList];exact hacc.1
 refine wpAny_bind (wpAny_newList ?_ (by rw[hl];exact hn))
 have hg:=h h' tk acc.toList hk hl (λj v e=>hacc.2 j v (by rw[<-Array.getElem?_toList];exact e))
 refine wpAny_bind (wpAny_holding (wpAny_mono hg (λ_ s' x=>?_) λ_ _ e=>e))
 exact wpAny_pure ⟨_,rfl,x⟩
end
end SD
namespace RR
open PySem PySem.Spec PyProof.Rows L2
section
variable {X:Cx}{o e f:Expr}{apos cpos:Pos}{td ty tx:TE}
def tSetD (td ty tx:TE):TE:=λZ H Q=>td Z H λx H1=>∃a,x=.ref a/\IsD H1 a/\ty Z H1 λy H2=>tx Z H2 λz H3=>∃kvs k b,H3 a=some (.dT kvs)/\y=.ref b/\H3 b=some (.tup (k.map kV))/\kvs.length<sizeLine/\
 (∀v,valV kvs k=some v->Q v H3)/\(valV kvs k=none->Q z (upd H3 a (.dT (kvs++[(k,z)]))))
theorem pe_setD (hu:X.A.units+1<cLine)(ho:PE X o td)(he:PE X e ty)(hf:PE X f tx)(m:M2 X o "setdefault" apos e f cpos):PE X (.Call (.Attribute o "setdefault" apos) [e,f] [] cpos) (tSetD td ty tx):=by
 intro pins s Z H Q I h
 refine wpAny_Call_method m.base m.few m.line PySem.F.plainAttrs_dict PySem.F.slot_dict_setdefault PySem.F.type_dict_setdefault (thn (ho pins s Z H _ I h) λu s1 ⟨x,H1,I1,rx,a,ex,d,q1⟩=>?_)
 subst ex
 obtain rfl:u=Value.ref a:=rx
 obtain⟨t1,t2,_⟩:=isD_at I1 d
 refine⟨t1,t2,?_⟩
 rw[m.trees]
 refine Calls.callWith_builtin rfl (Calls.evalArgs_plain (Calls.spliced_cons (thn (he pins s1 Z H1 _ I1 q1) λiv s2 ⟨y,H2,I2,ry,q2⟩=>
  Calls.spliced_cons (thn (hf pins s2 Z H2 _ I2 q2) λfv s3 ⟨z,H3,I3,rz,kvs,k,b,ea,ey,eb,ln,q3,q4⟩=>Calls.spliced_nil ?_))))
 subst ey
 cases (show iv=Value.ref b from ry)
 obtain⟨zz,hd,xs,rel,dd⟩:=dt_of I3.hok ea
 have hz:xs.length<=sizeLine:=by rw[<-Paired.length rel];exact zz
 refine call_meetsIn PySem.F.slot_dict_setdefault dd.typeIs PySem.F.entry_dict_setdefault (PySem.F.args_dict_setdefault_3 _ _ _) (SD.meets_setdefault (tupleKind (mixKind X.prog X.w)) a b hd fv) ⟨tupleKind_room_in1 hu,k,xs,key_of I3.hok eb,dd,hz,λp hp=>?_,λhn h' dd' hs=>?_⟩
 ·have q:=rel.val k
  rw[hp]at q
  cases hv:valV kvs k with
  |none=>rw[hv]at q;exact absurd q (λz=>z)
  |some v=>rw[hv]at q;exact⟨v,H3,I3.tok _,q,q3 v hv⟩
 ·have q:=rel.val k
  rw[hn]at q
  cases hv:valV kvs k with
  |some v=>rw[hv]at q;exact absurd q (λz=>z)
  |none=>
   obtain⟨oo,es,ep,hq,h2,h3,h4,_,h5⟩:=dd'
   refine⟨z,_,d_write (ob:=.dT (kvs++[(k,z)])) I3 (by rw[ea];exact True.intro) hs ⟨oo,hq⟩ ⟨by rw[List.length_append];show kvs.length+1<=_;omega,hd,_,KT.keeps (H:=H3) (kvs:=kvs++[(k,z)]) (xs:=xs++[(k,b,fv)]) (Paired.snoc rel ⟨rfl,eb,rz⟩) (λc ys ec=>?_),oo,es,ep,hq,h2,h3,h4,h5⟩,rz,q4 hv⟩
   rw[upd_ne (ne_of ec ea (λz=>nomatch z))]
   exact ec
end
section
variable {X:Cx}
theorem ints_keys {P:Program}{w:World}:∀{ns:List Int} {us:List Value},us.length=ns.length->(∀(j:Nat) (v:Value),us[j]?=some v->∃k:Key,ns[j]?.map Sum.inl=some k/\(mixKind P w).is k v=true)->IntsAre us ns
 |[],[],_,_=>.nil
 |n::ns,u::us,hl,h=>by
  obtain⟨k,hk,hi⟩:=h 0 u rfl
  cases hk
  obtain⟨i,t,e1,e2⟩|⟨x,t,e1,_⟩:=keyIs_shape (show keyIs (Sum.inl n) u=true from hi)
  ·cases e1;subst e2
   exact .cons n t (ints_keys (by simpa using hl) λj v hj=>h (j+1) v hj)
  ·cases e1
theorem call_sortedD (hc:X.calm=true):CallR X (.builtin "sorted") (λvs H Q=>∃(a:Addr) (kvs:List (Key×V)) (ns:List Int),vs=[V.ref a]/\Rd H a (.dK kvs)/\kvs.map (·.1)=ns.map Sum.inl/\ns.length<64/\
  ∀(ns':List Int) (p:Addr),ns'.Perm ns->ns'.Pairwise (·<=·)->H p=none->Q (.ref p) (upd H p (.lst (ns'.map V.int)))):=by
 intro pins s Z H vs us Q I r h
 obtain⟨a,kvs,ns,rfl,hs,hk,h64,q⟩:=h
 rw[Vals.ref1 r]
 obtain⟨z,hd,ws,rel,dd⟩:=dk_rd I.hok hs
 obtain⟨ep,hat⟩:=dd.dictAt
 have hkeys:ws.map (·.1)=ns.map Sum.inl:=by rw[<-rel.keys];exact hk
 have hlen:ws.length=ns.length:=by rw[<-List.length_map (f:=(·.1)) (as:=ws),hkeys,List.length_map]
 refine SD.sorted_src (PySem.W.kdl_dict (knd:=mixKind X.prog X.w) (kvs:=ws) (ep:=ep) hd) (I.ok.hd hc) hat (by rw[hlen];exact small64 h64) λh' tk us' hkp hl hv=>?_
 have hi:IntsAre us' ns:=ints_keys (by rw[hl,hlen]) λj v hj=>by
  obtain⟨k,x,hx,hy⟩:=hv j v hj
  refine⟨k,?_,hy⟩
  have e:(ws.map (·.1))[j]?=some k:=by rw[List.getElem?_map,hx];rfl
  rw[hkeys,List.getElem?_map]at e
  exact e
 have hob:(h'.push {cls:=.type "list",data:=.seq us'.toArray}).get? h'.objs.size=some {cls:=.type "list",data:=.seq us'.toArray 0}:=Heap.get?_push_size _ rfl
 refine wpAny_call_entry PyProof.Rows.slot_list_sort ⟨_,hob,rfl⟩ PyProof.Rows.entry_list_sort
  (PyProof.Rows.list_sort_tree (s:={s with heap:=h'.push {cls:=.type "list",data:=.seq us'.toArray},toks:=tk}) hob hi (by rw[hi.length];exact h64) λout ns' h1 h2 h3=>⟨.none,rfl,?_⟩) (PyProof.Rows.args_list_sort _)
 obtain⟨ep',he'⟩:=PyProof.Rows.sortedHeap_at (vs:=us') (out:=out) hob
 have hlen':(ns'.map V.int).length<=sizeLine:=by rw[List.length_map,h2.length_eq];exact small64 h64
 have I':Inv X pins Z H {s with heap:=h',toks:=tk}:=I.kept hkp
 refine⟨.ref _,upd H h'.objs.size (.lst (ns'.map V.int)),I'.laid (t':=tk) (λb ob hb=>?_) (Nat.le_refl _) ⟨hlen',out.toList,ep',vals_of_ints h1,he'⟩,rfl,q ns' _ h2 h3 (I'.hok.fresh (Nat.le_refl _))⟩
 have hb':b<h'.objs.size:=Heap.lt_size hb
 rw[PyProof.Rows.sortedHeap_old (Nat.ne_of_lt hb') (by rw[Heap.size_push];exact Nat.lt_succ_of_lt hb')]
 exact Heap.get?_push_of_some _ hb
end
end RR
namespace Vm
open PySem PySem.Spec PyProof.Rows L2 RR
section
variable {X:Cx}{Z:Sg}{H:Hp}{D:Ends}{pos pos' apos cpos tpos tp:Pos}{o i e f value a b c iter:Expr}{body:List Stmt}{v:V}{x y:Str}
theorem augE {n m:Int}(j:Nat)(hN:X.N.Nodup)(h0:Z[j]?=some (some (.int n)))(h:Ev X e Z H (.int m))(k:∀H',Same H H'->D.nx (Z.set j (some (.int (n+m)))) H')(hj:X.N[j]?=some x:=by rfl)(hx:Loc X.env.scope x:=by exact Or.inl rfl)(hf:X.fn x=true\/X.env.scope.names.lookup x=some .local:=by first|exact .inl rfl|exact .inr rfl):tS X (.AugAssign (.Name x pos') .Add e pos) D Z H:=
 aug j hN h0 (h _ λH1 s1=>⟨rfl,k H1 s1⟩) hj hx hf
abbrev lkd (D:Ends)(d:Addr)(od:Obj)(u:HO):Ends:=⟨λZ' H'=>H' d=some (.frz od u)/\D.nx Z' (upd H' d u),λv H'=>H' d=some (.frz od u)/\D.rt v (upd H' d u),λZ' H'=>H' d=some (.frz od u)/\D.bk Z' (upd H' d u),λZ' H'=>H' d=some (.frz od u)/\D.ct Z' (upd H' d u)⟩
theorem forKeys (j:Nat){d:Addr}{kvs:List (Key×V)}(hN:X.N.Nodup)(hd:H d=some (.dK kvs))(hit:∀od,Ev X iter Z (upd H d (.frz od (.dK kvs))) (.ref d))
  (k:∀od H1,Same (upd H d (.frz od (.dK kvs))) H1->∃W:Nat->Sg->Hp->Prop,W 0 Z H1/\(∀i Z' H',W i Z' H'->H' d=some (.frz od (.dK kvs)))/\
   (∀i (p:Key×V) Z' H',kvs[i]?=some p->W i Z' H'->tB X body {lkd D d od (.dK kvs)with nx:=W (i+1),ct:=W (i+1),bk:=(lkd D d od (.dK kvs)).nx} (Z'.set j (some (kV p.1))) H')/\∀Z' H',W kvs.length Z' H'->D.nx Z' (upd H' d (.dK kvs)))
  (hj:X.N[j]?=some x:=by rfl) (hx:Loc X.env.scope x:=by exact Or.inl rfl) (hf:X.fn x=true\/X.env.scope.names.lookup x=some .local:=by first|exact .inl rfl|exact .inr rfl) (hc:X.calm=true:=by rfl) (hs:∀y,foldedSetIterable iter X.env y=pure y:=by intro _;rfl)
  (hp:PassesOwn (model X.prog X.w) X.A X.env X.xe:=by exact PassesOwn.never):tS X (.For (.Name x tp) iter body [] pos) D Z H:=by
 refine goS (ps_lock (ps_for hp hc (pi_keys (okE iter)) (pg_name (i:=j) hN hj hx hf) (okB body) hs)) ⟨d,_,hd,trivial,λod=>?_⟩
 show tE X iter Z _ _
 refine hit od _ λH1 s1=>⟨d,od,rfl,.inl ⟨kvs,s1 _ _ upd_same,?_⟩⟩
 obtain⟨W,w0,wf,turn,fin⟩:=k od H1 s1
 refine⟨λi m Z' H'=>m=kvs.length-i/\i<=kvs.length/\W i Z' H',⟨_,rfl,Nat.zero_le _,w0⟩,?_⟩
 rintro i m Z' H' ⟨rfl,hi,hw⟩
 have fz:=wf i Z' H' hw
 by_cases hlt:i<kvs.length
 ·refine .inr ⟨⟨fz,hlt⟩,W (i+1),λZ2 H2 h2=>⟨kvs.length-(i+1),by omega,rfl,hlt,h2⟩,?_⟩
  rintro u H2 ⟨rfl,kk,vv,h2,rfl⟩
  exact turn i (kk,vv) Z' _ h2 hw
 ·have e:i=kvs.length:=by omega
  subst e
  exact .inl ⟨⟨fz,Nat.le_refl _⟩,fz,fin Z' H' hw⟩
theorem forItems (j n:Nat){d:Addr}{kvs:List (Key×V)}{kk:Nat}{px py:Pos}(hN:X.N.Nodup)(hd:H d=some (.dK kvs))(hit:∀od,Ev X iter Z (upd H d (.frz od (.dK kvs))) (.ref d))
  (k:∀od H1,Same (upd H d (.frz od (.dK kvs))) H1->∃W:Nat->Sg->Hp->Prop,W 0 Z H1/\(∀i Z' H',W i Z' H'->H' d=some (.frz od (.dK kvs)))/\
   (∀i (p:Key×V) Z' H' (t:Addr),kvs[i]?=some p->W i Z' H'->H' t=none->tB X body {lkd D d od (.dK kvs)with nx:=W (i+1),ct:=W (i+1),bk:=(lkd D d od (.dK kvs)).nx} ((Z'.set j (some (kV p.1))).set n (some p.2)) (upd H' t (.tup [kV p.1,p.2])))/\∀Z' H',W kvs.length Z' H'->D.nx Z' (upd H' d (.dK kvs)))
  (hj:X.N[j]?=some x:=by rfl) (hx:Loc X.env.scope x:=by exact Or.inl rfl) (hf:X.fn x=true\/X.env.scope.names.lookup x=some .local:=by first|exact .inl rfl|exact .inr rfl)
  (hn:X.N[n]?=some y:=by rfl) (hy:Loc X.env.scope y:=by exact Or.inl rfl) (hfy:X.fn y=true\/X.env.scope.names.lookup y=some .local:=by first|exact .inl rfl|exact .inr rfl) (hc:X.calm=true:=by rfl)
  (hbase:attributeBase iter "items" X.env (eval iter X.env)=eval iter X.env:=by rfl) (hline:(apos.endLine==cpos.line)=true:=by rfl) (hs:∀y,foldedSetIterable (.Call (.Attribute iter "items" apos) [] [] cpos) X.env y=pure y:=by intro _;rfl)
  (hp:PassesOwn (model X.prog X.w) X.A X.env X.xe:=by exact PassesOwn.never):tS X (.For (.Tuple [.Name x px,.Name y py] kk tp) (.Call (.Attribute iter "items" apos) [] [] cpos) body [] pos) D Z H:=by
 refine goS (ps_lock (ps_for hp hc (pi_items (okE iter) hbase hline) (pg_tup (n:=2) hc (pgs_cons (pg_name (i:=j) hN hj hx hf) (pgs_cons (pg_name (i:=n) hN hn hy hfy) pgs_nil rfl) rfl) rfl rfl) (okB body) hs)) ⟨d,_,hd,trivial,λod=>?_⟩
 show tE X iter Z _ _
 refine hit od _ λH1 s1=>⟨d,od,kvs,rfl,s1 _ _ upd_same,?_⟩
 obtain⟨W,w0,wf,turn,fin⟩:=k od H1 s1
 refine⟨λi m Z' H'=>m=kvs.length-i/\i<=kvs.length/\W i Z' H',⟨_,rfl,Nat.zero_le _,w0⟩,?_⟩
 rintro i m Z' H' ⟨rfl,hi,hw⟩
 have fz:=wf i Z' H' hw
 by_cases hlt:i<kvs.length
 ·refine .inr ⟨⟨fz,hlt⟩,W (i+1),λZ2 H2 h2=>⟨kvs.length-(i+1),by omega,rfl,hlt,h2⟩,?_⟩
  rintro u H2 ⟨t,k1,v1,h2,rfl,ht,rfl⟩
  exact⟨t,_,rfl,SqT.of upd_same,rfl,_,_,rfl,_,_,rfl,rfl,turn i (k1,v1) Z' _ t h2 hw ht⟩
 ·have e:i=kvs.length:=by omega
  subst e
  exact .inl ⟨⟨fz,Nat.le_refl _⟩,fz,fin Z' H' hw⟩
theorem forList (j:Nat){xs:List V}(hN:X.N.Nodup)(hit:EvP X iter Z H (NewL H xs))
  (k:∀l H1,Same H H1->H l=none->H1 l=some (.lst xs)->∃W:Nat->Sg->Hp->Prop,W 0 Z H1/\(∀i Z' H',W i Z' H'->H' l=some (.lst xs))/\
   (∀i y Z' H',xs[i]?=some y->W i Z' H'->tB X body {D with nx:=W (i+1),ct:=W (i+1),bk:=D.nx} (Z'.set j (some y)) H')/\∀Z' H',W xs.length Z' H'->D.nx Z' H')
  (hj:X.N[j]?=some x:=by rfl) (hx:Loc X.env.scope x:=by exact Or.inl rfl) (hf:X.fn x=true\/X.env.scope.names.lookup x=some .local:=by first|exact .inl rfl|exact .inr rfl) (hc:X.calm=true:=by rfl) (hs:∀y,foldedSetIterable iter X.env y=pure y:=by intro _;rfl)
  (hp:PassesOwn (model X.prog X.w) X.A X.env X.xe:=by exact PassesOwn.never):tS X (.For (.Name x tp) iter body [] pos) D Z H:=by
 refine goS (ps_for hp hc (pi_list (okE iter)) (pg_name (i:=j) hN hj hx hf) (okB body) hs) ?_
 show tE X iter Z H _
 refine hit _ λv H1 s1 ⟨l,ev,hl,hx1⟩=>⟨l,ev,⟨xs,SqL.of hx1⟩,?_⟩
 obtain⟨W,w0,wf,turn,fin⟩:=k l H1 s1 hl hx1
 exact for_list (K:=X.K) (a:=l) (xs:=xs) W w0 (λi Z' H' _ hw=>SqL.of (wf i Z' H' hw)) (λi y Z' H' hy hw=>turn i y Z' H' hy hw) fin
theorem setdAppend {p ks:Addr}{kvs:List (List Key×V)}{k:List Key}{pos2 pos3 ap2:Pos}{Q:VK}(hu:X.A.units+1<cLine)(ho:Ev X o Z H (.ref p))(hp:H p=some (.dT kvs))(hy:∀H1,Same H H1->Ev X e Z H1 (.ref ks))(hk:H ks=some (.tup (k.map kV)))(hl:kvs.length<1000)
  (hv:∀H1,(∀c o,c≠p->H c=some o->H1 c=some o)->Ev X f Z H1 v)
  (q1:∀l xs,valV kvs k=some (.ref l)->H l=some (.lst xs)->xs.length<1000/\∀H1,Same H H1->Q .non (upd H1 l (.lst (xs++[v])))) (q0:∀u,valV kvs k=some u->∃l xs,u=.ref l/\H l=some (.lst xs))
  (q2:valV kvs k=none->∀l H1,H l=none->(∀c o,c≠p->H c=some o->H1 c=some o)->H1 p=some (.dT (kvs++[(k,.ref l)]))->H1 l=some (.lst [v])->Q .non H1)
  (m:M2 X o "setdefault" apos e (.List [] pos3) pos)
  (hbase:attributeBase (.Call (.Attribute o "setdefault" apos) [e,.List [] pos3] [] pos) "append" X.env (eval (.Call (.Attribute o "setdefault" apos) [e,.List [] pos3] [] pos) X.env)=eval (.Call (.Attribute o "setdefault" apos) [e,.List [] pos3] [] pos) X.env:=by rfl)
  (hfew:((backTo pos2 (starEach [f] X.env)).all (λx=>!x.1)&&(backToKw pos2 (keywordEach [] X.env)).all (λx=>x.1.isSome)&&decide (([f]:List Expr).length+([]:List Keyword).length+(if([]:List Keyword).isEmpty then 0 else 1)<30))=true:=by rfl)
  (hline:(ap2.endLine==pos2.line)=true:=by rfl) (hs:starEach [f] X.env=(false,eval f X.env)::starEach [] X.env:=by rfl) (hplain:(backTo pos2 (starEach [] X.env)).any (·.1)=false:=by rfl):
  tE X (.Call (.Attribute (.Call (.Attribute o "setdefault" apos) [e,.List [] pos3] [] pos) "append" ap2) [f] [] pos2) Z H Q:=by
 refine goE (pe_bm PySem.F.plainAttrs_list PySem.F.slot_list_append PySem.F.type_list_append mt_append (pe_setD hu (okE o) (okE e) (okE (.List [] pos3)) m) (okA [f]) hbase hfew hline hs hplain) ?_
 show tE X o Z H _
 refine ho _ λH1 s1=>⟨p,rfl,.inr ⟨kvs,.inl (s1 _ _ hp)⟩,hy H1 s1 _ λH2 s2=>newL _ λz H3 s3 ⟨l,ez,nl,hz⟩=>?_⟩
 subst ez
 have s13:=(s1.trans s2).trans s3
 refine⟨kvs,k,ks,s13 _ _ hp,rfl,s13 _ _ hk,small1000 (Nat.le_of_lt hl),λu hu'=>?_,λhn=>?_⟩
 ·obtain⟨l',xs,rfl,hx⟩:=q0 u hu'
  obtain⟨hlen,fin⟩:=q1 l' xs hu' hx
  exact⟨.inl ⟨rfl,_,SqL.of (s13 _ _ hx)⟩,one (hv H3 λc o _ e=>s13 _ _ e) hs _ λH4 s4=>⟨l',xs,v,rfl,rfl,s4 _ _ (s13 _ _ hx),small1000 (Nat.le_of_lt hlen),fin H4 (s13.trans s4)⟩⟩
 ·have hlp:l≠p:=ne_of hz (s13 _ _ hp) (λz=>nomatch z)
  have hl3:upd H3 p (.dT (kvs++[(k,.ref l)])) l=some (.lst []):=by rw[upd_ne hlp];exact hz
  have fl:H l=none:=(s1.trans s2).free nl
  refine⟨.inl ⟨rfl,_,SqL.of hl3⟩,one (hv _ λc o n e=>by rw[upd_ne n];exact s13 _ _ e) hs _ λH4 s4=>⟨l,[],v,rfl,rfl,s4 _ _ hl3,by decide,q2 hn l _ fl (λc o n e=>?_) ?_ upd_same⟩⟩
  ·rw[upd_ne (ne_of_none e fl)]
   exact s4 _ _ (by rw[upd_ne n];exact s13 _ _ e)
  ·rw[upd_ne (Ne.symm hlp)]
   exact s4 _ _ upd_same
theorem sortedD {d:Addr}{ns:List Int}{kvs:List (Key×V)}{p:Pos}(hm:X.mg "sorted"=none)(h:Ev X e Z H (.ref d))(hd:H d=some (.dK kvs))(hk:kvs.map (·.1)=ns.map Sum.inl)(h64:ns.length<64)(hst:starEach [e] X.env=(false,eval e X.env)::starEach [] X.env:=by rfl)(hg:Gl X "sorted":=by rfl)(hpl:(backTo pos (starEach [] X.env)).any (·.1)=false:=by rfl)(hc:X.calm=true:=by rfl):
  EvP X (.Call (.Name "sorted" p) [e] [] pos) Z H (λv H'=>∃(q:Addr) (ns':List Int),v=.ref q/\H q=none/\H' q=some (.lst (ns'.map V.int))/\ns'.Perm ns/\ns'.Pairwise (·<=·)):=λQ q=>
 goE (pe_callB (call_sortedD hc) hg hm (by decide+kernel) (okA [e]) (by decide) (by decide) hst hpl) (one h hst _ λH1 s1=>⟨d,kvs,ns,rfl,.inl (s1 _ _ hd),hk,h64,λns' r h1 h2 h3=>q _ _ (λc o e=>by rw[upd_ne (ne_of_none (s1 _ _ e) h3)];exact s1 _ _ e) ⟨r,ns',rfl,s1.free h3,upd_same,h1,h2⟩⟩)
end
end Vm
namespace OK
open PySem PySem.Spec PyProof.Rows L2 RR Vm Lk
def top (i:Nat):Stmt:=PySem.Challenge.pw_ordersknown_s01_answers.main.body.getD i (.Pass ⟨0,0,0,0⟩)
abbrev sLink:Stmt:=top 5
abbrev sBInit:Stmt:=inClass (top 6) 0
abbrev sLay:Stmt:=inClass (top 6) 1
abbrev sJL:Stmt:=inClass (top 6) 2
abbrev sJdL:Stmt:=inClass (top 6) 3
abbrev sJS:Stmt:=inClass (top 6) 4
abbrev sJdS:Stmt:=inClass (top 6) 5
abbrev sJss:Stmt:=inClass (top 6) 6
theorem lt1000 {n:Nat}(h:Nat.ble (n+1) 1000=true):n<1000:=Nat.le_of_ble_eq_true h
theorem bmin:bootBuiltins "min"=some (.builtin "min"):=by decide+kernel
theorem bmax:bootBuiltins "max"=some (.builtin "max"):=by decide+kernel
def Keep (ws:List Addr)(H H':Hp):Prop:=∀c o,c∉ws->H c=some o->H' c=some o
theorem Keep.of {ws:List Addr}{H H':Hp}(s:Same H H'):Keep ws H H':=λc o _ e=>s c o e
theorem Keep.trans {ws:List Addr}{H H1 H2:Hp}(a:Keep ws H H1)(b:Keep ws H1 H2):Keep ws H H2:=λc o n e=>b c o n (a c o n e)
def lk (i j:Int):List Key:=[.inl (lo i j),.inl (hi i j)]
def lkv (e:Nat×Nat):List Key×V:=(lk e.1 e.2,.bl true)
theorem lk_eq {a b c d:Int}:lk a b=lk c d<->((a=c/\b=d)\/(a=d/\b=c)):=by
 rw[<-lohi]
 unfold lk
 simp
def pls (n:Nat):List Key:=[.inl ((n/4:Nat):Int),.inl ((n%4:Nat):Int)]
def sk (x y:Nat):List (List Key):=[pls (if y<x then y else x),pls (if x<y then y else x)]
theorem pls_inj {a b:Nat}(h:pls a=pls b):a=b:=by
 unfold pls at h
 simp only[List.cons.injEq,Sum.inl.injEq,and_true]at h
 omega
theorem sk_eq {a b c d:Nat}:sk a b=sk c d<->((a=c/\b=d)\/(a=d/\b=c)):=by
 constructor
 ·intro h
  unfold sk at h
  simp only[List.cons.injEq,and_true]at h
  have h1:=pls_inj h.1
  have h2:=pls_inj h.2
  split at h1<;>split at h2<;>split at h1<;>split at h2<;>omega
 ·rintro(⟨rfl,rfl⟩|⟨rfl,rfl⟩)
  ·rfl
  ·unfold sk
   by_cases h:a<b
   ·rw[if_neg (by omega),if_pos h,if_pos h,if_neg (by omega)]
   ·by_cases h2:b<a
    ·rw[if_pos h2,if_neg h,if_neg h,if_pos h2]
    ·have:a=b:=by omega
     subst this;rfl
theorem land_in (l:List (Nat×Nat))(p q:Nat):(valV (l.map lkv) (lk p q)).isSome=Vbsoaa.linked l p q:=by
 rw[<-valV_any,List.any_map]
 unfold Vbsoaa.linked
 congr 1
 funext e
 rw[Bool.eq_iff_iff]
 simp only[Function.comp,lkv,decide_eq_true_eq,lk_eq,Bool.or_eq_true,Bool.and_eq_true,beq_iff_eq]
 omega
theorem sea_in (l:List (Nat×Nat))(x y:Nat):Vbsoaa.linked l x y=true<->sk x y∈l.map λe=>sk e.1 e.2:=by
 rw[Kn.linked_iff]
 constructor
 ·rintro⟨e,he,h⟩
  refine List.mem_map.mpr ⟨e,he,sk_eq.mpr ?_⟩
  rcases h with rfl|rfl
  ·exact .inl ⟨rfl,rfl⟩
  ·exact .inr ⟨rfl,rfl⟩
 ·intro h
  obtain⟨e,he,h⟩:=List.mem_map.mp h
  refine⟨e,he,?_⟩
  rcases sk_eq.mp h with ⟨a,b⟩|⟨a,b⟩
  ·exact .inl (Prod.ext a b)
  ·exact .inr (Prod.ext a b)
structure Ba where
 bo:Addr
 ki:Addr
 la:Addr
 se:Addr
structure BoardAt (P:Program)(w:World)(CB:Addr)(H:Hp)(a:Ba)(b:Vbsoaa.Board):Prop where
 o:∃dx,H a.bo=some (.ins CB dx [("kinds",.ref a.ki),("land_links",.ref a.la),("sea_links",.ref a.se)])
 ki:H a.ki=some (.lst (b.kinds.map λk:Nat=>V.int (k:Int)))
 la:H a.la=some (.dT (b.land.map lkv))
 se:ND P w H a.se (b.sea.map λe=>sk e.1 e.2)
theorem BoardAt.same {P:Program}{w:World}{CB:Addr}{H H':Hp}{a:Ba}{b:Vbsoaa.Board}(B:BoardAt P w CB H a b)(s:Same H H'):BoardAt P w CB H' a b:=by
 obtain⟨⟨dx,o⟩,ki,la,se⟩:=B
 exact⟨⟨dx,s _ _ o⟩,s _ _ ki,s _ _ la,se.same s⟩
structure Cs where
 B:Addr
 U:Addr
 P:Addr
 K:Addr
 T:Addr
structure Tx (K:Fg)(mg:Str->Option Value)(c:Cs):Prop where
 clB:Cls K c.B
 clU:Cls K c.U
 clP:Cls K c.P
 clK:Cls K c.K
 clT:Cls K c.T
 nK:NoAttr K c.B "kinds"
 nL:NoAttr K c.B "land_links"
 nS:NoAttr K c.B "sea_links"
 uPow:NoAttr K c.U "power"
 uFle:NoAttr K c.U "fleet"
 uPro:NoAttr K c.U "province"
 uSho:NoAttr K c.U "shore"
 uOrd:NoAttr K c.U "order"
 pBoa:NoAttr K c.P "board"
 pUni:NoAttr K c.P "units"
 pKno:NoAttr K c.P "known"
 pOrd:NoAttr K c.P "orders"
 pByo:NoAttr K c.P "by_order"
 kGo:NoAttr K c.K "goes"
 kFa:NoAttr K c.K "fails"
 kWa:NoAttr K c.K "has_way"
 kNo:NoAttr K c.K "has_none"
 kCu:NoAttr K c.K "cut"
 kUn:NoAttr K c.K "uncut"
 tBoa:NoAttr K c.T "board"
 tUni:NoAttr K c.T "units"
 tKno:NoAttr K c.T "known"
 mmin:mg "min"=none
 mmax:mg "max"=none
 mlen:mg "len"=none
 many:mg "any"=none
 mall:mg "all"=none
 msum:mg "sum"=none
 mlist:mg "list"=none
 mrange:mg "range"=none
 msorted:mg "sorted"=none
 mzip:mg "zip"=none
 gLAND:Gv mg "LAND" (.int 0)
 gSEA:Gv mg "SEA" (.int 1)
 gCOAST:Gv mg "COAST" (.int 2)
 gSHORES:Gv mg "SHORES" (.int 4)
 gAT_SUPPORT:Gv mg "AT_SUPPORT" (.int 0)
 gAT_WAY:Gv mg "AT_WAY" (.int 1)
 gAT_MOVE:Gv mg "AT_MOVE" (.int 2)
 gDONE:Gv mg "DONE" (.int 0)
 gFULL:Gv mg "FULL" (.int (-2))
 gUNFIT:Gv mg "UNFIT" (.int (-3))
 gTHERE_ALREADY:Gv mg "THERE_ALREADY" (.int (-4))
 gNO_UNIT:Gv mg "NO_UNIT" (.int (-5))
 gMOST_PROVINCES:Gv mg "MOST_PROVINCES" (.int 40)
 gMOST_LINKS:Gv mg "MOST_LINKS" (.int 300)
 gMOST_UNITS:Gv mg "MOST_UNITS" (.int 24)
 gLAST_CHANGE:Gv mg "LAST_CHANGE" (.int 10)
 gOUT_OF_RANGE:Gv mg "OUT_OF_RANGE" (.int (-1))
 gNO_CALL:Gv mg "NO_CALL" (.int (-8))
 gHOLD:Gv mg "HOLD" (.str "hold")
 gMOVE:Gv mg "MOVE" (.str "move")
 gBY_WATER:Gv mg "BY_WATER" (.str "by water")
 gSTAY:Gv mg "STAY" (.str "stay")
 gAID:Gv mg "AID" (.str "aid")
 gCARRY:Gv mg "CARRY" (.str "carry")
 cBoard:mg "Board"=some (.ref c.B)
 cUnit:mg "Unit"=some (.ref c.U)
 cPosition:mg "Position"=some (.ref c.P)
 cKnown:mg "Known"=some (.ref c.K)
 cTable:mg "Table"=some (.ref c.T)
section
variable {P:Program}{w:World}{K:Fg}{mg:Str->Option Value}{base:Heap}{cs:Cs}
def rLink (K:Fg)(vs:List V)(H:Hp)(Pp:V->Hp->Prop):Prop:=
 (∃i j:Int,vs=[.int i,.int j]/\Pp=λv H'=>∃p,v=.ref p/\H p=none/\H' p=some (.tup [.int (lo i j),.int (hi i j)]))\/
 ∃(a b:Addr) (ns ms:List Int),vs=[.ref a,.ref b]/\H a=some (.tup (ns.map V.int))/\H b=some (.tup (ms.map V.int))/\Pp=λv H'=>∃p,v=.ref p/\H p=none/\H' p=some (.tup [.ref (if HT.lexLt ms ns=true then b else a),.ref (if HT.lexLt ns ms=true then b else a)])
theorem scLink:FnScope ["one","other"] ["one","other"] (defScope sLink):=fs
theorem ok_link {f:Addr}{fd:FuncData}(F:Fun K "link_between" "link_between" sLink f fd)(T:Tx K mg cs):FnOk P w K mg base CX0 1 f fd ["one","other"] (spp (rLink K)):=by
 refine def_ F scLink (λvs H Q E h=>?_) (λcdv A outer s H vs Q E hr h=>?_)
 ·obtain⟨_,⟨i,j,rfl,_⟩|⟨a,b,ns,ms,rfl,_⟩,_⟩:=h<;>rfl
 ·obtain⟨_,⟨i,j,rfl,rfl⟩|⟨a,b,ns,ms,rfl,ha,hb,rfl⟩,k⟩:=h
  ·exact bone (retP (tup (cons (blt (call_min2 rfl) bmin T.mmin (cons (var 0) λ_ _=>one (var 1)) λH1 s1 Q q=>⟨i,j,rfl,q H1 (Same.refl _)⟩) λH1 s1=>one (blt (call_max2 rfl) bmax T.mmax (cons (var 0) λ_ _=>one (var 1)) λH1 s1 Q q=>⟨i,j,rfl,q H1 (Same.refl _)⟩))) k)
  ·have hu:=hu_of hr
   refine bone (retP (tup (cons (blt (call_minT rfl hu) bmin T.mmin (cons (var 0) λ_ _=>one (var 1)) λH1 s1 Q q=>⟨a,b,ns,ms,rfl,SqT.of (s1 _ _ ha),SqT.of (s1 _ _ hb),q H1 (Same.refl _)⟩) λH1 s1=>one (blt (call_maxT rfl hu) bmax T.mmax (cons (var 0) λ_ _=>one (var 1)) λH2 s2 Q q=>⟨a,b,ns,ms,rfl,SqT.of (s2 _ _ (s1 _ _ ha)),SqT.of (s2 _ _ (s1 _ _ hb)),q H2 (Same.refl _)⟩))) k)
def rJdL (P:Program)(w:World)(CB:Addr)(vs:List V)(H:Hp)(v:V):Prop:=∃(a:Ba) (b:Vbsoaa.Board) (p q:Nat),vs=[.ref a.bo,.int p,.int q]/\BoardAt P w CB H a b/\v=.bl (Vbsoaa.linked b.land p q)
theorem scJdL:FnScope ["self","p","q"] ["self","p","q"] (defScope sJdL):=fs
theorem ok_JdL {f:Addr}{fd:FuncData}(F:Fun K "joined_by_land" "Board.joined_by_land" sJdL f fd)(T:Tx K mg cs)(L:Fn P w K mg base 1 "link_between" ["one","other"] (spp (rLink K))):FnOk P w K mg base CX0 2 f fd ["self","p","q"] (spv (rJdL P w cs.B)):=by
 refine def_ F scJdL (λvs H Q E h=>?_) (λcdv A outer s H vs Q E hr h=>?_)
 ·obtain⟨_,⟨_,_,_,_,rfl,_⟩,_⟩:=h;rfl
 ·obtain⟨_,⟨a,b,p,q,rfl,B,rfl⟩,k⟩:=h
  obtain⟨dx,o⟩:=B.o
  have hu:=hu_of hr
  refine bone (ret ((inP (oo:=valV (b.land.map lkv) (lk p q)) hu (callP (P:=λv H'=>∃c,v=.ref c/\H' c=some (.tup ((lk p q).map kV))) L hr (cons (var 1) λ_ _=>one (var 2)) λH1 s1=>⟨_,.inl ⟨p,q,rfl,rfl⟩,λv H2 s2 ⟨c,e,_,h⟩=>⟨c,e,h⟩⟩) (λH1 s1=>fld (var 0) (s1 _ _ o) T.clB T.nL rfl) λy H1 H2 s1 s2 z=>?_).to (by rw[land_in])) k)
  obtain⟨c,rfl,hc⟩:=z
  exact DGet.t (k:=lk p q) ((s1.trans s2) _ _ B.la) (s2 _ _ hc)
theorem lexLt_pls (x y:Nat):HT.lexLt [((x/4:Nat):Int),((x%4:Nat):Int)] [((y/4:Nat):Int),((y%4:Nat):Int)]=decide (x<y):=by
 rw[HT.lexLt_cons,HT.lexLt_cons,HT.lexLt_nil_nil]
 rw[Bool.eq_iff_iff]
 split
 ·split
  ·simp;omega
  ·simp only[decide_eq_true_eq];omega
 ·simp only[decide_eq_true_eq];omega
def PlAt (H:Hp)(a:Addr)(n:Nat):Prop:=H a=some (.tup [.int ((n/4:Nat):Int),.int ((n%4:Nat):Int)])
theorem nkey_of {H:Hp}{a b c:Addr}{x y:Nat}(ha:PlAt H a x)(hb:PlAt H b y)(hc:H c=some (.tup [.ref (if decide (y<x)=true then b else a),.ref (if decide (x<y)=true then b else a)])):NKey H c (sk x y):=by
 refine⟨[if decide (y<x)=true then b else a,if decide (x<y)=true then b else a],hc,.cons ?_ (.cons ?_ .nil)⟩
 ·by_cases h:y<x
  ·rw[if_pos (decide_eq_true h),if_pos h];exact hb
  ·rw[if_neg (by simpa using h),if_neg h];exact ha
 ·by_cases h:x<y
  ·rw[if_pos (decide_eq_true h),if_pos h];exact hb
  ·rw[if_neg (by simpa using h),if_neg h];exact ha
theorem link_key {X:Cx}{Z:Sg}{H:Hp}{a b:Addr}{x y:Nat}{e1 e2:Expr}{p pos:Pos}(L:Fn X.prog X.w X.K X.mg X.base 1 "link_between" ["one","other"] (spp (rLink X.K)))(hr:Room 1 X.A)(h:Av X [e1,e2] Z H [.ref a,.ref b])(ha:PlAt H a x)(hb:PlAt H b y)(hg:Gl X "link_between":=by rfl)
  (he:starEach [e1,e2] X.env=(false,eval e1 X.env)::starEach [e2] X.env:=by rfl) (hpl:(backTo pos (starEach [e2] X.env)).any (·.1)=false:=by rfl):
  EvP X (.Call (.Name "link_between" p) [e1,e2] [] pos) Z H (λv H'=>∃c,v=.ref c/\NKey H' c (sk x y)):=by
 refine callP L hr h (λH1 s1=>⟨_,.inr ⟨a,b,[((x/4:Nat):Int),((x%4:Nat):Int)],[((y/4:Nat):Int),((y%4:Nat):Int)],rfl,s1 _ _ ha,s1 _ _ hb,rfl⟩,?_⟩) hg (by decide) he hpl
 rintro v H2 s2 ⟨c,rfl,_,hc⟩
 rw[lexLt_pls,lexLt_pls]at hc
 exact⟨c,rfl,nkey_of (s2 _ _ (s1 _ _ ha)) (s2 _ _ (s1 _ _ hb)) hc⟩
def rJdS (P:Program)(w:World)(CB:Addr)(vs:List V)(H:Hp)(v:V):Prop:=∃(a:Ba) (b:Vbsoaa.Board) (c d:Addr) (x y:Nat),vs=[.ref a.bo,.ref c,.ref d]/\BoardAt P w CB H a b/\PlAt H c x/\PlAt H d y/\v=.bl (Vbsoaa.linked b.sea x y)
theorem scJdS:FnScope ["self","place","other"] ["self","place","other"] (defScope sJdS):=fs
theorem hu16 {A:Around}{k:Nat}(hr:Room k A):A.units+16<cLine:=Nat.lt_of_le_of_lt (Nat.add_le_add_left (by decide:16<=64) _) hr.units
theorem ok_JdS {f:Addr}{fd:FuncData}(F:Fun K "joined_by_sea" "Board.joined_by_sea" sJdS f fd)(T:Tx K mg cs)(L:Fn P w K mg base 1 "link_between" ["one","other"] (spp (rLink K))):FnOk P w K mg base CX0 2 f fd ["self","place","other"] (spv (rJdS P w cs.B)):=by
 refine def_ F scJdS (λvs H Q E h=>?_) (λcdv A outer s H vs Q E hr h=>?_)
 ·obtain⟨_,⟨_,_,_,_,_,_,rfl,_⟩,_⟩:=h;rfl
 ·obtain⟨_,⟨a,b,c,d,x,y,rfl,B,hc,hd,rfl⟩,k⟩:=h
  obtain⟨dx,o⟩:=B.o
  exact bone (ret (inN (kk:=sk x y) (hu16 hr) (link_key L hr (cons (var 1) λ_ _=>one (var 2)) hc hd) (λH1 s1=>fld (var 0) (s1 _ _ o) T.clB T.nS rfl) (λy H1 s1 z=>z) B.se (sea_in _ _ _)) k)
def spJL (P:Program)(w:World)(CB:Addr):Sp:=λvs H Q _=>∃(a:Ba) (b:Vbsoaa.Board) (p q:Nat),vs=[.ref a.bo,.int p,.int q]/\BoardAt P w CB H a b/\Vbsoaa.linked b.land p q=false/\b.land.length<1000/\
 ∀H':Hp,BoardAt P w CB H' a {b with land:=b.land++[(p,q)]}->Keep [a.la] H H'->Q .non H'
theorem scJL:FnScope ["self","p","q"] ["self","p","q"] (defScope sJL):=fs
theorem nd_keep {P:Program}{w:World}{H H':Hp}{a:Addr}{ks:List (List (List Key))}(x:ND P w H a ks){ws:List Addr}(k:Keep ws H H')(na:a∉ws)(nt:∀c xs,H c=some (.tup xs)->c∉ws):ND P w H' a ks:=by
 obtain⟨⟨xs,h1,h2,h3⟩,nd,sm,ln⟩:=x
 exact⟨⟨xs,h1,λy hy=>(h2 y hy).same λc l q=>k _ _ (nt c l q) q,k _ _ na h3⟩,nd,sm,ln⟩
theorem ok_JL {f:Addr}{fd:FuncData}(F:Fun K "join_by_land" "Board.join_by_land" sJL f fd)(T:Tx K mg cs)(L:Fn P w K mg base 1 "link_between" ["one","other"] (spp (rLink K))):FnOk P w K mg base CX0 2 f fd ["self","p","q"] (spJL P w cs.B):=by
 refine def_ F scJL (λvs H Q E h=>?_) (λcdv A outer s H vs Q E hr h=>?_)
 ·obtain⟨_,_,_,_,rfl,_⟩:=h;rfl
 ·obtain⟨a,b,p,q,rfl,B,nl,ln,k⟩:=h
  obtain⟨dx,o⟩:=B.o
  refine bone (dput (a:=a.la) (hu_of hr) bl_ (λH1 s1=>fld (var 0) (s1 _ _ o) T.clB T.nL rfl) (λH1 s1=>callP (P:=λv H'=>∃c,v=.ref c/\H' c=some (.tup ((lk p q).map kV))) L hr (cons (var 1) λ_ _=>one (var 2)) λH1 s1=>⟨_,.inl ⟨p,q,rfl,rfl⟩,λv H2 s2 ⟨c,e,_,h⟩=>⟨c,e,h⟩⟩) λH3 y s3 z=>?_)
  obtain⟨c,rfl,hc⟩:=z
  have B3:=B.same s3
  refine⟨_,DPut.t (k:=lk p q) B3.la hc (by rw[List.length_map];exact small1000 (Nat.le_of_lt ln)),k _ ?_ ?_⟩
  ·obtain⟨⟨dx3,o3⟩,ki3,la3,se3⟩:=B3
   have kp:Keep [a.la] H3 (upd H3 a.la (.dT (putK (b.land.map lkv) (lk p q) (.bl true)))):=λc o n e=>by rw[upd_ne (by simpa using n)];exact e
   have ne:∀{c o},H3 c=some o->o≠ .dT (b.land.map lkv)->c∉[a.la]:=λe d m=>by rw[List.mem_singleton.mp m,la3]at e;exact d (Option.some.inj e).symm
   refine⟨⟨dx3,kp _ _ (ne o3 (λz=>nomatch z)) o3⟩,kp _ _ (ne ki3 (λz=>nomatch z)) ki3,?_,nd_keep se3 kp (by obtain⟨⟨xs,_,_,e⟩,_⟩:=se3;exact ne e (λz=>nomatch z)) λc xs e=>ne e (λz=>nomatch z)⟩
   have z:=land_in b.land p q
   rw[nl]at z
   have z2:valV (b.land.map lkv) (lk p q)=none:=by
    cases q1:valV (b.land.map lkv) (lk p q)with
    |none=>rfl
    |some u=>rw[q1]at z;cases z
   rw[upd_same,putK_new _ z2,List.map_append];rfl
  ·exact(Keep.of s3).trans λc o n e=>by rw[upd_ne (by simpa using n)];exact e
def spJS (P:Program)(w:World)(CB:Addr):Sp:=λvs H Q _=>∃(a:Ba) (b:Vbsoaa.Board) (c d:Addr) (x y:Nat),vs=[.ref a.bo,.ref c,.ref d]/\BoardAt P w CB H a b/\PlAt H c x/\PlAt H d y/\Vbsoaa.linked b.sea x y=false/\b.sea.length<1000/\
 ∀H':Hp,BoardAt P w CB H' a {b with sea:=b.sea++[(x,y)]}->Keep [a.se] H H'->Q .non H'
theorem scJS:FnScope ["self","place","other"] ["self","place","other"] (defScope sJS):=fs
theorem ok_JS {f:Addr}{fd:FuncData}(F:Fun K "join_by_sea" "Board.join_by_sea" sJS f fd)(T:Tx K mg cs)(L:Fn P w K mg base 1 "link_between" ["one","other"] (spp (rLink K))):FnOk P w K mg base CX0 2 f fd ["self","place","other"] (spJS P w cs.B):=by
 refine def_ F scJS (λvs H Q E h=>?_) (λcdv A outer s H vs Q E hr h=>?_)
 ·obtain⟨_,_,_,_,_,_,rfl,_⟩:=h;rfl
 ·obtain⟨a,b,c,d,x,y,rfl,B,hc,hd,nl,ln,k⟩:=h
  obtain⟨dx,o⟩:=B.o
  refine bone (dputN (a:=a.se) (hu16 hr) bl_ (λH1 s1=>fld (var 0) (s1 _ _ o) T.clB T.nS rfl) (λH1 s1=>link_key L hr (cons (var 1) λ_ _=>one (var 2)) (s1 _ _ hc) (s1 _ _ hd)) λH3 z s3 hz=>?_)
  obtain⟨e,rfl,he⟩:=hz
  have B3:=B.same s3
  have hlen:(b.sea.map λe=>sk e.1 e.2).length=b.sea.length:=List.length_map ..
  refine⟨e,_,_,rfl,B3.se,he,(λm=>?_),(by rw[hlen];exact small1000 (Nat.le_of_lt ln)),λH4 n4 k4 _=>k _ ?_ ?_⟩
  ·rw[(sea_in b.sea x y).mpr m]at nl;cases nl
  ·obtain⟨⟨dx3,o3⟩,ki3,la3,⟨⟨xs,_,_,e3⟩,_⟩⟩:=B3
   refine⟨⟨dx3,k4 _ _ (ne_of o3 e3 (λz=>nomatch z)) o3⟩,k4 _ _ (ne_of ki3 e3 (λz=>nomatch z)) ki3,k4 _ _ (ne_of la3 e3 (λz=>nomatch z)) la3,?_⟩
   show ND P w H4 a.se ((b.sea++[(x,y)]).map λe=>sk e.1 e.2)
   rw[List.map_append];exact n4
  ·exact(Keep.of s3).trans λc o n e=>k4 c o (by simpa using n) e
def spLay (P:Program)(w:World)(CB:Addr):Sp:=λvs H Q _=>∃(a:Ba) (b:Vbsoaa.Board) (n:Nat),vs=[.ref a.bo,.int n]/\BoardAt P w CB H a b/\b.kinds.length<1000/\
 ∀H':Hp,BoardAt P w CB H' a {b with kinds:=b.kinds++[n]}->Keep [a.ki] H H'->Q (.int b.kinds.length) H'
theorem scLay:FnScope ["self","kind"] ["self","kind"] (defScope sLay):=fs
theorem ok_Lay {f:Addr}{fd:FuncData}(F:Fun K "lay_province" "Board.lay_province" sLay f fd)(T:Tx K mg cs):FnOk P w K mg base CX0 1 f fd ["self","kind"] (spLay P w cs.B):=by
 refine def_ F scLay (λvs H Q E h=>?_) (λcdv A outer s H vs Q E hr h=>?_)
 ·obtain⟨_,_,_,rfl,_⟩:=h;rfl
 ·obtain⟨a,b,n,rfl,B,ln,k⟩:=h
  obtain⟨dx,o⟩:=B.o
  refine bcons (drop (append (ad:=a.ki) (fld (var 0) o T.clB T.nK rfl) B.ki (λH1 s1=>var 1) (by rw[List.length_map];exact small1000 (Nat.le_of_lt ln)) λH1 s1=>?_))
  have B1:=B.same s1
  have kp:Keep [a.ki] H1 (upd H1 a.ki (.lst ((b.kinds.map λk:Nat=>V.int (k:Int))++[.int n]))):=λc o n e=>by rw[upd_ne (by simpa using n)];exact e
  have ne:∀{c o},H1 c=some o->o≠ .lst (b.kinds.map λk:Nat=>V.int (k:Int))->c∉[a.ki]:=λe d m=>by rw[List.mem_singleton.mp m,B1.ki]at e;exact d (Option.some.inj e).symm
  have B2:BoardAt P w cs.B (upd H1 a.ki (.lst ((b.kinds.map λk:Nat=>V.int (k:Int))++[.int n]))) a {b with kinds:=b.kinds++[n]}:=by
   obtain⟨⟨dx3,o3⟩,ki3,la3,se3⟩:=B1
   refine⟨⟨dx3,kp _ _ (ne o3 (λz=>nomatch z)) o3⟩,?_,kp _ _ (ne la3 (λz=>nomatch z)) la3,nd_keep se3 kp (by obtain⟨⟨xs,_,_,e⟩,_⟩:=se3;exact ne e (λz=>nomatch z)) λc xs e=>ne e (λz=>nomatch z)⟩
   rw[upd_same,List.map_append];rfl
  obtain⟨dx2,o2⟩:=B2.o
  refine bone (ret ((sub (lenL T.mlen (fld (var 0) o2 T.clB T.nK rfl) (SqL.of B2.ki)) λ_ _=>int_).to ?_) λH' s'=>k H' (B2.same s') (((Keep.of s1).trans kp).trans (Keep.of s')))
  rw[List.length_map,List.length_append]
  show V.int (((b.kinds.length+1:Nat):Int)-1)=_
  congr 1;omega
def spBInit (P:Program)(w:World)(CB:Addr):Sp:=λvs H Q _=>∃(x dx:Addr),vs=[.ref x]/\H x=some (.ins CB dx [])/\∀(H':Hp) (a:Ba),a.bo=x->BoardAt P w CB H' a {}->Keep [x] H H'->(∀c∈[a.ki,a.la,a.se],H c=none)->Q .non H'
theorem scBInit:FnScope ["self"] ["self"] (defScope sBInit):=fs
theorem ok_BInit {f:Addr}{fd:FuncData}(F:Fun K "__init__" "Board.__init__" sBInit f fd)(T:Tx K mg cs):FnOk P w K mg base CX0 1 f fd ["self"] (spBInit P w cs.B):=by
 refine def_ F scBInit (λvs H Q E h=>?_) (λcdv A outer s H vs Q E hr h=>?_)
 ·obtain⟨_,_,rfl,_⟩:=h;rfl
 ·obtain⟨x,dx,rfl,hx,k⟩:=h
  refine bcons (put newL (λH1 s1=>var 0) hx T.clB T.nK (lt1000 rfl) λv H1 H2 s1 ⟨p1,e1,n1,z1⟩ s2=>?_)
  subst e1
  have x2:=s2 _ _ (s1 _ _ hx)
  have y1:upd H2 x (.ins cs.B dx (putF "kinds" (.ref p1) [])) p1=some (.lst []):=by rw[upd_ne (ne_of (s2 _ _ z1) x2 (λz=>nomatch z))];exact s2 _ _ z1
  generalize hG:upd H2 x (.ins cs.B dx (putF "kinds" (.ref p1) []))=G at y1⊢
  have gx:G x=some (.ins cs.B dx [("kinds",.ref p1)]):=by rw[<-hG,upd_same];rfl
  have kG:Keep [x] H G:=λc o n e=>by rw[<-hG,upd_ne (by simpa using n)];exact s2 _ _ (s1 _ _ e)
  refine bcons (put newT (λH1 s1=>var 0) gx T.clB T.nL (lt1000 rfl) λv H3 H4 s3 ⟨p2,e2,n2,z2⟩ s4=>?_)
  subst e2
  have x4:=s4 _ _ (s3 _ _ gx)
  have w2:H4 p2=some (.dT []):=s4 _ _ (by rw[z2,upd_same])
  have y2:upd H4 x (.ins cs.B dx (putF "land_links" (.ref p2) [("kinds",.ref p1)])) p2=some (.dT []):=by rw[upd_ne (ne_of w2 x4 (λz=>nomatch z))];exact w2
  have y1':upd H4 x (.ins cs.B dx (putF "land_links" (.ref p2) [("kinds",.ref p1)])) p1=some (.lst []):=by
   have e:=s4 _ _ (s3 _ _ y1)
   rw[upd_ne (ne_of e x4 (λz=>nomatch z))];exact e
  generalize hJ:upd H4 x (.ins cs.B dx (putF "land_links" (.ref p2) [("kinds",.ref p1)]))=J at y2 y1'⊢
  have jx:J x=some (.ins cs.B dx [("kinds",.ref p1),("land_links",.ref p2)]):=by rw[<-hJ,upd_same];rfl
  have kJ:Keep [x] G J:=λc o n e=>by rw[<-hJ,upd_ne (by simpa using n)];exact s4 _ _ (s3 _ _ e)
  have fr2:H p2=none:=by
   cases q:H p2 with
   |none=>rfl
   |some o=>
    by_cases e:p2=x
    ·rw[e,gx]at n2;cases n2
    ·rw[kG _ _ (by simpa using e) q]at n2;cases n2
  refine bone (put newN (λH1 s1=>var 0) jx T.clB T.nS (lt1000 rfl) λv H5 H6 s5 ⟨p3,e3,n3,m3,z3⟩ s6=>?_)
  subst e3
  have x6:=s6 _ _ (s5 _ _ jx)
  have nd:ND P w H6 p3 []:=by
   have z:ND P w H5 p3 []:=by rw[z3];exact ND.new m3
   exact z.same s6
  have fr3:H p3=none:=by
   cases q:H p3 with
   |none=>rfl
   |some o=>
    by_cases e:p3=x
    ·rw[e,jx]at n3;cases n3
    ·rw[kJ _ _ (by simpa using e) (kG _ _ (by simpa using e) q)]at n3;cases n3
  have kU:Keep [x] H6 (upd H6 x (.ins cs.B dx (putF "sea_links" (.ref p3) [("kinds",.ref p1),("land_links",.ref p2)]))):=λc o n e=>by rw[upd_ne (by simpa using n)];exact e
  have ne:∀{c o},H6 c=some o->o≠ .ins cs.B dx [("kinds",.ref p1),("land_links",.ref p2)]->c∉[x]:=λe d m=>by rw[List.mem_singleton.mp m,x6]at e;exact d (Option.some.inj e).symm
  refine k _ ⟨x,p1,p2,p3⟩ rfl ⟨⟨dx,by rw[upd_same];rfl⟩,?_,?_,?_⟩ ?_ ?_
  ·have e:=s6 _ _ (s5 _ _ y1')
   exact kU _ _ (ne e (λz=>nomatch z)) e
  ·have e:=s6 _ _ (s5 _ _ y2)
   exact kU _ _ (ne e (λz=>nomatch z)) e
  ·exact nd_keep nd kU (by obtain⟨⟨xs,_,_,e⟩,_⟩:=nd;exact ne e (λz=>nomatch z)) λc xs e=>ne e (λz=>nomatch z)
  ·exact(kG.trans (kJ.trans ((Keep.of (s5.trans s6)).trans kU)))
  ·intro c hc
   have hc:c=p1\/c=p2\/c=p3:=by simpa using hc
   rcases hc with e|e|e
   ·rw[e];exact n1
   ·rw[e];exact fr2
   ·rw[e];exact fr3
def rJss (P:Program)(w:World)(CB:Addr)(vs:List V)(H:Hp)(v:V):Prop:=∃(a:Ba) (b:Vbsoaa.Board) (c:Addr) (x q:Nat),vs=[.ref a.bo,.ref c,.int q]/\BoardAt P w CB H a b/\PlAt H c x/\v=.bl ([0,1,2,3].any λt=>Vbsoaa.linked b.sea x (Vbsoaa.place q t))
theorem scJss:FnScope ["self","place","q","t"] ["self","place","q"] (defScope sJss):=fs
theorem plAt_of {H:Hp}{a:Addr}{p s:Nat}(hs:s<4)(h:H a=some (.tup [.int p,.int s])):PlAt H a (Vbsoaa.place p s):=by
 unfold PlAt Vbsoaa.place
 rw[show(4*p+s)/4=p by omega,show(4*p+s)%4=s by omega]
 exact h
theorem ok_Jss {f:Addr}{fd:FuncData}(F:Fun K "joined_at_some_shore" "Board.joined_at_some_shore" sJss f fd)(T:Tx K mg cs)(M:Mt P w K mg base 2 cs.B "joined_by_sea" ["self","place","other"] (spv (rJdS P w cs.B))):FnOk P w K mg base CX0 3 f fd ["self","place","q"] (spv (rJss P w cs.B)):=by
 refine def_ F scJss (λvs H Q E h=>?_) (λcdv A outer s H vs Q E hr h=>?_)
 ·obtain⟨_,⟨_,_,_,_,_,rfl,_⟩,_⟩:=h;rfl
 ·obtain⟨_,⟨a,b,c,x,q,rfl,B,hc,rfl⟩,k⟩:=h
  obtain⟨dx,o⟩:=B.o
  refine bone (ret ((anyP (bs:=(List.range 4).map λt=>Vbsoaa.linked b.sea x (Vbsoaa.place q t)) T.many ((lcR 3 4 (λv=>match v with|.int t=>.bl (Vbsoaa.linked b.sea x (Vbsoaa.place q t.toNat))|_=>.non) scJss.nd (by show BlkOk ["self","place","q","t"] (defScope sJss) _ [("t",3)];exact⟨rfl,by decide+kernel,by decide+kernel,by decide+kernel,by decide+kernel⟩) T.mrange (glob T.gSHORES) (by decide) ?_).mono ?_)).to ?_) k)
  ·intro s1 H0 C cl fp t ht H2 s2
   refine methA M hr (var 0) (s2 _ _ o) rfl (λH3 s3=>cons' (var 1) λH4 s4=>one' (tupA (cons (var 2) λ_ _=>one (var 3)))) ?_
   rintro vs H3 s3 ⟨ws,rfl,v,rfl,p,rfl,hp⟩
   exact⟨a,b,c,p,x,_,rfl,B.same (s2.trans s3),(s2.trans s3) _ _ hc,plAt_of ht hp,rfl⟩
  ·rintro v H' s' ⟨p,rfl,_,hp⟩
   refine⟨p,rfl,SqL.of ?_⟩
   rw[hp,List.map_map]
   rfl
  ·rfl
end
open Vw (Ok kof hav minto Kl mvs)
def key:Ok->List Key
 |.hold=>[.inr "hold"]
 |.mv p=>[.inr "move",.inl (p:Int)]
 |.bw p=>[.inr "by water",.inl (p:Int)]
 |.st p=>[.inr "stay",.inl (p:Int)]
 |.ai a q=>[.inr "aid",.inl (a:Int),.inl (q:Int)]
 |.ca a q=>[.inr "carry",.inl (a:Int),.inl (q:Int)]
theorem s_ne {a b:Str}(h:(a==b)=false):a≠b:=λe=>by rw[e,beq_self_eq_true]at h;cases h
theorem key_inj {x y:Ok}(h:key x=key y):x=y:=by
 cases x<;>cases y<;>simp only[key,List.cons.injEq,Sum.inl.injEq,Sum.inr.injEq,and_true,reduceCtorEq,and_false,false_and]at h<;>first
  |rfl
  |(exact absurd h.1 (s_ne (by decide)))
  |(obtain⟨_,h⟩:=h;first|(have:=Int.ofNat.inj h;subst this;rfl)|(obtain⟨h1,h2⟩:=h;have a:=Int.ofNat.inj h1;have b:=Int.ofNat.inj h2;subst a b;rfl)|exact absurd h (by simp))
  |(exact absurd h.1 (s_ne (by decide)))
  |(exact absurd h (s_ne (by decide)))
def given:Vbsoaa.Order->List V
 |.hold=>[.str "hold"]
 |.move q t w=>[.str "move",.int q,.int t,.int (Vbsoaa.bit w)]
 |.stay q=>[.str "stay",.int q]
 |.aid a q=>[.str "aid",.int a,.int q]
 |.carry a q=>[.str "carry",.int a,.int q]
def uf (m:Vbsoaa.Man)(o:Addr):List (Str×V):=[("power",.int m.power),("fleet",.int (Vbsoaa.bit m.fleet)),("province",.int m.prov),("shore",.int m.shore),("order",.ref o)]
def UnitAt (C:Addr)(H:Hp)(a:Addr)(m:Vbsoaa.Man)(o:Addr):Prop:=∃dx,H a=some (.ins C dx (uf m o))
def ukv (ms:Vbsoaa.Men)(ua:Nat->Addr):List (Key×V):=ms.map λm=>(Sum.inl (m.prov:Int),V.ref (ua m.prov))
theorem val_ukv (ua:Nat->Addr)(p:Nat):∀ms:Vbsoaa.Men,valV (ukv ms ua) (Sum.inl (p:Int))=(Vbsoaa.manAt ms p).map λ_=>V.ref (ua p)
 |[]=>rfl
 |m::ms=>by
  by_cases e:m.prov=p
  ·have h:Vbsoaa.manAt (m::ms) p=some m:=by unfold Vbsoaa.manAt;rw[List.find?_cons,show(m.prov==p)=true from by simpa using e]
   rw[h]
   show valV ((Sum.inl (m.prov:Int),V.ref (ua m.prov))::ukv ms ua) _=_
   rw[valV_pos (by rw[e]),e];rfl
  ·have h:Vbsoaa.manAt (m::ms) p=Vbsoaa.manAt ms p:=by unfold Vbsoaa.manAt;rw[List.find?_cons,show(m.prov==p)=false from by simpa using e]
   rw[h,<-val_ukv ua p ms]
   show valV ((Sum.inl (m.prov:Int),V.ref (ua m.prov))::ukv ms ua) _=_
   rw[valV_neg (by intro z;injection z with z;exact e (by omega))]
def kkv (L:List Nat):List (Key×V):=L.map λp:Nat=>(Sum.inl (p:Int),V.bl true)
theorem val_kkv (p:Nat):∀L:List Nat,(valV (kkv L) (Sum.inl (p:Int))).isSome=L.contains p
 |[]=>rfl
 |x::L=>by
  show(valV ((Sum.inl (x:Int),V.bl true)::kkv L) _).isSome=_
  by_cases e:x=p
  ·subst e
   rw[valV_pos rfl];simp
  ·rw[valV_neg (by intro z;injection z with z;exact e (by omega)),val_kkv p L,List.contains_cons,show(p==x)=false from by simpa using λz=>e z.symm,Bool.false_or]
theorem put_kkv (p:Nat)(L:List Nat):putK (kkv L) (Sum.inl (p:Int)) (V.bl true)=kkv (if L.contains p=true then L else L++[p]):=by
 unfold putK
 rw[valV_any,val_kkv]
 by_cases h:L.contains p=true
 ·rw[if_pos h,if_pos h]
  unfold kkv
  rw[List.map_map]
  refine List.map_congr_left λx _=>?_
  show(if(Sum.inl (x:Int):Key)=Sum.inl (p:Int)then _ else _)=_
  split<;>rfl
 ·rw[if_neg h,if_neg h]
  unfold kkv
  rw[List.map_append];rfl
structure Ka where
 ob:Addr
 go:Addr
 fa:Addr
 wa:Addr
 no:Addr
 cu:Addr
 uc:Addr
def Ka.ds (a:Ka):List Addr:=[a.go,a.fa,a.wa,a.no,a.cu,a.uc]
def DAt (H:Hp)(d:Addr)(s:List Nat):Prop:=∃L,H d=some (.dK (kkv L))/\Kl L s
def kf (a:Ka):List (Str×V):=[("goes",.ref a.go),("fails",.ref a.fa),("has_way",.ref a.wa),("has_none",.ref a.no),("cut",.ref a.cu),("uncut",.ref a.uc)]
structure KnownAt (C:Addr)(H:Hp)(a:Ka)(k:Vbsoae.Known):Prop where
 o:∃dx,H a.ob=some (.ins C dx (kf a))
 go:DAt H a.go k.goes
 fa:DAt H a.fa k.stuck
 wa:DAt H a.wa k.way
 no:DAt H a.no k.noway
 cu:DAt H a.cu k.cut
 uc:DAt H a.uc k.uncut
 nd:a.ds.Nodup
theorem DAt.same {H H':Hp}{d:Addr}{l:List Nat}(h:DAt H d l)(s:Same H H'):DAt H' d l:=by
 obtain⟨L,h1,h2⟩:=h
 exact⟨L,s _ _ h1,h2⟩
theorem KnownAt.same {C:Addr}{H H':Hp}{a:Ka}{k:Vbsoae.Known}(h:KnownAt C H a k)(s:Same H H'):KnownAt C H' a k:=by
 obtain⟨⟨dx,o⟩,h1,h2,h3,h4,h5,h6,h7⟩:=h
 exact⟨⟨dx,s _ _ o⟩,h1.same s,h2.same s,h3.same s,h4.same s,h5.same s,h6.same s,h7⟩
structure Pa where
 po:Addr
 b:Ba
 un:Addr
 ua:Nat->Addr
 k:Ka
 od:Addr
 oa:Nat->Addr
 by_:Addr
 la:Ok->Addr
def pf (a:Pa):List (Str×V):=[("board",.ref a.b.bo),("units",.ref a.un),("known",.ref a.k.ob),("orders",.ref a.od),("by_order",.ref a.by_)]
def nv (l:List Nat):List V:=l.map λp:Nat=>V.int p
structure PosAt (P:Program)(w:World)(cs:Cs)(H:Hp)(a:Pa)(b:Vbsoaa.Board)(ms:Vbsoaa.Men)(k:Vbsoae.Known):Prop where
 o:∃dx,H a.po=some (.ins cs.P dx (pf a))
 b:BoardAt P w cs.B H a.b b
 un:Rd H a.un (.dK (ukv ms a.ua))
 us:∀m∈ms,∃o,UnitAt cs.U H (a.ua m.prov) m o
 k:KnownAt cs.K H a.k k
 od:H a.od=some (.dK (ukv ms a.oa))
 os:∀m∈ms,H (a.oa m.prov)=some (.tup ((key (kof m.order)).map kV))
 by_:∃kvs,H a.by_=some (.dT kvs)/\∀o:Ok,valV kvs (key o)=if hav ms o=[]then none else some (.ref (a.la o))
 ls:∀o,hav ms o≠[]->H (a.la o)=some (.lst (nv (hav ms o)))
 nd:Kn.PNd ms
 ln:ms.length<=24
 sh:∀m∈ms,m.shore<=3
 ap:∀d∈a.k.ds,d≠a.un/\d≠a.od
 ou:a.od≠a.un
theorem Rd.same {H H':Hp}{a:Addr}{u:HO}(h:Rd H a u)(s:Same H H'):Rd H' a u:=by
 rcases h with h|⟨o,h⟩
 ·exact .inl (s _ _ h)
 ·exact .inr ⟨o,s _ _ h⟩
section
variable {P:Program}{w:World}{cs:Cs}{H H':Hp}{a:Pa}{b:Vbsoaa.Board}{ms:Vbsoaa.Men}{k:Vbsoae.Known}{m:Vbsoaa.Man}{p:Nat}
theorem PosAt.same (A:PosAt P w cs H a b ms k)(s:Same H H'):PosAt P w cs H' a b ms k:=by
 obtain⟨⟨dx,o⟩,h1,h2,h3,h4,h5,h6,⟨kvs,h7,h8⟩,h9,h10,h11,h13,h12,h14⟩:=A
 refine⟨⟨dx,s _ _ o⟩,h1.same s,Rd.same h2 s,λm hm=>?_,h4.same s,s _ _ h5,λm hm=>s _ _ (h6 m hm),⟨kvs,s _ _ h7,h8⟩,λo ho=>s _ _ (h9 o ho),h10,h11,h13,h12,h14⟩
 obtain⟨o,dx,e⟩:=h3 m hm
 exact⟨o,dx,s _ _ e⟩
theorem PosAt.getU (A:PosAt P w cs H a b ms k)(p:Nat):DGet H a.un (.int p) ((Vbsoaa.manAt ms p).map λ_=>V.ref (a.ua p)):=by
 refine .inl ⟨_,Sum.inl (p:Int),A.un,rfl,?_⟩
 rw[val_ukv]
theorem PosAt.getO (A:PosAt P w cs H a b ms k)(p:Nat):DGet H a.od (.int p) ((Vbsoaa.manAt ms p).map λ_=>V.ref (a.oa p)):=by
 refine .inl ⟨_,Sum.inl (p:Int),.inl A.od,rfl,?_⟩
 rw[val_ukv]
theorem PosAt.unit (A:PosAt P w cs H a b ms k)(h:Vbsoaa.manAt ms p=some m):∃o,UnitAt cs.U H (a.ua p) m o:=by
 have:=A.us m (Vw.mem_of h)
 rw[Vw.prov_of h]at this;exact this
theorem PosAt.order (A:PosAt P w cs H a b ms k)(h:Vbsoaa.manAt ms p=some m):H (a.oa p)=some (.tup ((key (kof m.order)).map kV)):=by
 have:=A.os m (Vw.mem_of h)
 rw[Vw.prov_of h]at this;exact this
theorem hav_le (A:PosAt P w cs H a b ms k)(o:Ok):(hav ms o).length<=24:=by
 unfold hav
 rw[List.length_map]
 exact Nat.le_trans (List.length_filter_le _ _) A.ln
theorem minto_le (A:PosAt P w cs H a b ms k)(q:Nat):(minto ms q).length<=48:=by
 unfold minto
 rw[List.length_append]
 have h1:=hav_le A (.mv q)
 have h2:=hav_le A (.bw q)
 omega
theorem nv_len (l:List Nat):(nv l).length=l.length:=List.length_map ..
theorem mem_nv {v:V}{l:List Nat}(h:v∈nv l):∃p:Nat,p∈l/\v=.int p:=by
 obtain⟨p,hp,e⟩:=List.mem_map.mp h
 exact⟨p,hp,e.symm⟩
def fN (f:Nat->Bool):V->Bool
 |.int i=>f i.toNat
 |_=>false
theorem fN_nat (f:Nat->Bool)(p:Nat):fN f (.int (p:Int))=f p:=by show f ((p:Int)).toNat=f p;rw[Int.toNat_natCast]
def gN (f:Nat->V):V->V
 |.int i=>f i.toNat
 |_=>.non
theorem gN_nat (f:Nat->V)(p:Nat):gN f (.int (p:Int))=f p:=by show f ((p:Int)).toNat=f p;rw[Int.toNat_natCast]
theorem filter_nv (f:Nat->Bool)(l:List Nat):(nv l).filter (fN f)=nv (l.filter f):=by
 unfold nv
 rw[List.filter_map]
 congr 1
theorem map_nv (f:Nat->V)(l:List Nat):(nv l).map (gN f)=l.map f:=by
 unfold nv
 rw[List.map_map]
 exact List.map_congr_left λx _=>gN_nat f x
theorem flat_nv (l:List Nat):(nv l).all flatV=true:=by
 rw[List.all_eq_true]
 intro v hv
 obtain⟨p,_,rfl⟩:=mem_nv hv
 rfl
theorem in_nv (p:Nat)(l:List Nat):inV (.int (p:Int)) (nv l)=l.contains p:=by
 unfold inV nv
 rw[List.any_map,Bool.eq_iff_iff,List.any_eq_true,List.contains_iff_mem]
 constructor
 ·rintro⟨x,hx,e⟩
  have e:((x:Int)==(p:Int))=true:=e
  have:x=p:=by have:=eq_of_beq e;omega
  exact this▸hx
 ·intro h
  exact⟨p,h,by show((p:Int)==(p:Int))=true;exact beq_self_eq_true _⟩
end
open Vw (rch cnt)
abbrev sUInit:Stmt:=inClass (top 14) 0
abbrev sPlace:Stmt:=top 15
abbrev sReach:Stmt:=top 16
abbrev sOaic:Stmt:=top 17
abbrev sFmv:Stmt:=top 18
abbrev sAmv:Stmt:=top 19
abbrev sAidc:Stmt:=top 20
abbrev sCarc:Stmt:=top 21
section
variable {P:Program}{w:World}{K:Fg}{mg:Str->Option Value}{base:Heap}{cs:Cs}
abbrev NewT (H:Hp)(xs:List V):V->Hp->Prop:=λv H'=>∃p,v=.ref p/\H p=none/\H' p=some (.tup xs)
def spUInit (CU:Addr):Sp:=λvs H Q _=>∃(x dx:Addr) (m:Vbsoaa.Man),vs=[.ref x,.int m.power,.int (Vbsoaa.bit m.fleet),.int m.prov,.int m.shore]/\H x=some (.ins CU dx [])/\∀(H':Hp) (o:Addr),UnitAt CU H' x m o->H' o=some (.tup [.str "hold"])->H o=none->Keep [x] H H'->Q .non H'
theorem scUInit:FnScope ["self","power","fleet","province","shore"] ["self","power","fleet","province","shore"] (defScope sUInit):=fs
theorem ok_UInit {f:Addr}{fd:FuncData}(F:Fun K "__init__" "Unit.__init__" sUInit f fd)(T:Tx K mg cs):FnOk P w K mg base CX0 1 f fd ["self","power","fleet","province","shore"] (spUInit cs.U):=by
 refine def_ F scUInit (λvs H Q E h=>?_) (λcdv A outer s H vs Q E hr h=>?_)
 ·obtain⟨_,_,_,rfl,_⟩:=h;rfl
 ·obtain⟨x,dx,m,rfl,hx,k⟩:=h
  have kp:∀{H1 H2:Hp} {o:HO},Same H1 H2->Keep [x] H1 (upd H2 x o):=λs c o n e=>by rw[upd_ne (by simpa using n)];exact s _ _ e
  refine bcons (put (P:=λv _=>v=.int m.power) ((var 1).p λ_ _=>rfl) (λH1 s1=>var 0) hx T.clU T.uPow (lt1000 rfl) λv H1 H2 s1 e1 s2=>?_)
  subst e1
  have k1:=kp (o:=.ins cs.U dx (putF "power" (.int m.power) [])) (s1.trans s2)
  generalize hG:upd H2 x (.ins cs.U dx (putF "power" (.int m.power) []))=G at k1⊢
  have g1:G x=some (.ins cs.U dx [("power",.int m.power)]):=by rw[<-hG,upd_same];rfl
  refine bcons (put (P:=λv _=>v=.int (Vbsoaa.bit m.fleet)) ((var 2).p λ_ _=>rfl) (λH1 s1=>var 0) g1 T.clU T.uFle (lt1000 rfl) λv H1 H2 s1 e1 s2=>?_)
  subst e1
  have k2:=kp (o:=.ins cs.U dx (putF "fleet" (.int (Vbsoaa.bit m.fleet)) [("power",.int m.power)])) (s1.trans s2)
  generalize hG2:upd H2 x (.ins cs.U dx (putF "fleet" (.int (Vbsoaa.bit m.fleet)) [("power",.int m.power)]))=G2 at k2⊢
  have g2:G2 x=some (.ins cs.U dx [("power",.int m.power),("fleet",.int (Vbsoaa.bit m.fleet))]):=by rw[<-hG2,upd_same];rfl
  refine bcons (put (P:=λv _=>v=.int m.prov) ((var 3).p λ_ _=>rfl) (λH1 s1=>var 0) g2 T.clU T.uPro (lt1000 rfl) λv H1 H2 s1 e1 s2=>?_)
  subst e1
  have k3:=kp (o:=.ins cs.U dx (putF "province" (.int m.prov) [("power",.int m.power),("fleet",.int (Vbsoaa.bit m.fleet))])) (s1.trans s2)
  generalize hG3:upd H2 x (.ins cs.U dx (putF "province" (.int m.prov) [("power",.int m.power),("fleet",.int (Vbsoaa.bit m.fleet))]))=G3 at k3⊢
  have g3:G3 x=some (.ins cs.U dx [("power",.int m.power),("fleet",.int (Vbsoaa.bit m.fleet)),("province",.int m.prov)]):=by rw[<-hG3,upd_same];rfl
  refine bcons (put (P:=λv _=>v=.int m.shore) ((var 4).p λ_ _=>rfl) (λH1 s1=>var 0) g3 T.clU T.uSho (lt1000 rfl) λv H1 H2 s1 e1 s2=>?_)
  subst e1
  have k4:=kp (o:=.ins cs.U dx (putF "shore" (.int m.shore) [("power",.int m.power),("fleet",.int (Vbsoaa.bit m.fleet)),("province",.int m.prov)])) (s1.trans s2)
  generalize hG4:upd H2 x (.ins cs.U dx (putF "shore" (.int m.shore) [("power",.int m.power),("fleet",.int (Vbsoaa.bit m.fleet)),("province",.int m.prov)]))=G4 at k4⊢
  have g4:G4 x=some (.ins cs.U dx [("power",.int m.power),("fleet",.int (Vbsoaa.bit m.fleet)),("province",.int m.prov),("shore",.int m.shore)]):=by rw[<-hG4,upd_same];rfl
  have k14:Keep [x] H G4:=k1.trans (k2.trans (k3.trans k4))
  refine bone (put (tup (one (glob T.gHOLD))) (λH1 s1=>var 0) g4 T.clU T.uOrd (lt1000 rfl) λv H1 H2 s1 ⟨o,e1,n1,z1⟩ s2=>?_)
  subst e1
  have x2:=s2 _ _ (s1 _ _ g4)
  refine k _ o ⟨dx,by rw[upd_same];rfl⟩ ?_ ?_ (k14.trans (kp (s1.trans s2)))
  ·rw[upd_ne (ne_of (s2 _ _ z1) x2 (λz=>nomatch z))];exact s2 _ _ z1
  ·cases q:H o with
   |none=>rfl
   |some u=>
    by_cases e:o=x
    ·rw[e,g4]at n1;cases n1
    ·rw[k14 _ _ (by simpa using e) q]at n1;cases n1
def rPlace (CU:Addr)(vs:List V)(H:Hp)(Pp:V->Hp->Prop):Prop:=∃(u o:Addr) (m:Vbsoaa.Man),vs=[.ref u]/\UnitAt CU H u m o/\Pp=NewT H [.int m.prov,.int m.shore]
theorem scPlace:FnScope ["unit"] ["unit"] (defScope sPlace):=fs
theorem ok_place {f:Addr}{fd:FuncData}(F:Fun K "place_of" "place_of" sPlace f fd)(T:Tx K mg cs):FnOk P w K mg base CX0 1 f fd ["unit"] (spp (rPlace cs.U)):=by
 refine def_ F scPlace (λvs H Q E h=>?_) (λcdv A outer s H vs Q E hr h=>?_)
 ·obtain⟨_,⟨_,_,_,rfl,_⟩,_⟩:=h;rfl
 ·obtain⟨_,⟨u,o,m,rfl,⟨dx,hu⟩,rfl⟩,k⟩:=h
  exact bone (retP (tup (cons (fld (var 0) hu T.clU T.uPro rfl) λH1 s1=>one (fld (var 0) (s1 _ _ hu) T.clU T.uSho rfl))) k)
theorem fleet1 (f:Bool):decide (Vbsoaa.bit f=1)=f:=by cases f<;>rfl
def rReach (P:Program)(w:World)(cs:Cs)(vs:List V)(H:Hp)(v:V):Prop:=∃(a:Ba) (b:Vbsoaa.Board) (u o:Addr) (m:Vbsoaa.Man) (q:Nat),vs=[.ref a.bo,.ref u,.int q]/\BoardAt P w cs.B H a b/\UnitAt cs.U H u m o/\m.shore<=3/\v=.bl (rch b m q)
theorem scReach:FnScope ["board","unit","q"] ["board","unit","q"] (defScope sReach):=fs
theorem ok_reach {f:Addr}{fd:FuncData}(F:Fun K "reaches" "reaches" sReach f fd)(T:Tx K mg cs)(FP:Fn P w K mg base 1 "place_of" ["unit"] (spp (rPlace cs.U)))(MS:Mt P w K mg base 3 cs.B "joined_at_some_shore" ["self","place","q"] (spv (rJss P w cs.B)))(ML:Mt P w K mg base 2 cs.B "joined_by_land" ["self","p","q"] (spv (rJdL P w cs.B))):
  FnOk P w K mg base CX0 4 f fd ["board","unit","q"] (spv (rReach P w cs)):=by
 refine def_ F scReach (λvs H Q E h=>?_) (λcdv A outer s H vs Q E hr h=>?_)
 ·obtain⟨_,⟨_,_,_,_,_,_,rfl,_⟩,_⟩:=h;rfl
 ·obtain⟨_,⟨a,b,u,o,m,q,rfl,B,⟨dx,hu⟩,hs,rfl⟩,k⟩:=h
  obtain⟨dxb,ob⟩:=B.o
  refine bcons (ifR ((teqI (fld (var 1) hu T.clU T.uFle rfl) λ_ _=>int_).to (fleet1 m.fleet)) (λhf H1 s1=>?_) λhf H1 s1=>?_)
  ·refine bone (ret (methA MS hr (var 0) (s1 _ _ ob) rfl (λH2 s2=>consA (callPU (P:=λv H'=>∃p,v=.ref p/\H' p=some (.tup [.int m.prov,.int m.shore])) FP hr (one (var 1)) λH3 s3=>⟨_,⟨u,o,m,rfl,⟨dx,((s1.trans s2).trans s3) _ _ hu⟩,rfl⟩,λv H4 s4 ⟨p,e1,_,e3⟩=>⟨p,e1,e3⟩⟩) λH3 s3=>(one (var 2)).ap) ?_) λH' s'=>k _ (s1.trans s'))
   rintro vs H2 s2 ⟨v,ws,H3,rfl,⟨p,rfl,hp⟩,s3,rfl⟩
   refine⟨a,b,p,_,q,rfl,B.same (s1.trans s2),plAt_of (by omega) (s3 _ _ hp),?_⟩
   unfold rch
   rw[if_pos hf]
  ·refine bone (ret ((meth ML hr (var 0) (s1 _ _ ob) rfl (λH2 s2=>cons (fld (var 1) ((s1.trans s2) _ _ hu) T.clU T.uPro rfl) λH3 s3=>one (var 2)) λH2 s2=>⟨a,b,m.prov,q,rfl,B.same (s1.trans s2),rfl⟩).to ?_) λH' s'=>k _ (s1.trans s'))
   unfold rch
   rw[if_neg (by rw[hf];exact Bool.false_ne_true)]
theorem kind_at {b:Vbsoaa.Board}{p:Nat}(h:p<b.kinds.length):atI (b.kinds.map λk:Nat=>V.int (k:Int)) (p:Int)=some (.int (Vbsoaa.kind b p)):=by
 refine atI_nat ?_
 rw[List.getElem?_map,List.getElem?_eq_getElem h]
 unfold Vbsoaa.kind
 rw[List.getD_eq_getElem?_getD,List.getElem?_eq_getElem h]
 rfl
def rAidc (P:Program)(w:World)(cs:Cs)(vs:List V)(H:Hp)(v:V):Prop:=∃(a:Ba) (b:Vbsoaa.Board) (u o:Addr) (m:Vbsoaa.Man) (x q:Nat),vs=[.ref a.bo,.ref u,.int x,.int q]/\BoardAt P w cs.B H a b/\UnitAt cs.U H u m o/\m.shore<=3/\v=.bl (decide (x≠q/\x≠m.prov/\rch b m q=true))
theorem scAidc:FnScope ["board","unit","a","q"] ["board","unit","a","q"] (defScope sAidc):=fs
theorem ok_aidc {f:Addr}{fd:FuncData}(F:Fun K "aid_counts" "aid_counts" sAidc f fd)(T:Tx K mg cs)(FR:Fn P w K mg base 4 "reaches" ["board","unit","q"] (spv (rReach P w cs))):FnOk P w K mg base CX0 5 f fd ["board","unit","a","q"] (spv (rAidc P w cs)):=by
 refine def_ F scAidc (λvs H Q E h=>?_) (λcdv A outer s H vs Q E hr h=>?_)
 ·obtain⟨_,⟨_,_,_,_,_,_,_,rfl,_⟩,_⟩:=h;rfl
 ·obtain⟨_,⟨a,b,u,o,m,x,q,rfl,B,⟨dx,hu⟩,hs,rfl⟩,k⟩:=h
  refine bone (ret ((vand (neI (var 2) λ_ _=>var 3) λ_ H1 s1=>vand (neI (var 2) λH2 s2=>fld (var 1) ((s1.trans s2) _ _ hu) T.clU T.uPro rfl) λ_ H2 s2=>vone (call FR hr (cons (var 0) λ_ _=>cons (var 1) λ_ _=>one (var 3)) λH3 s3=>⟨a,b,u,o,m,q,rfl,B.same ((s1.trans s2).trans s3),⟨dx,((s1.trans s2).trans s3) _ _ hu⟩,hs,rfl⟩)).to ?_) k)
  congr 1
  rw[Bool.eq_iff_iff]
  simp only[Bool.and_eq_true,Bool.not_eq_true',decide_eq_false_iff_not,decide_eq_true_eq,ne_eq,Int.ofNat_inj]
def rCarc (P:Program)(w:World)(cs:Cs)(vs:List V)(H:Hp)(v:V):Prop:=∃(a:Ba) (b:Vbsoaa.Board) (u o:Addr) (m:Vbsoaa.Man) (x q:Nat),vs=[.ref a.bo,.ref u,.int x,.int q]/\BoardAt P w cs.B H a b/\UnitAt cs.U H u m o/\m.prov<b.kinds.length/\v=.bl (decide (m.fleet=true/\Vbsoaa.kind b m.prov=1/\x≠q))
theorem scCarc:FnScope ["board","unit","a","q"] ["board","unit","a","q"] (defScope sCarc):=fs
theorem ok_carc {f:Addr}{fd:FuncData}(F:Fun K "carry_counts" "carry_counts" sCarc f fd)(T:Tx K mg cs):FnOk P w K mg base CX0 1 f fd ["board","unit","a","q"] (spv (rCarc P w cs)):=by
 refine def_ F scCarc (λvs H Q E h=>?_) (λcdv A outer s H vs Q E hr h=>?_)
 ·obtain⟨_,⟨_,_,_,_,_,_,_,rfl,_⟩,_⟩:=h;rfl
 ·obtain⟨_,⟨a,b,u,o,m,x,q,rfl,B,⟨dx,hu⟩,hs,rfl⟩,k⟩:=h
  refine bone (ret ((vand (eqI (fld (var 1) hu T.clU T.uFle rfl) λ_ _=>int_) λ_ H1 s1=>vand (eqI (ixL (fld (var 0) ((B.same s1).o.choose_spec) T.clB T.nK rfl) (λH2 s2=>fld (var 1) ((s1.trans s2) _ _ hu) T.clU T.uPro rfl) (SqL.of (B.same s1).ki) (kind_at hs)) λ_ _=>glob T.gSEA) λ_ H2 s2=>vone (neI (var 2) λ_ _=>var 3)).to ?_) k)
  congr 1
  rw[fleet1,Bool.eq_iff_iff]
  simp only[Bool.and_eq_true,Bool.not_eq_true',decide_eq_false_iff_not,decide_eq_true_eq,ne_eq,Int.ofNat_inj]
  constructor
  ·rintro⟨h1,h2,h3⟩;exact⟨h1,by omega,h3⟩
  ·rintro⟨h1,h2,h3⟩;exact⟨h1,by omega,h3⟩
def rMv (P:Program)(w:World)(cs:Cs)(fl:Bool)(vs:List V)(H:Hp)(Pp:V->Hp->Prop):Prop:=∃(a:Ba) (b:Vbsoaa.Board) (u o:Addr) (m:Vbsoaa.Man) (g t:Nat) (wt:Bool),vs=[.ref a.bo,.ref u,.ref o]/\BoardAt P w cs.B H a b/\UnitAt cs.U H u m o/\Kn.MOk b m/\m.order=.move g t wt/\m.fleet=fl/\H o=some (.tup (given m.order))/\
 Pp=λv H'=>∃p,v=.ref p/\H' p=some (.tup ((key (cnt b m)).map kV))
theorem bit0 (b:Bool):decide (Vbsoaa.bit b=0)= !b:=by cases b<;>rfl
theorem scFmv:FnScope ["board","unit","order","goal","shore","water"] ["board","unit","order"] (defScope sFmv):=fs
theorem ok_fmv {f:Addr}{fd:FuncData}(F:Fun K "fleet_move_as_it_counts" "fleet_move_as_it_counts" sFmv f fd)(T:Tx K mg cs)(FP:Fn P w K mg base 1 "place_of" ["unit"] (spp (rPlace cs.U)))(MS:Mt P w K mg base 2 cs.B "joined_by_sea" ["self","place","other"] (spv (rJdS P w cs.B))):FnOk P w K mg base CX0 5 f fd ["board","unit","order"] (spp (rMv P w cs true)):=by
 refine def_ F scFmv (λvs H Q E h=>?_) (λcdv A outer s H vs Q E hr h=>?_)
 ·obtain⟨_,⟨_,_,_,_,_,_,_,_,rfl,_⟩,_⟩:=h;rfl
 ·obtain⟨_,⟨a,b,u,o,m,g,t,wt,rfl,B,⟨dx,hu⟩,ok,hm,hf,ho,rfl⟩,k⟩:=h
  have od:=ok.od
  rw[hm]at od ho
  have ho:H o=some (.tup [.str "move",.int g,.int t,.int (Vbsoaa.bit wt)]):=ho
  have e:cnt b m=if wt=false/\Vbsoaa.linked b.sea (Vbsoaa.place m.prov m.shore) (Vbsoaa.place g t)=true then .mv g else .hold:=by
   unfold Vw.cnt;rw[hm];simp only[];rw[if_pos hf]
  refine bcons (set 3 scFmv.nd (ixT (var 2) (λ_ _=>int_) (SqT.of ho) rfl) λH1 s1=>?_)
  refine bcons (set 4 scFmv.nd (ixT (var 2) (λ_ _=>int_) (SqT.of (s1 _ _ ho)) rfl) λH2 s2=>?_)
  refine bcons (set 5 scFmv.nd (ixT (var 2) (λ_ _=>int_) (SqT.of (s2 _ _ (s1 _ _ ho))) rfl) λH3 s3=>?_)
  have s13:=(s1.trans s2).trans s3
  obtain⟨dxb,ob⟩:=(B.same s13).o
  refine bcons (ifR (and2 (b1:=Vbsoaa.linked b.sea (Vbsoaa.place m.prov m.shore) (Vbsoaa.place g t)) ((teqI (var 5) λ_ _=>int_).to (bit0 wt)) λ_ H4 s4=>tv (methA MS hr (var 0) (s4 _ _ ob) rfl (λH5 s5=>consA (callPU (P:=λv H'=>∃p,v=.ref p/\H' p=some (.tup [.int m.prov,.int m.shore])) FP hr (one (var 1)) λH6 s6=>⟨_,⟨u,o,m,rfl,⟨dx,(((s13.trans s4).trans s5).trans s6) _ _ hu⟩,rfl⟩,λv H7 s7 ⟨p,e1,_,e3⟩=>⟨p,e1,e3⟩⟩) λH6 s6=>one' (tupA (cons (var 3) λ_ _=>one (var 4)))) ?_)) (λhc H4 s4=>?_) λhc H4 s4=>?_)
  ·rintro vs H5 s5 ⟨v,ws,H6,rfl,⟨p,rfl,hp⟩,s6,v2,rfl,p2,rfl,hp2⟩
   exact⟨a,b,p,p2,_,_,rfl,B.same ((s13.trans s4).trans s5),plAt_of (by have:=ok.sh;omega) (s6 _ _ hp),plAt_of (by have:=od.2;omega) hp2,rfl⟩
  ·refine bone (retP (tup (vs:=[.str "move",.int g]) (cons (glob T.gMOVE) λ_ _=>one (var 3))) λv H5 s5 ⟨p,ev,_,hp⟩=>k v H5 ((s13.trans s4).trans s5) ⟨p,ev,?_⟩)
   rw[hp,e,if_pos (by simpa using hc)];rfl
  ·refine bone (retP (tup (one (glob T.gHOLD))) λv H5 s5 ⟨p,ev,_,hp⟩=>k v H5 ((s13.trans s4).trans s5) ⟨p,ev,?_⟩)
   rw[hp,e,if_neg (by intro z;rw[z.1,z.2]at hc;cases hc)];rfl
theorem scAmv:FnScope ["board","unit","order","goal","water"] ["board","unit","order"] (defScope sAmv):=fs
theorem ok_amv {f:Addr}{fd:FuncData}(F:Fun K "army_move_as_it_counts" "army_move_as_it_counts" sAmv f fd)(T:Tx K mg cs)(FR:Fn P w K mg base 4 "reaches" ["board","unit","q"] (spv (rReach P w cs))):FnOk P w K mg base CX0 5 f fd ["board","unit","order"] (spp (rMv P w cs false)):=by
 refine def_ F scAmv (λvs H Q E h=>?_) (λcdv A outer s H vs Q E hr h=>?_)
 ·obtain⟨_,⟨_,_,_,_,_,_,_,_,rfl,_⟩,_⟩:=h;rfl
 ·obtain⟨_,⟨a,b,u,o,m,g,t,wt,rfl,B,⟨dx,hu⟩,ok,hm,hf,ho,rfl⟩,k⟩:=h
  have od:=ok.od
  rw[hm]at od ho
  have ho:H o=some (.tup [.str "move",.int g,.int t,.int (Vbsoaa.bit wt)]):=ho
  have e:cnt b m=if g=m.prov then .hold else if wt=false/\rch b m g=true then .mv g else if Vbsoaa.kind b m.prov=2/\Vbsoaa.kind b g=2 then .bw g else .hold:=by
   unfold Vw.cnt;rw[hm];simp only[];rw[if_neg (by rw[hf];exact Bool.false_ne_true)]
  refine bcons (set 3 scAmv.nd (ixT (var 2) (λ_ _=>int_) (SqT.of ho) rfl) λH1 s1=>?_)
  refine bcons (set 4 scAmv.nd (ixT (var 2) (λ_ _=>int_) (SqT.of (s1 _ _ ho)) rfl) λH2 s2=>?_)
  have s12:=s1.trans s2
  refine bcons (ifR (teqI (var 3) λH3 s3=>fld (var 1) ((s12.trans s3) _ _ hu) T.clU T.uPro rfl) (λhc H3 s3=>?_) λhc H3 s3=>?_)
  ·refine bone (retP (tup (one (glob T.gHOLD))) λv H5 s5 ⟨p,ev,_,hp⟩=>k v H5 ((s12.trans s3).trans s5) ⟨p,ev,?_⟩)
   rw[hp,e,if_pos (by have:=of_decide_eq_true hc;omega)];rfl
  ·have h0:¬g=m.prov:=by have:=of_decide_eq_false hc;omega
   rw[if_neg h0]at e
   have s13:=s12.trans s3
   refine bcons (ifR (and2 (b1:=rch b m g) ((teqI (var 4) λ_ _=>int_).to (bit0 wt)) λ_ H4 s4=>tv (call FR hr (cons (var 0) λ_ _=>cons (var 1) λ_ _=>one (var 3)) λH5 s5=>⟨a,b,u,o,m,g,rfl,B.same ((s13.trans s4).trans s5),⟨dx,((s13.trans s4).trans s5) _ _ hu⟩,ok.sh,rfl⟩)) (λhd H4 s4=>?_) λhd H4 s4=>?_)
   ·refine bone (retP (tup (vs:=[.str "move",.int g]) (cons (glob T.gMOVE) λ_ _=>one (var 3))) λv H5 s5 ⟨p,ev,_,hp⟩=>k v H5 ((s13.trans s4).trans s5) ⟨p,ev,?_⟩)
    rw[hp,e,if_pos (by simpa using hd)];rfl
   ·rw[if_neg (by intro z;rw[z.1,z.2]at hd;cases hd)]at e
    have s14:=s13.trans s4
    have B4:=B.same s14
    obtain⟨dxb,ob⟩:=B4.o
    refine bcons (ifR (and2 (teqI (ixL (fld (var 0) ob T.clB T.nK rfl) (λH5 s5=>fld (var 1) ((s14.trans s5) _ _ hu) T.clU T.uPro rfl) (SqL.of B4.ki) (kind_at ok.pr)) λ_ _=>glob T.gCOAST) λ_ H5 s5=>teqI (ixL (fld (var 0) (s5 _ _ ob) T.clB T.nK rfl) (λH6 s6=>var 3) (SqL.of (s5 _ _ B4.ki)) (kind_at od.1)) λ_ _=>glob T.gCOAST) (λhe H5 s5=>?_) λhe H5 s5=>?_)
    ·refine bone (retP (tup (vs:=[.str "by water",.int g]) (cons (glob T.gBY_WATER) λ_ _=>one (var 3))) λv H6 s6 ⟨p,ev,_,hp⟩=>k v H6 ((s14.trans s5).trans s6) ⟨p,ev,?_⟩)
     rw[Bool.and_eq_true,decide_eq_true_eq,decide_eq_true_eq]at he
     rw[hp,e,if_pos ⟨by have:=he.1;omega,by have:=he.2;omega⟩];rfl
    ·refine bone (retP (tup (one (glob T.gHOLD))) λv H6 s6 ⟨p,ev,_,hp⟩=>k v H6 ((s14.trans s5).trans s6) ⟨p,ev,?_⟩)
     rw[hp,e,if_neg (by intro z;rw[z.1,z.2]at he;cases he)];rfl
def rOaic (P:Program)(w:World)(cs:Cs)(vs:List V)(H:Hp)(Pp:V->Hp->Prop):Prop:=∃(a:Ba) (b:Vbsoaa.Board) (u o:Addr) (m:Vbsoaa.Man),vs=[.ref a.bo,.ref u]/\BoardAt P w cs.B H a b/\UnitAt cs.U H u m o/\Kn.MOk b m/\H o=some (.tup (given m.order))/\
 Pp=λv H'=>∃p,v=.ref p/\H' p=some (.tup ((key (cnt b m)).map kV))
theorem scOaic:FnScope ["board","unit","order"] ["board","unit"] (defScope sOaic):=fs
theorem ok_oaic {f:Addr}{fd:FuncData}(F:Fun K "order_as_it_counts" "order_as_it_counts" sOaic f fd)(T:Tx K mg cs)(FR:Fn P w K mg base 4 "reaches" ["board","unit","q"] (spv (rReach P w cs)))(FF:Fn P w K mg base 5 "fleet_move_as_it_counts" ["board","unit","order"] (spp (rMv P w cs true)))
  (FA:Fn P w K mg base 5 "army_move_as_it_counts" ["board","unit","order"] (spp (rMv P w cs false))) (FI:Fn P w K mg base 5 "aid_counts" ["board","unit","a","q"] (spv (rAidc P w cs))) (FC:Fn P w K mg base 1 "carry_counts" ["board","unit","a","q"] (spv (rCarc P w cs))):FnOk P w K mg base CX0 6 f fd ["board","unit"] (spp (rOaic P w cs)):=by
 refine def_ F scOaic (λvs H Q E h=>?_) (λcdv A outer s H vs Q E hr h=>?_)
 ·obtain⟨_,⟨_,_,_,_,_,rfl,_⟩,_⟩:=h;rfl
 ·obtain⟨_,⟨a,b,u,o,m,rfl,B,⟨dx,hu⟩,ok,ho,rfl⟩,k⟩:=h
  refine bcons (set 2 scOaic.nd (fld (var 1) hu T.clU T.uOrd rfl) λH1 s1=>?_)
  have hu1:=s1 _ _ hu
  have B1:=B.same s1
  have ho1:=s1 _ _ ho
  cases hm:m.order with
  |hold=>
   rw[hm]at ho1
   have ho1:H1 o=some (.tup [.str "hold"]):=ho1
   have e:cnt b m=.hold:=by unfold Vw.cnt;rw[hm]
   have i0:∀{H2:Hp},Same H1 H2->SqT K H2 o [.str "hold"]:=λs2=>SqT.of (s2 _ _ ho1)
   refine bcons (ifF (wandF (teqS (ixT (var 2) (λ_ _=>int_) (i0 (Same.refl _)) rfl) λ_ _=>glob T.gMOVE)).tv λH2 s2=>?_)
   refine bcons (ifF (teqS (ixT (var 2) (λ_ _=>int_) (i0 s2) rfl) λ_ _=>glob T.gMOVE) λH3 s3=>?_)
   refine bcons (ifF (wandF (teqS (ixT (var 2) (λ_ _=>int_) (i0 (s2.trans s3)) rfl) λ_ _=>glob T.gSTAY)).tv λH4 s4=>?_)
   refine bcons (ifF (wandF (teqS (ixT (var 2) (λ_ _=>int_) (i0 ((s2.trans s3).trans s4)) rfl) λ_ _=>glob T.gAID)).tv λH5 s5=>?_)
   refine bcons (ifF (wandF (teqS (ixT (var 2) (λ_ _=>int_) (i0 (((s2.trans s3).trans s4).trans s5)) rfl) λ_ _=>glob T.gCARRY)).tv λH6 s6=>?_)
   refine bone (retP (tup (one (glob T.gHOLD))) λv H7 s7 ⟨p,ev,_,hp⟩=>k v H7 (s1.trans (s2.trans (s3.trans (s4.trans (s5.trans (s6.trans s7)))))) ⟨p,ev,?_⟩)
   rw[hp,e];rfl
  |move g t wt=>
   have ho':=ho1
   rw[hm]at ho1
   have ho1:H1 o=some (.tup [.str "move",.int g,.int t,.int (Vbsoaa.bit wt)]):=ho1
   have i0:∀{H2:Hp},Same H1 H2->SqT K H2 o [.str "move",.int g,.int t,.int (Vbsoaa.bit wt)]:=λs2=>SqT.of (s2 _ _ ho1)
   refine bcons (ifR ((and2 (teqS (k:=true) (ixT (var 2) (λ_ _=>int_) (i0 (Same.refl _)) rfl) λ_ _=>glob T.gMOVE) λ_ H2 s2=>(teqI (fld (var 1) (s2 _ _ hu1) T.clU T.uFle rfl) λ_ _=>int_).to (fleet1 m.fleet)).to (Bool.true_and _)) (λhf H2 s2=>?_) λhf H2 s2=>?_)
   ·exact bone (retP (callPU FF hr (cons (var 0) λ_ _=>cons (var 1) λ_ _=>one (var 2)) λH3 s3=>⟨_,⟨a,b,u,o,m,g,t,wt,rfl,B1.same (s2.trans s3),⟨dx,(s2.trans s3) _ _ hu1⟩,ok,hm,hf,(s2.trans s3) _ _ ho',rfl⟩,λv H4 s4 z=>z⟩) λv H3 s3 z=>k v H3 ((s1.trans s2).trans s3) z)
   ·refine bcons (ifT (teqS (ixT (var 2) (λ_ _=>int_) (i0 s2) rfl) λ_ _=>glob T.gMOVE) λH3 s3=>?_)
    exact bone (retP (callPU FA hr (cons (var 0) λ_ _=>cons (var 1) λ_ _=>one (var 2)) λH4 s4=>⟨_,⟨a,b,u,o,m,g,t,wt,rfl,B1.same ((s2.trans s3).trans s4),⟨dx,((s2.trans s3).trans s4) _ _ hu1⟩,ok,hm,hf,((s2.trans s3).trans s4) _ _ ho',rfl⟩,λv H4 s4 z=>z⟩) λv H4 s4 z=>k v H4 (((s1.trans s2).trans s3).trans s4) z)
  |stay g=>
   rw[hm]at ho1
   have ho1:H1 o=some (.tup [.str "stay",.int g]):=ho1
   have e:cnt b m=if rch b m g=true then .st g else .hold:=by unfold Vw.cnt;rw[hm]
   have i0:∀{H2:Hp},Same H1 H2->SqT K H2 o [.str "stay",.int g]:=λs2=>SqT.of (s2 _ _ ho1)
   refine bcons (ifF (wandF (teqS (ixT (var 2) (λ_ _=>int_) (i0 (Same.refl _)) rfl) λ_ _=>glob T.gMOVE)).tv λH2 s2=>?_)
   refine bcons (ifF (teqS (ixT (var 2) (λ_ _=>int_) (i0 s2) rfl) λ_ _=>glob T.gMOVE) λH3 s3=>?_)
   have s13:=s2.trans s3
   refine bcons (ifR ((and2 (b1:=rch b m g) (teqS (k:=true) (ixT (var 2) (λ_ _=>int_) (i0 s13) rfl) λ_ _=>glob T.gSTAY) λ_ H4 s4=>tv (callU FR hr (cons (var 0) λH6 s6=>cons (var 1) λH7 s7=>one (ixT (var 2) (λ_ _=>int_) (i0 (s13.trans (s4.trans (s6.trans s7)))) rfl)) λH5 s5=>⟨a,b,u,o,m,g,rfl,B1.same ((s13.trans s4).trans s5),⟨dx,((s13.trans s4).trans s5) _ _ hu1⟩,ok.sh,rfl⟩)).to (Bool.true_and _)) (λhf H4 s4=>?_) λhf H4 s4=>?_)
   ·refine bone (ret (var 2) λH5 s5=>k _ H5 (s1.trans ((s13.trans s4).trans s5)) ⟨o,rfl,?_⟩)
    rw[((s13.trans s4).trans s5) _ _ ho1,e,if_pos hf];rfl
   ·have s14:=s13.trans s4
    refine bcons (ifF (wandF (teqS (ixT (var 2) (λ_ _=>int_) (i0 s14) rfl) λ_ _=>glob T.gAID)).tv λH5 s5=>?_)
    refine bcons (ifF (wandF (teqS (ixT (var 2) (λ_ _=>int_) (i0 (s14.trans s5)) rfl) λ_ _=>glob T.gCARRY)).tv λH6 s6=>?_)
    refine bone (retP (tup (one (glob T.gHOLD))) λv H7 s7 ⟨p,ev,_,hp⟩=>k v H7 (s1.trans (s14.trans (s5.trans (s6.trans s7)))) ⟨p,ev,?_⟩)
    rw[hp,e,if_neg (by rw[hf];exact Bool.false_ne_true)];rfl
  |aid x g=>
   rw[hm]at ho1
   have ho1:H1 o=some (.tup [.str "aid",.int x,.int g]):=ho1
   have e:cnt b m=if x≠g/\x≠m.prov/\rch b m g=true then .ai x g else .hold:=by unfold Vw.cnt;rw[hm]
   have i0:∀{H2:Hp},Same H1 H2->SqT K H2 o [.str "aid",.int x,.int g]:=λs2=>SqT.of (s2 _ _ ho1)
   refine bcons (ifF (wandF (teqS (ixT (var 2) (λ_ _=>int_) (i0 (Same.refl _)) rfl) λ_ _=>glob T.gMOVE)).tv λH2 s2=>?_)
   refine bcons (ifF (teqS (ixT (var 2) (λ_ _=>int_) (i0 s2) rfl) λ_ _=>glob T.gMOVE) λH3 s3=>?_)
   have s13:=s2.trans s3
   refine bcons (ifF (wandF (teqS (ixT (var 2) (λ_ _=>int_) (i0 s13) rfl) λ_ _=>glob T.gSTAY)).tv λH4 s4=>?_)
   have s14:=s13.trans s4
   refine bcons (ifR ((and2 (b1:=decide (x≠g/\x≠m.prov/\rch b m g=true)) (teqS (k:=true) (ixT (var 2) (λ_ _=>int_) (i0 s14) rfl) λ_ _=>glob T.gAID) λ_ H5 s5=>tv (callU FI hr (cons (var 0) λH6 s6=>cons (var 1) λH7 s7=>cons (ixT (var 2) (λ_ _=>int_) (i0 (s14.trans (s5.trans (s6.trans s7)))) rfl) λH8 s8=>one (ixT (var 2) (λ_ _=>int_) (i0 (s14.trans (s5.trans (s6.trans (s7.trans s8))))) rfl)) λH6 s6=>⟨a,b,u,o,m,x,g,rfl,B1.same (s14.trans (s5.trans s6)),⟨dx,(s14.trans (s5.trans s6)) _ _ hu1⟩,ok.sh,rfl⟩)).to (Bool.true_and _)) (λhf H5 s5=>?_) λhf H5 s5=>?_)
   ·refine bone (ret (var 2) λH6 s6=>k _ H6 (s1.trans ((s14.trans s5).trans s6)) ⟨o,rfl,?_⟩)
    rw[((s14.trans s5).trans s6) _ _ ho1,e,if_pos (of_decide_eq_true hf)];rfl
   ·have s15:=s14.trans s5
    refine bcons (ifF (wandF (teqS (ixT (var 2) (λ_ _=>int_) (i0 s15) rfl) λ_ _=>glob T.gCARRY)).tv λH6 s6=>?_)
    refine bone (retP (tup (one (glob T.gHOLD))) λv H7 s7 ⟨p,ev,_,hp⟩=>k v H7 (s1.trans (s15.trans (s6.trans s7))) ⟨p,ev,?_⟩)
    rw[hp,e,if_neg (of_decide_eq_false hf)];rfl
  |carry x g=>
   rw[hm]at ho1
   have ho1:H1 o=some (.tup [.str "carry",.int x,.int g]):=ho1
   have e:cnt b m=if m.fleet=true/\Vbsoaa.kind b m.prov=1/\x≠g then .ca x g else .hold:=by unfold Vw.cnt;rw[hm]
   have i0:∀{H2:Hp},Same H1 H2->SqT K H2 o [.str "carry",.int x,.int g]:=λs2=>SqT.of (s2 _ _ ho1)
   refine bcons (ifF (wandF (teqS (ixT (var 2) (λ_ _=>int_) (i0 (Same.refl _)) rfl) λ_ _=>glob T.gMOVE)).tv λH2 s2=>?_)
   refine bcons (ifF (teqS (ixT (var 2) (λ_ _=>int_) (i0 s2) rfl) λ_ _=>glob T.gMOVE) λH3 s3=>?_)
   have s13:=s2.trans s3
   refine bcons (ifF (wandF (teqS (ixT (var 2) (λ_ _=>int_) (i0 s13) rfl) λ_ _=>glob T.gSTAY)).tv λH4 s4=>?_)
   have s14:=s13.trans s4
   refine bcons (ifF (wandF (teqS (ixT (var 2) (λ_ _=>int_) (i0 s14) rfl) λ_ _=>glob T.gAID)).tv λH5 s5=>?_)
   have s15:=s14.trans s5
   refine bcons (ifR ((and2 (b1:=decide (m.fleet=true/\Vbsoaa.kind b m.prov=1/\x≠g)) (teqS (k:=true) (ixT (var 2) (λ_ _=>int_) (i0 s15) rfl) λ_ _=>glob T.gCARRY) λ_ H6 s6=>tv (callU FC hr (cons (var 0) λH7 s7=>cons (var 1) λH8 s8=>cons (ixT (var 2) (λ_ _=>int_) (i0 (s15.trans (s6.trans (s7.trans s8)))) rfl) λH9 s9=>one (ixT (var 2) (λ_ _=>int_) (i0 (s15.trans (s6.trans (s7.trans (s8.trans s9))))) rfl)) λH7 s7=>⟨a,b,u,o,m,x,g,rfl,B1.same (s15.trans (s6.trans s7)),⟨dx,(s15.trans (s6.trans s7)) _ _ hu1⟩,ok.pr,rfl⟩)).to (Bool.true_and _)) (λhf H6 s6=>?_) λhf H6 s6=>?_)
   ·refine bone (ret (var 2) λH7 s7=>k _ H7 (s1.trans ((s15.trans s6).trans s7)) ⟨o,rfl,?_⟩)
    rw[((s15.trans s6).trans s7) _ _ ho1,e,if_pos (of_decide_eq_true hf)];rfl
   ·refine bone (retP (tup (one (glob T.gHOLD))) λv H7 s7 ⟨p,ev,_,hp⟩=>k v H7 (s1.trans (s15.trans (s6.trans s7))) ⟨p,ev,?_⟩)
    rw[hp,e,if_neg (of_decide_eq_false hf)];rfl
end
open Vbsoaa (Men Man manAt goal byWater Board)
open Vbsoae (Known)
abbrev sHav:Stmt:=inClass (top 23) 1
abbrev sMin:Stmt:=inClass (top 23) 2
abbrev sMvs:Stmt:=inClass (top 23) 3
abbrev sMbw:Stmt:=inClass (top 23) 4
abbrev sGoal:Stmt:=inClass (top 23) 5
abbrev sShw:Stmt:=top 24
abbrev sMhw:Stmt:=top 25
abbrev sSl:Stmt:=top 26
abbrev sMl:Stmt:=top 27
abbrev sH2h:Stmt:=top 28
def dOk:Ok->PyData
 |.hold=>.tuple [.str "hold"]
 |.mv p=>.tuple [.str "move",.int p]
 |.bw p=>.tuple [.str "by water",.int p]
 |.st p=>.tuple [.str "stay",.int p]
 |.ai a q=>.tuple [.str "aid",.int a,.int q]
 |.ca a q=>.tuple [.str "carry",.int a,.int q]
theorem sOk1:PyData.strOk "hold"=true:=by decide+kernel
theorem sOk2:PyData.strOk "move"=true:=by decide+kernel
theorem sOk3:PyData.strOk "by water"=true:=by decide+kernel
theorem sOk4:PyData.strOk "stay"=true:=by decide+kernel
theorem sOk5:PyData.strOk "aid"=true:=by decide+kernel
theorem sOk6:PyData.strOk "carry"=true:=by decide+kernel
theorem shaped_dOk (o:Ok):SeqAt.shaped (dOk o)=true:=by
 cases o<;>simp[SeqAt.shaped,dOk,PyData.canLay0,PyData.canLayAll0,PyData.depth,PyData.depthAll,sOk1,sOk2,sOk3,sOk4,sOk5,sOk6]
theorem dp_key {K:Fg}{H:Hp}{t:Addr}{o:Ok}(h:H t=some (.tup ((key o).map kV))):Dp K H (.ref t) (dOk o):=by
 cases o with
 |hold=>exact .tup (SqT.of h) (.cons (.str _) .nil)
 |mv p=>exact .tup (SqT.of h) (.cons (.str _) (.cons (.int _) .nil))
 |bw p=>exact .tup (SqT.of h) (.cons (.str _) (.cons (.int _) .nil))
 |st p=>exact .tup (SqT.of h) (.cons (.str _) (.cons (.int _) .nil))
 |ai p q=>exact .tup (SqT.of h) (.cons (.str _) (.cons (.int _) (.cons (.int _) .nil)))
 |ca p q=>exact .tup (SqT.of h) (.cons (.str _) (.cons (.int _) (.cons (.int _) .nil)))
theorem eqv_mv (o:Ok)(q:Nat):PyData.eqv (dOk o) (dOk (.mv q))=decide (o=.mv q):=by
 cases o with
 |mv p=>
  show(true&&(((p:Int)==(q:Int))&&true))=_
  rw[Bool.true_and,Bool.and_true,Bool.beq_eq_decide_eq,Bool.eq_iff_iff]
  simp only[decide_eq_true_eq,Ok.mv.injEq,Int.ofNat_inj]
 |_=>rfl
theorem eqv_non (q:Nat):PyData.eqv .none (dOk (.mv q))=false:=rfl
def tag:Ok->Str
 |.hold=>"hold"
 |.mv _=>"move"
 |.bw _=>"by water"
 |.st _=>"stay"
 |.ai _ _=>"aid"
 |.ca _ _=>"carry"
theorem key_tag (o:Ok):atI ((key o).map kV) 0=some (.str (tag o)):=by cases o<;>rfl
section
variable {P:Program}{w:World}{K:Fg}{mg:Str->Option Value}{base:Heap}{cs:Cs}
section
variable {X:Cx}{Z:Sg}{H:Hp}{pos apos:Pos}{e i:Expr}{a:Pa}{b:Board}{ms:Men}{k:Known}{m:Man}{p:Nat}
theorem pBoard (T:Tx X.K X.mg cs)(A:PosAt X.prog X.w cs H a b ms k)(h:Ev X e Z H (.ref a.po))(hb:attributeBase e "board" X.env (eval e X.env)=eval e X.env:=by rfl):Ev X (.Attribute e "board" pos) Z H (.ref a.b.bo):=by
 obtain⟨dx,o⟩:=A.o;exact fld h o T.clP T.pBoa rfl hb
theorem pUnits (T:Tx X.K X.mg cs)(A:PosAt X.prog X.w cs H a b ms k)(h:Ev X e Z H (.ref a.po))(hb:attributeBase e "units" X.env (eval e X.env)=eval e X.env:=by rfl):Ev X (.Attribute e "units" pos) Z H (.ref a.un):=by
 obtain⟨dx,o⟩:=A.o;exact fld h o T.clP T.pUni rfl hb
theorem pKnown (T:Tx X.K X.mg cs)(A:PosAt X.prog X.w cs H a b ms k)(h:Ev X e Z H (.ref a.po))(hb:attributeBase e "known" X.env (eval e X.env)=eval e X.env:=by rfl):Ev X (.Attribute e "known" pos) Z H (.ref a.k.ob):=by
 obtain⟨dx,o⟩:=A.o;exact fld h o T.clP T.pKno rfl hb
theorem pOrders (T:Tx X.K X.mg cs)(A:PosAt X.prog X.w cs H a b ms k)(h:Ev X e Z H (.ref a.po))(hb:attributeBase e "orders" X.env (eval e X.env)=eval e X.env:=by rfl):Ev X (.Attribute e "orders" pos) Z H (.ref a.od):=by
 obtain⟨dx,o⟩:=A.o;exact fld h o T.clP T.pOrd rfl hb
theorem pByo (T:Tx X.K X.mg cs)(A:PosAt X.prog X.w cs H a b ms k)(h:Ev X e Z H (.ref a.po))(hb:attributeBase e "by_order" X.env (eval e X.env)=eval e X.env:=by rfl):Ev X (.Attribute e "by_order" pos) Z H (.ref a.by_):=by
 obtain⟨dx,o⟩:=A.o;exact fld h o T.clP T.pByo rfl hb
theorem pUnit (T:Tx X.K X.mg cs)(hu:X.A.units+1<cLine)(A:PosAt X.prog X.w cs H a b ms k)(hm:manAt ms p=some m)(h:Ev X e Z H (.ref a.po))(hi:∀H1,Same H H1->Ev X i Z H1 (.int p))(hb:attributeBase e "units" X.env (eval e X.env)=eval e X.env:=by rfl)(hp:NoSl i:=by exact λ_ _=>rfl):Ev X (.Subscript (.Attribute e "units" apos) i pos) Z H (.ref (a.ua p)):=
 ixG hu (pUnits T A h hb) hi (λH1 s1=>by have:=(A.same s1).getU p;rw[hm]at this;exact this) hp
theorem pPower (T:Tx X.K X.mg cs)(hu:X.A.units+1<cLine)(A:PosAt X.prog X.w cs H a b ms k)(hm:manAt ms p=some m)(h:Ev X e Z H (.ref a.po))(hi:∀H1,Same H H1->Ev X i Z H1 (.int p))(hb:attributeBase e "units" X.env (eval e X.env)=eval e X.env:=by rfl)(hp:NoSl i:=by exact λ_ _=>rfl){pos2:Pos}
  (hb2:attributeBase (.Subscript (.Attribute e "units" apos) i pos) "power" X.env (eval (.Subscript (.Attribute e "units" apos) i pos) X.env)=eval (.Subscript (.Attribute e "units" apos) i pos) X.env:=by rfl):Ev X (.Attribute (.Subscript (.Attribute e "units" apos) i pos) "power" pos2) Z H (.int m.power):=by
 obtain⟨o,dx,hU⟩:=A.unit hm
 exact fld (pUnit T hu A hm h hi hb hp) hU T.clU T.uPow rfl hb2
theorem pOrder (T:Tx X.K X.mg cs)(hu:X.A.units+1<cLine)(A:PosAt X.prog X.w cs H a b ms k)(hm:manAt ms p=some m)(h:Ev X e Z H (.ref a.po))(hi:∀H1,Same H H1->Ev X i Z H1 (.int p))(hb:attributeBase e "orders" X.env (eval e X.env)=eval e X.env:=by rfl)(hp:NoSl i:=by exact λ_ _=>rfl):Ev X (.Subscript (.Attribute e "orders" apos) i pos) Z H (.ref (a.oa p)):=
 ixG hu (pOrders T A h hb) hi (λH1 s1=>by have:=(A.same s1).getO p;rw[hm]at this;exact this) hp
theorem pTag (T:Tx X.K X.mg cs)(hu:X.A.units+1<cLine)(A:PosAt X.prog X.w cs H a b ms k)(hm:manAt ms p=some m)(h:Ev X e Z H (.ref a.po))(hi:∀H1,Same H H1->Ev X i Z H1 (.int p)){pos2 pos3:Pos}{j}(hb:attributeBase e "orders" X.env (eval e X.env)=eval e X.env:=by rfl)(hp:NoSl i:=by exact λ_ _=>rfl):Ev X (.Subscript (.Subscript (.Attribute e "orders" apos) i pos) (.Constant (.int 0) j pos3) pos2) Z H (.str (tag (kof m.order))):=
 ixT (pOrder T hu A hm h hi hb hp) (λ_ _=>int_) (SqT.of (A.order hm)) (key_tag _)
end
def rHav (P:Program)(w:World)(cs:Cs)(vs:List V)(H:Hp)(Pp:V->Hp->Prop):Prop:=∃(a:Pa) (b:Board) (ms:Men) (k:Known) (t:Addr) (o:Ok),vs=[.ref a.po,.ref t]/\PosAt P w cs H a b ms k/\H t=some (.tup ((key o).map kV))/\Pp=NewL H (nv (hav ms o))
theorem scHav:FnScope ["self","order"] ["self","order"] (defScope sHav):=fs
theorem ok_hav {f:Addr}{fd:FuncData}(F:Fun K "having" "Position.having" sHav f fd)(T:Tx K mg cs):FnOk P w K mg base CX0 1 f fd ["self","order"] (spp (rHav P w cs)):=by
 refine def_ F scHav (λvs H Q E h=>?_) (λcdv A outer s H vs Q E hr h=>?_)
 ·obtain⟨_,⟨_,_,_,_,_,_,rfl,_⟩,_⟩:=h;rfl
 ·obtain⟨_,⟨a,b,ms,k,t,o,rfl,A,ht,rfl⟩,kk⟩:=h
  refine bone (retP (listOf T.mlist ((get2P (oo:=if hav ms o=[]then none else some (.ref (a.la o))) (hu_of hr) (pByo T A (var 0)) (λH1 s1=>?_) (λ_ _=>var 1) (λ_ _=>newLA) (λH1 s1=>?_) ⟨rfl,rfl,rfl,rfl⟩).mono λv H1 s1 ⟨z,⟨p,ez,hp⟩,ev⟩=>?_)) kk)
  ·obtain⟨kvs,h1,_⟩:=(A.same s1).by_
   exact .inr ⟨kvs,.inl h1⟩
  ·obtain⟨kvs,h1,h2⟩:=(A.same s1).by_
   have:=DGet.t h1 (s1 _ _ ht)
   rw[h2]at this;exact this
  ·by_cases c:hav ms o=[]
   ·rw[if_pos c]at ev
    refine⟨p,by rw[ev,ez];rfl,SqL.of ?_⟩
    rw[hp,c];rfl
   ·rw[if_neg c]at ev
    exact⟨a.la o,ev,SqL.of ((A.same s1).ls o c)⟩
def rMin (P:Program)(w:World)(cs:Cs)(vs:List V)(H:Hp)(Pp:V->Hp->Prop):Prop:=∃(a:Pa) (b:Board) (ms:Men) (k:Known) (q:Nat),vs=[.ref a.po,.int q]/\PosAt P w cs H a b ms k/\Pp=NewL H (nv (minto ms q))
theorem scMin:FnScope ["self","q"] ["self","q"] (defScope sMin):=fs
theorem ok_min {f:Addr}{fd:FuncData}(F:Fun K "movers_into" "Position.movers_into" sMin f fd)(T:Tx K mg cs)(MH:Mt P w K mg base 1 cs.P "having" ["self","order"] (spp (rHav P w cs))):FnOk P w K mg base CX0 2 f fd ["self","q"] (spp (rMin P w cs)):=by
 refine def_ F scMin (λvs H Q E h=>?_) (λcdv A outer s H vs Q E hr h=>?_)
 ·obtain⟨_,⟨_,_,_,_,_,rfl,_⟩,_⟩:=h;rfl
 ·obtain⟨_,⟨a,b,ms,k,q,rfl,A,rfl⟩,kk⟩:=h
  obtain⟨dx,o⟩:=A.o
  have h1:=hav_le A (.mv q)
  have h2:=hav_le A (.bw q)
  have e:nv (minto ms q)=nv (hav ms (.mv q))++nv (hav ms (.bw q)):=by unfold minto nv;rw[List.map_append]
  rw[e]at kk
  refine bone (retP (catP (by rw[nv_len,nv_len];omega) (methAP MH hr (var 0) o rfl (λ_ _=>one' (tupA (cons (glob T.gMOVE) λ_ _=>one (var 1)))) ?_) λH1 s1=>methAP MH hr (var 0) (s1 _ _ o) rfl (λ_ _=>one' (tupA (cons (glob T.gBY_WATER) λ_ _=>one (var 1)))) ?_) kk)
  ·rintro vs H1 s1 ⟨v,rfl,p,rfl,hp⟩
   exact⟨_,⟨a,b,ms,k,p,.mv q,rfl,A.same s1,hp,rfl⟩,λv H2 s2 ⟨r,e1,e2,e3⟩=>⟨r,e1,s1.free e2,e3⟩⟩
  ·rintro vs H2 s2 ⟨v,rfl,p,rfl,hp⟩
   exact⟨_,⟨a,b,ms,k,p,.bw q,rfl,A.same (s1.trans s2),hp,rfl⟩,λv H3 s3 ⟨r,e1,e2,e3⟩=>⟨r,e1,s2.free e2,e3⟩⟩
def rP (P:Program)(w:World)(cs:Cs)(F:Board->Men->Known->Nat->V->Prop)(vs:List V)(H:Hp)(v:V):Prop:=∃(a:Pa) (b:Board) (ms:Men) (k:Known) (p:Nat),vs=[.ref a.po,.int p]/\PosAt P w cs H a b ms k/\F b ms k p v
abbrev uF (f:Board->Men->Known->Man->V):Board->Men->Known->Nat->V->Prop:=λb ms k p v=>∃m,manAt ms p=some m/\v=f b ms k m
abbrev mF (f:Board->Men->Known->Man->Nat->V):Board->Men->Known->Nat->V->Prop:=λb ms k p v=>∃m q,manAt ms p=some m/\goal m=some q/\v=f b ms k m q
abbrev fMvs:Board->Men->Known->Nat->V->Prop:=λ_ ms _ p v=>v=.bl (mvs ms p)
theorem scMvs:FnScope ["self","p"] ["self","p"] (defScope sMvs):=fs
theorem in_mv (m:Man):inV (.str (tag (kof m.order))) [.str "move",.str "by water"]=(goal m).isSome:=by
 unfold Vbsoaa.goal kof
 cases m.order with
 |hold=>decide
 |move a s w=>
  cases w with
  |false=>show inV (.str "move") [.str "move",.str "by water"]=true;decide
  |true=>show inV (.str "by water") [.str "move",.str "by water"]=true;decide
 |stay a=>show inV (.str "stay") [.str "move",.str "by water"]=false;decide
 |aid a c=>show inV (.str "aid") [.str "move",.str "by water"]=false;decide
 |carry a c=>show inV (.str "carry") [.str "move",.str "by water"]=false;decide
theorem ok_mvs {f:Addr}{fd:FuncData}(F:Fun K "moves" "Position.moves" sMvs f fd)(T:Tx K mg cs):FnOk P w K mg base CX0 1 f fd ["self","p"] (spv (rP P w cs fMvs)):=by
 refine def_ F scMvs (λvs H Q E h=>?_) (λcdv A outer s H vs Q E hr h=>?_)
 ·obtain⟨_,⟨_,_,_,_,_,rfl,_⟩,_⟩:=h;rfl
 ·obtain⟨_,⟨a,b,ms,k,p,rfl,A,rfl⟩,kk⟩:=h
  refine bone (ret (Ev.to (vand2 (b1:=mvs ms p) (inD (hu_of hr) (var 1) (λH1 s1=>pOrders T (A.same s1) (var 0)) λH1 s1=>(A.same s1).getO p) λhi H1 s1=>?_) ?_) kk)
  ·cases hm:manAt ms p with
   |none=>rw[hm]at hi;cases hi
   |some m=>
    refine(inT (pTag T (hu_of hr) (A.same s1) hm (var 0) λ_ _=>var 1) λ_ _=>tup (cons (glob T.gMOVE) λ_ _=>one (glob T.gBY_WATER))).to ?_
    rw[in_mv]
    unfold Vw.mvs
    rw[hm];rfl
  ·unfold Vw.mvs
   cases manAt ms p<;>rfl
theorem scMbw:FnScope ["self","p"] ["self","p"] (defScope sMbw):=fs
theorem tag_water (m:Man):(tag (kof m.order)==("by water":Str))=byWater m:=by
 unfold Vbsoaa.byWater kof
 cases m.order with
 |hold=>decide
 |move a s w=>
  cases w with
  |false=>show(("move":Str)==("by water":Str))=false;decide
  |true=>show(("by water":Str)==("by water":Str))=true;decide
 |stay a=>show(("stay":Str)==("by water":Str))=false;decide
 |aid a c=>show(("aid":Str)==("by water":Str))=false;decide
 |carry a c=>show(("carry":Str)==("by water":Str))=false;decide
abbrev fMbw:=uF λ_ _ _ m=>.bl (byWater m)
theorem ok_mbw {f:Addr}{fd:FuncData}(F:Fun K "moves_by_water" "Position.moves_by_water" sMbw f fd)(T:Tx K mg cs):FnOk P w K mg base CX0 1 f fd ["self","p"] (spv (rP P w cs fMbw)):=by
 refine def_ F scMbw (λvs H Q E h=>?_) (λcdv A outer s H vs Q E hr h=>?_)
 ·obtain⟨_,⟨_,_,_,_,_,rfl,_⟩,_⟩:=h;rfl
 ·obtain⟨_,⟨a,b,ms,k,p,rfl,A,m,hm,rfl⟩,kk⟩:=h
  exact bone (ret (eqS (pTag T (hu_of hr) A hm (var 0) λ_ _=>var 1) (λ_ _=>glob T.gBY_WATER) (tag_water m)) kk)
theorem scGoal:FnScope ["self","p"] ["self","p"] (defScope sGoal):=fs
abbrev fGoal:=mF λ_ _ _ _ q=>.int q
theorem key_goal {m:Man}{q:Nat}(h:goal m=some q):atI ((key (kof m.order)).map kV) 1=some (.int q):=by
 rcases Vw.goal_iff.mp h with e|e<;>rw[e]<;>rfl
theorem ok_goal {f:Addr}{fd:FuncData}(F:Fun K "goal" "Position.goal" sGoal f fd)(T:Tx K mg cs):FnOk P w K mg base CX0 1 f fd ["self","p"] (spv (rP P w cs fGoal)):=by
 refine def_ F scGoal (λvs H Q E h=>?_) (λcdv A outer s H vs Q E hr h=>?_)
 ·obtain⟨_,⟨_,_,_,_,_,rfl,_⟩,_⟩:=h;rfl
 ·obtain⟨_,⟨a,b,ms,k,p,rfl,A,m,q,hm,hg,rfl⟩,kk⟩:=h
  exact bone (ret (ixT (pOrder T (hu_of hr) A hm (var 0) λ_ _=>var 1) (λ_ _=>int_) (SqT.of (A.order hm)) (key_goal hg)) kk)
end
abbrev sShs:Stmt:=top 30
abbrev sPhs:Stmt:=top 31
abbrev sAidf:Stmt:=top 32
abbrev sAtk:Stmt:=top 33
section
variable {X:Cx}{Z:Sg}{H:Hp}{pos apos:Pos}{e i x y:Expr}{a:Pa}{b:Board}{ms:Men}{k:Known}{m:Man}{p:Nat}{cs:Cs}{d:Addr}{l:List Nat}
theorem inDk (hu:X.A.units+1<cLine)(hx:Ev X x Z H (.int p))(hy:∀H1,Same H H1->Ev X y Z H1 (.ref d))(hd:DAt H d l)(hm:behindInMarks .In y=false:=by with_unfolding_all rfl):Ev X (.Compare x [.In] [y] pos) Z H (.bl (l.contains p)):=by
 obtain⟨L,h1,h2⟩:=hd
 refine(inD (o:=valV (kkv L) (Sum.inl (p:Int))) hu hx hy (λH1 s1=>DGet.k (k:=Sum.inl (p:Int)) (s1 _ _ h1)) hm).to ?_
 rw[val_kkv,h2.has]
theorem notInDk (hu:X.A.units+1<cLine)(hx:Ev X x Z H (.int p))(hy:∀H1,Same H H1->Ev X y Z H1 (.ref d))(hd:DAt H d l)(hm:behindInMarks .NotIn y=false:=by with_unfolding_all rfl):Ev X (.Compare x [.NotIn] [y] pos) Z H (.bl (!l.contains p)):=by
 obtain⟨L,h1,h2⟩:=hd
 refine(notInD (o:=valV (kkv L) (Sum.inl (p:Int))) hu hx hy (λH1 s1=>DGet.k (k:=Sum.inl (p:Int)) (s1 _ _ h1)) hm).to ?_
 rw[val_kkv,h2.has]
theorem tinDk (hu:X.A.units+1<cLine)(hx:Ev X x Z H (.int p))(hy:∀H1,Same H H1->Ev X y Z H1 (.ref d))(hd:DAt H d l)(hm:behindInMarks .In y=false:=by with_unfolding_all rfl):Tv X (.Compare x [.In] [y] pos) Z H (l.contains p):=by
 obtain⟨L,h1,h2⟩:=hd
 refine(tinD (o:=valV (kkv L) (Sum.inl (p:Int))) hu hx hy (λH1 s1=>DGet.k (k:=Sum.inl (p:Int)) (s1 _ _ h1)) hm).to ?_
 rw[val_kkv,h2.has]
theorem tnotInDk (hu:X.A.units+1<cLine)(hx:Ev X x Z H (.int p))(hy:∀H1,Same H H1->Ev X y Z H1 (.ref d))(hd:DAt H d l)(hm:behindInMarks .NotIn y=false:=by with_unfolding_all rfl):Tv X (.Compare x [.NotIn] [y] pos) Z H (!l.contains p):=by
 obtain⟨L,h1,h2⟩:=hd
 refine(tnotInD (o:=valV (kkv L) (Sum.inl (p:Int))) hu hx hy (λH1 s1=>DGet.k (k:=Sum.inl (p:Int)) (s1 _ _ h1)) hm).to ?_
 rw[val_kkv,h2.has]
theorem kGoes {ka:Ka}(T:Tx X.K X.mg cs)(A:KnownAt cs.K H ka k)(h:Ev X e Z H (.ref ka.ob))(hb:attributeBase e "goes" X.env (eval e X.env)=eval e X.env:=by rfl):Ev X (.Attribute e "goes" pos) Z H (.ref ka.go):=by
 obtain⟨dx,o⟩:=A.o;exact fld h o T.clK T.kGo rfl hb
theorem kFails {ka:Ka}(T:Tx X.K X.mg cs)(A:KnownAt cs.K H ka k)(h:Ev X e Z H (.ref ka.ob))(hb:attributeBase e "fails" X.env (eval e X.env)=eval e X.env:=by rfl):Ev X (.Attribute e "fails" pos) Z H (.ref ka.fa):=by
 obtain⟨dx,o⟩:=A.o;exact fld h o T.clK T.kFa rfl hb
theorem kWay {ka:Ka}(T:Tx X.K X.mg cs)(A:KnownAt cs.K H ka k)(h:Ev X e Z H (.ref ka.ob))(hb:attributeBase e "has_way" X.env (eval e X.env)=eval e X.env:=by rfl):Ev X (.Attribute e "has_way" pos) Z H (.ref ka.wa):=by
 obtain⟨dx,o⟩:=A.o;exact fld h o T.clK T.kWa rfl hb
theorem kNone {ka:Ka}(T:Tx X.K X.mg cs)(A:KnownAt cs.K H ka k)(h:Ev X e Z H (.ref ka.ob))(hb:attributeBase e "has_none" X.env (eval e X.env)=eval e X.env:=by rfl):Ev X (.Attribute e "has_none" pos) Z H (.ref ka.no):=by
 obtain⟨dx,o⟩:=A.o;exact fld h o T.clK T.kNo rfl hb
theorem kCut {ka:Ka}(T:Tx X.K X.mg cs)(A:KnownAt cs.K H ka k)(h:Ev X e Z H (.ref ka.ob))(hb:attributeBase e "cut" X.env (eval e X.env)=eval e X.env:=by rfl):Ev X (.Attribute e "cut" pos) Z H (.ref ka.cu):=by
 obtain⟨dx,o⟩:=A.o;exact fld h o T.clK T.kCu rfl hb
theorem kUncut {ka:Ka}(T:Tx X.K X.mg cs)(A:KnownAt cs.K H ka k)(h:Ev X e Z H (.ref ka.ob))(hb:attributeBase e "uncut" X.env (eval e X.env)=eval e X.env:=by rfl):Ev X (.Attribute e "uncut" pos) Z H (.ref ka.uc):=by
 obtain⟨dx,o⟩:=A.o;exact fld h o T.clK T.kUn rfl hb
theorem callPos {j n:Nat}{f:Str}{ps:List Str}{F:Board->Men->Known->Nat->V->Prop}{v:V}{fp:Pos}(G:Fn X.prog X.w X.K X.mg X.base j f ps (spv (rP X.prog X.w cs F)))(hr:Room n X.A)(A:PosAt X.prog X.w cs H a b ms k)(h1:Ev X x Z H (.ref a.po))(h2:∀H1,Same H H1->Ev X y Z H1 (.int p))(hF:F b ms k p v)(hjn:j<=n:=by decide)(hg:Gl X f:=by rfl)(hdb:(f==("__debug__":Str))=false:=by decide)
  (he:starEach [x,y] X.env=(false,eval x X.env)::starEach [y] X.env:=by rfl) (he2:starEach [y] X.env=(false,eval y X.env)::starEach [] X.env:=by rfl) (hpl:(backTo pos (starEach [y] X.env)).any (·.1)=false:=by rfl):Ev X (.Call (.Name f fp) [x,y] [] pos) Z H v:=
 callU G hr (cons h1 (λH1 s1=>one (h2 H1 s1) he2) he) (λH1 s1=>⟨a,b,ms,k,p,rfl,A.same s1,hF⟩) hjn hg hdb he hpl
theorem methPos {j n:Nat}{f:Str}{ps:List Str}{F:Board->Men->Known->Nat->V->Prop}{v:V}{pl:Sem Bool}(G:Mt X.prog X.w X.K X.mg X.base j cs.P f ps (spv (rP X.prog X.w cs F)))(hr:Room n X.A)(A:PosAt X.prog X.w cs H a b ms k)(h1:Ev X x Z H (.ref a.po))(h2:∀H1,Same H H1->Ev X y Z H1 (.int p))(hF:F b ms k p v)(hl:(pf a).lookup f=none:=by rfl)(hjn:j<=n:=by decide)
  (he2:starEach [y] X.env=(false,eval y X.env)::starEach [] X.env:=by rfl) (hpl:(backTo pos (starEach [] X.env)).any (·.1)=false:=by rfl)
  (ht:eval (.Call (.Attribute x f apos) [y] [] pos) X.env=(do
   let ov<-eval x X.env
   standAt apos.atName
   let(f,first)<-holding [ov] (getMethod ov f pl)
   callWith pos f first (backTo pos (starEach [y] X.env)) (backToKw pos (keywordEach [] X.env))):=by rfl):Ev X (.Call (.Attribute x f apos) [y] [] pos) Z H v:=by
 obtain⟨dx,o⟩:=A.o
 exact meth G hr h1 o hl (λH1 s1=>one (h2 H1 s1) he2) (λH1 s1=>⟨a,b,ms,k,p,rfl,A.same s1,hF⟩) hjn he2 hpl ht
end
section
variable {P:Program}{w:World}{K:Fg}{mg:Str->Option Value}{base:Heap}{cs:Cs}
abbrev FnP (P:Program)(w:World)(K:Fg)(mg:Str->Option Value)(base:Heap)(cs:Cs)(j:Nat)(f:Str)(F:Board->Men->Known->Nat->V->Prop):Prop:=Fn P w K mg base j f ["position","p"] (spv (rP P w cs F))
abbrev MtP (P:Program)(w:World)(K:Fg)(mg:Str->Option Value)(base:Heap)(cs:Cs)(j:Nat)(f:Str)(F:Board->Men->Known->Nat->V->Prop):Prop:=Mt P w K mg base j cs.P f ["self","p"] (spv (rP P w cs F))
abbrev FoP (P:Program)(w:World)(K:Fg)(mg:Str->Option Value)(base:Heap)(cs:Cs)(j:Nat)(f:Addr)(fd:FuncData)(F:Board->Men->Known->Nat->V->Prop):Prop:=FnOk P w K mg base CX0 j f fd ["position","p"] (spv (rP P w cs F))
theorem defP {x:Str}{stt:Stmt}{f:Addr}{fd:FuncData}{N:List Str}{n:Nat}{F:Board->Men->Known->Nat->V->Prop}(Fu:Fun K x x stt f fd)(S:FnScope N ["position","p"] (defScope stt))
  (hb:∀(cdv:Value) (A:Around) (outer:List Env) (s:Shared) (H:Hp) (E:XK) (a:Pa) (b:Board) (ms:Men) (k:Known) (p:Nat) (v:V) (Q:VK),Room n (A.deeper (envOfC x (defScope stt) s.heap.objs.size f cdv))->PosAt P w cs H a b ms k->F b ms k p v->(∀H',Same H H'->Q v H')->
   tB (cxOf CX0 P w K mg base N x (defScope stt) f cdv A outer s H E).nox (defBody stt) {nx:=λ_ H'=>Q .non H',rt:=Q} (start N [.ref a.po,.int p]) H):FoP P w K mg base cs (n+1) f fd F:=by
 refine def_ Fu S (λvs H Q E h=>?_) (λcdv A outer s H vs Q E hr h=>?_)
 ·obtain⟨_,⟨_,_,_,_,_,rfl,_⟩,_⟩:=h;rfl
 ·obtain⟨v,⟨a,b,ms,k,p,rfl,A',hF⟩,kk⟩:=h
  exact hb cdv A outer s H E a b ms k p v Q hr A' hF kk
abbrev fShw:=uF λ_ _ k m=>.bl (Vbsoae.sureWay k m)
abbrev fMhw:=uF λ_ _ k m=>.bl (Vbsoae.mayWay k m)
theorem scShw:FnScope ["position","p"] ["position","p"] (defScope sShw):=fs
theorem ok_shw {f:Addr}{fd:FuncData}(F:Fun K "surely_has_way" "surely_has_way" sShw f fd)(T:Tx K mg cs)(M:MtP P w K mg base cs 1 "moves_by_water" fMbw):FoP P w K mg base cs 2 f fd fShw:=by
 refine defP F scShw λcdv A outer s H E a b ms k p v Q hr A' ⟨m,hm,hv⟩ kk=>?_
 try dsimp only at hv
 subst hv
 refine bone (ret ((vor2 (vnot (methPos M hr A' (var 0) (λ_ _=>var 1) ⟨m,hm,rfl⟩)) λ_ H1 s1=>inDk (hu_of hr) (var 1) (λH2 s2=>kWay T (A'.same (s1.trans s2)).k (pKnown T (A'.same (s1.trans s2)) (var 0))) (A'.same s1).k.wa).to ?_) kk)
 unfold Vbsoae.sureWay
 rw[Vw.prov_of hm]
theorem scMhw:FnScope ["position","p"] ["position","p"] (defScope sMhw):=fs
theorem ok_mhw {f:Addr}{fd:FuncData}(F:Fun K "may_have_way" "may_have_way" sMhw f fd)(T:Tx K mg cs)(M:MtP P w K mg base cs 1 "moves_by_water" fMbw):FoP P w K mg base cs 2 f fd fMhw:=by
 refine defP F scMhw λcdv A outer s H E a b ms k p v Q hr A' ⟨m,hm,hv⟩ kk=>?_
 try dsimp only at hv
 subst hv
 refine bone (ret ((vor2 (vnot (methPos M hr A' (var 0) (λ_ _=>var 1) ⟨m,hm,rfl⟩)) λ_ H1 s1=>notInDk (hu_of hr) (var 1) (λH2 s2=>kNone T (A'.same (s1.trans s2)).k (pKnown T (A'.same (s1.trans s2)) (var 0))) (A'.same s1).k.no).to ?_) kk)
 unfold Vbsoae.mayWay
 rw[Vw.prov_of hm]
abbrev fSl:Board->Men->Known->Nat->V->Prop:=λ_ ms k p v=>v=.bl (Vw.sl ms k p)
abbrev fMl:Board->Men->Known->Nat->V->Prop:=λ_ ms k p v=>v=.bl (Vw.ml ms k p)
theorem scSl:FnScope ["position","p"] ["position","p"] (defScope sSl):=fs
theorem ok_sl {f:Addr}{fd:FuncData}(F:Fun K "surely_left" "surely_left" sSl f fd)(T:Tx K mg cs)(M:MtP P w K mg base cs 1 "moves" fMvs):FoP P w K mg base cs 2 f fd fSl:=by
 refine defP F scSl λcdv A outer s H E a b ms k p v Q hr A' hv kk=>?_
 try dsimp only at hv
 subst hv
 exact bone (ret (vand2 (methPos M hr A' (var 0) (λ_ _=>var 1) rfl) λ_ H1 s1=>inDk (hu_of hr) (var 1) (λH2 s2=>kGoes T (A'.same (s1.trans s2)).k (pKnown T (A'.same (s1.trans s2)) (var 0))) (A'.same s1).k.go) kk)
theorem scMl:FnScope ["position","p"] ["position","p"] (defScope sMl):=fs
theorem ok_ml {f:Addr}{fd:FuncData}(F:Fun K "may_have_left" "may_have_left" sMl f fd)(T:Tx K mg cs)(M:MtP P w K mg base cs 1 "moves" fMvs):FoP P w K mg base cs 2 f fd fMl:=by
 refine defP F scMl λcdv A outer s H E a b ms k p v Q hr A' hv kk=>?_
 try dsimp only at hv
 subst hv
 exact bone (ret (vand2 (methPos M hr A' (var 0) (λ_ _=>var 1) rfl) λ_ H1 s1=>notInDk (hu_of hr) (var 1) (λH2 s2=>kFails T (A'.same (s1.trans s2)).k (pKnown T (A'.same (s1.trans s2)) (var 0))) (A'.same s1).k.fa) kk)
def rH2h (P:Program)(w:World)(cs:Cs)(vs:List V)(H:Hp)(v:V):Prop:=∃(a:Pa) (b:Board) (ms:Men) (k:Known) (p q:Nat) (m:Man),vs=[.ref a.po,.int p,.int q]/\PosAt P w cs H a b ms k/\manAt ms p=some m/\v=.bl (Vw.h2h ms p q)
theorem scH2h:FnScope ["position","p","q"] ["position","p","q"] (defScope sH2h):=fs
theorem ok_h2h {f:Addr}{fd:FuncData}(F:Fun K "head_to_head" "head_to_head" sH2h f fd)(T:Tx K mg cs):FnOk P w K mg base CX0 1 f fd ["position","p","q"] (spv (rH2h P w cs)):=by
 refine def_ F scH2h (λvs H Q E h=>?_) (λcdv A outer s H vs Q E hr h=>?_)
 ·obtain⟨_,⟨_,_,_,_,_,_,_,rfl,_⟩,_⟩:=h;rfl
 ·obtain⟨_,⟨a,b,ms,k,p,q,m,rfl,A,hm,rfl⟩,kk⟩:=h
  have tupOk:∀{H1:Hp} {z:V} {n:Nat},(∃c,z=.ref c/\True/\H1 c=some (.tup [.str "move",.int n]))->Dp K H1 z (dOk (.mv n)):=λ{H1 z n} ⟨c,e,_,h⟩=>by
   subst e;exact dp_key (o:=.mv n) h
  refine bone (ret (Ev.to (vand2 (a1:=decide (kof m.order=.mv q)) (b1:=(manAt ms q).any λx=>decide (kof x.order=.mv p)) (Ev.to (eqD (d:=dOk (kof m.order)) (e':=dOk (.mv q)) hr.units (pOrder T (hu_of hr) A hm (var 0) λ_ _=>var 1) (λ_ _=>tupA (cons (glob T.gMOVE) λ_ _=>one (var 2))) (λH1 s1=>dp_key ((A.same s1).order hm)) (λz H1 s1 ⟨c,ez,hc⟩=>tupOk ⟨c,ez,trivial,hc⟩) (shaped_dOk _) (shaped_dOk _)) (by rw[eqv_mv])) λ_ H1 s1=>?_) ?_) kk)
  ·have A1:=A.same s1
   have hI:∀H2,Same H1 H2->IsD H2 a.od:=λH2 s2=>.inl ⟨_,.inl (A1.same s2).od⟩
   cases hq:manAt ms q with
   |none=>
    refine Ev.to (eqD (d:=.none) (e':=dOk (.mv p)) hr.units (get1 (oo:=none) (hu_of hr) (pOrders T A1 (var 0)) (hI _ (Same.refl _)) (λ_ _=>var 2) (λH2 s2=>by have:=(A1.same s2).getO q;rw[hq]at this;exact this) hI ⟨rfl,rfl,rfl,rfl⟩) (λ_ _=>tupA (cons (glob T.gMOVE) λ_ _=>one (var 1))) (λH2 s2=>.non) (λz H2 s2 ⟨c,ez,hc⟩=>tupOk ⟨c,ez,trivial,hc⟩) rfl (shaped_dOk _)) ?_
    rw[eqv_non];rfl
   |some x=>
    refine Ev.to (eqD (d:=dOk (kof x.order)) (e':=dOk (.mv p)) hr.units (get1 (oo:=some (.ref (a.oa q))) (hu_of hr) (pOrders T A1 (var 0)) (hI _ (Same.refl _)) (λ_ _=>var 2) (λH2 s2=>by have:=(A1.same s2).getO q;rw[hq]at this;exact this) hI ⟨rfl,rfl,rfl,rfl⟩) (λ_ _=>tupA (cons (glob T.gMOVE) λ_ _=>one (var 1))) (λH2 s2=>dp_key ((A1.same s2).order hq)) (λz H2 s2 ⟨c,ez,hc⟩=>tupOk ⟨c,ez,trivial,hc⟩) (shaped_dOk _) (shaped_dOk _)) ?_
    rw[eqv_mv];rfl
  ·unfold Vw.h2h
   rw[hm];rfl
def rHs (P:Program)(w:World)(cs:Cs)(hs:Men->Known->Ok->List Nat)(vs:List V)(H:Hp)(Pp:V->Hp->Prop):Prop:=∃(a:Pa) (b:Board) (ms:Men) (k:Known) (t:Addr) (o:Ok),vs=[.ref a.po,.ref t]/\PosAt P w cs H a b ms k/\H t=some (.tup ((key o).map kV))/\Pp=NewL H (nv (hs ms k o))
theorem scShs:FnScope ["position","order","helper"] ["position","order"] (defScope sShs):=fs
theorem ok_shs {f:Addr}{fd:FuncData}(F:Fun K "sure_helpers" "sure_helpers" sShs f fd)(T:Tx K mg cs)(MH:Mt P w K mg base 1 cs.P "having" ["self","order"] (spp (rHav P w cs))):FnOk P w K mg base CX0 2 f fd ["position","order"] (spp (rHs P w cs Vw.sh)):=by
 refine def_ F scShs (λvs H Q E h=>?_) (λcdv A outer s H vs Q E hr h=>?_)
 ·obtain⟨_,⟨_,_,_,_,_,_,rfl,_⟩,_⟩:=h;rfl
 ·obtain⟨_,⟨a,b,ms,k,t,o,rfl,A,ht,rfl⟩,kk⟩:=h
  obtain⟨dx,oo⟩:=A.o
  have hl:=hav_le A o
  refine bone (retP ((lcT (xs:=nv (hav ms o)) 2 (fN λp=>k.uncut.contains p) id scShs.nd (by show BlkOk ["position","order","helper"] (defScope sShs) _ [("helper",2)];exact⟨rfl,by decide+kernel,by decide+kernel,by decide+kernel,by decide+kernel⟩) (methP MH hr (var 0) oo rfl (λ_ _=>one (var 1)) λH1 s1=>⟨_,⟨a,b,ms,k,t,o,rfl,A.same s1,s1 _ _ ht,rfl⟩,λv H2 s2 ⟨p,e1,_,e3⟩=>⟨p,e1,SqL.of e3⟩⟩) (by rw[nv_len];omega) (λs1 H0 C cl fp y hy H2 s2=>?_) (λs1 H0 C cl fp y hy _ H2 s2=>var 2)).mono λv H' s' ⟨p,e1,e2,e3⟩=>⟨p,e1,e2,?_⟩) kk)
  ·obtain⟨n,_,rfl⟩:=mem_nv hy
   rw[fN_nat]
   exact tinDk (hu_of hr) (var 2) (λH3 s3=>kUncut T (A.same (s2.trans s3)).k (pKnown T (A.same (s2.trans s3)) (var 0))) (A.same s2).k.uc
  ·rw[e3,List.map_id,filter_nv];rfl
theorem scPhs:FnScope ["position","order","helper"] ["position","order"] (defScope sPhs):=fs
theorem ok_phs {f:Addr}{fd:FuncData}(F:Fun K "possible_helpers" "possible_helpers" sPhs f fd)(T:Tx K mg cs)(MH:Mt P w K mg base 1 cs.P "having" ["self","order"] (spp (rHav P w cs))):FnOk P w K mg base CX0 2 f fd ["position","order"] (spp (rHs P w cs Vw.ph)):=by
 refine def_ F scPhs (λvs H Q E h=>?_) (λcdv A outer s H vs Q E hr h=>?_)
 ·obtain⟨_,⟨_,_,_,_,_,_,rfl,_⟩,_⟩:=h;rfl
 ·obtain⟨_,⟨a,b,ms,k,t,o,rfl,A,ht,rfl⟩,kk⟩:=h
  obtain⟨dx,oo⟩:=A.o
  have hl:=hav_le A o
  refine bone (retP ((lcT (xs:=nv (hav ms o)) 2 (fN λp=>!k.cut.contains p) id scPhs.nd (by show BlkOk ["position","order","helper"] (defScope sPhs) _ [("helper",2)];exact⟨rfl,by decide+kernel,by decide+kernel,by decide+kernel,by decide+kernel⟩) (methP MH hr (var 0) oo rfl (λ_ _=>one (var 1)) λH1 s1=>⟨_,⟨a,b,ms,k,t,o,rfl,A.same s1,s1 _ _ ht,rfl⟩,λv H2 s2 ⟨p,e1,_,e3⟩=>⟨p,e1,SqL.of e3⟩⟩) (by rw[nv_len];omega) (λs1 H0 C cl fp y hy H2 s2=>?_) (λs1 H0 C cl fp y hy _ H2 s2=>var 2)).mono λv H' s' ⟨p,e1,e2,e3⟩=>⟨p,e1,e2,?_⟩) kk)
  ·obtain⟨n,_,rfl⟩:=mem_nv hy
   rw[fN_nat]
   exact tnotInDk (hu_of hr) (var 2) (λH3 s3=>kCut T (A.same (s2.trans s3)).k (pKnown T (A.same (s2.trans s3)) (var 0))) (A.same s2).k.cu
  ·rw[e3,List.map_id,filter_nv];rfl
def rAidf (P:Program)(w:World)(cs:Cs)(vs:List V)(H:Hp)(Pp:V->Hp->Prop):Prop:=∃(a:Pa) (b:Board) (ms:Men) (k:Known) (p q:Nat) (m:Man),vs=[.ref a.po,.int p]/\PosAt P w cs H a b ms k/\manAt ms p=some m/\goal m=some q/\Pp=NewT H ((key (.ai p q)).map kV)
theorem scAidf:FnScope ["position","p"] ["position","p"] (defScope sAidf):=fs
theorem ok_aidf {f:Addr}{fd:FuncData}(F:Fun K "aid_for" "aid_for" sAidf f fd)(T:Tx K mg cs)(MG:MtP P w K mg base cs 1 "goal" fGoal):FnOk P w K mg base CX0 2 f fd ["position","p"] (spp (rAidf P w cs)):=by
 refine def_ F scAidf (λvs H Q E h=>?_) (λcdv A outer s H vs Q E hr h=>?_)
 ·obtain⟨_,⟨_,_,_,_,_,_,_,rfl,_⟩,_⟩:=h;rfl
 ·obtain⟨_,⟨a,b,ms,k,p,q,m,rfl,A,hm,hg,rfl⟩,kk⟩:=h
  exact bone (retP (tup (cons (glob T.gAID) λH1 s1=>cons (var 1) λH2 s2=>one (methPos MG hr (A.same (s1.trans s2)) (var 0) (λ_ _=>var 1) ⟨m,q,hm,hg,rfl⟩))) kk)
end
open Vbsoae (attackLow attackHigh preventLow preventHigh holdLow holdHigh wallLow wallHigh sureGoes mayGo)
section
variable {P:Program}{w:World}{K:Fg}{mg:Str->Option Value}{base:Heap}{cs:Cs}
theorem one_plus (n:Nat):V.int (1+(n:Int))=V.int ((1+n:Nat):Int):=by congr 1<;>omega
theorem mem_sh {ms:Men}{k:Known}{o:Ok}(nd:Kn.PNd ms):∀h∈Vw.sh ms k o,(manAt ms h).isSome=true:=λh hh=>by
 obtain⟨m,h1,_,rfl⟩:=Vw.mem_hav.mp (List.mem_filter.mp hh).1
 rw[Vw.manAt_of nd h1];rfl
theorem mem_ph {ms:Men}{k:Known}{o:Ok}(nd:Kn.PNd ms):∀h∈Vw.ph ms k o,(manAt ms h).isSome=true:=λh hh=>by
 obtain⟨m,h1,_,rfl⟩:=Vw.mem_hav.mp (List.mem_filter.mp hh).1
 rw[Vw.manAt_of nd h1];rfl
theorem sh_le {H:Hp}{a:Pa}{b:Board}{ms:Men}{k:Known}(A:PosAt P w cs H a b ms k)(o:Ok):(Vw.sh ms k o).length<=24:=Nat.le_trans (List.length_filter_le _ _) (hav_le A o)
theorem ph_le {H:Hp}{a:Pa}{b:Board}{ms:Men}{k:Known}(A:PosAt P w cs H a b ms k)(o:Ok):(Vw.ph ms k o).length<=24:=Nat.le_trans (List.length_filter_le _ _) (hav_le A o)
def rAtk (P:Program)(w:World)(K:Fg)(cs:Cs)(vs:List V)(H:Hp)(v:V):Prop:=∃(a:Pa) (b:Board) (ms:Men) (k:Known) (p q:Nat) (m:Man) (hw left:Bool) (l:Addr) (hs:List Nat),vs=[.ref a.po,.int p,.bl hw,.bl left,.ref l]/\PosAt P w cs H a b ms k/\manAt ms p=some m/\goal m=some q/\SqL K H l (nv hs)/\hs.length<=100/\(∀h∈hs,(manAt ms h).isSome=true)/\v=.int (Vw.atk ms p q hw left hs:Nat)
theorem scAtk:FnScope ["position","p","has_way","left","helpers","q","power","helper"] ["position","p","has_way","left","helpers"] (defScope sAtk):=fs
theorem ok_atk {f:Addr}{fd:FuncData}(F:Fun K "attack" "attack" sAtk f fd)(T:Tx K mg cs)(MG:MtP P w K mg base cs 1 "goal" fGoal)(FH:Fn P w K mg base 1 "head_to_head" ["position","p","q"] (spv (rH2h P w cs))):FnOk P w K mg base CX0 2 f fd ["position","p","has_way","left","helpers"] (spv (rAtk P w K cs)):=by
 refine def_ F scAtk (λvs H Q E h=>?_) (λcdv A outer s H vs Q E hr h=>?_)
 ·obtain⟨_,⟨_,_,_,_,_,_,_,_,_,_,_,rfl,_⟩,_⟩:=h;rfl
 ·obtain⟨_,⟨a,b,ms,k,p,q,m,hw,left,l,hs,rfl,A,hm,hg,hl,hz,hin,rfl⟩,kk⟩:=h
  have hu:=hu_of hr
  refine bcons (set 5 scAtk.nd (methPos MG hr A (var 0) (λ_ _=>var 1) ⟨m,q,hm,hg,rfl⟩) λH1 s1=>?_)
  have A1:=A.same s1
  refine bcons (ifR (tnot (tv (var 2))) (λhc H2 s2=>?_) λhc H2 s2=>?_)
  ·refine bone (ret (int_.to ?_) λH3 s3=>kk _ ((s1.trans s2).trans s3))
   unfold Vw.atk
   rw[if_pos (by simpa using hc)];rfl
  have hw1:¬hw=false:=by intro z;rw[z]at hc;cases hc
  have A2:=A1.same s2
  have s12:=s1.trans s2
  refine bcons (ifR (or2 (a1:=(manAt ms q).isNone) (b1:=left&& !Vw.h2h ms p q) ((tnotInD hu (var 5) (λH3 s3=>pUnits T (A2.same s3) (var 0)) λH3 s3=>(A2.same s3).getU q).to (by cases manAt ms q<;>rfl)) λ_ H3 s3=>and2 (tv (var 3)) λ_ H4 s4=>tnot (tv (callU FH hr (cons (var 0) λ_ _=>cons (var 1) λ_ _=>one (var 5)) λH5 s5=>⟨a,b,ms,k,p,q,m,rfl,A2.same (s3.trans (s4.trans s5)),hm,rfl⟩))) (λhc H3 s3=>?_) λhc H3 s3=>?_)
  ·refine bone (ret ((add int_ λH4 s4=>lenL T.mlen (var 4) ((s12.trans (s3.trans s4)).seq hl)).to ?_) λH4 s4=>kk _ (s12.trans (s3.trans s4)))
   unfold Vw.atk
   rw[if_neg hw1,if_pos hc,nv_len]
   exact one_plus _
  cases hq:manAt ms q with
  |none=>rw[hq]at hc;cases hc
  |some x=>
   have A3:=A2.same s3
   have s13:=s12.trans s3
   have e1:=Vw.pwr_of hm
   have e2:=Vw.pwr_of hq
   refine bcons (set 6 scAtk.nd (pPower T hu A3 hq (var 0) λ_ _=>var 5) (hx:=Or.inr rfl) λH4 s4=>?_)
   have A4:=A3.same s4
   refine bcons (ifR (teqI (pPower T hu A4 hm (var 0) λ_ _=>var 1) λ_ _=>var 6) (λhd H5 s5=>?_) λhd H5 s5=>?_)
   ·refine bone (ret (int_.to ?_) λH6 s6=>kk _ (s13.trans (s4.trans (s5.trans s6))))
    unfold Vw.atk
    rw[if_neg hw1,if_neg (by rw[hc];exact Bool.false_ne_true),if_pos (by have:=of_decide_eq_true hd;omega)];rfl
   ·have A5:=A4.same s5
    have s15:=s13.trans (s4.trans s5)
    refine bone (ret ((add int_ λH6 s6=>lenP (xs:=nv (hs.filter λh=>!decide (Vw.pwr ms h=Vw.pwr ms q))) T.mlen ((lcT (xs:=nv hs) 7 (fN λh=>!decide (Vw.pwr ms h=Vw.pwr ms q)) id scAtk.nd (by show BlkOk ["position","p","has_way","left","helpers","q","power","helper"] (defScope sAtk) _ [("helper",7)];exact⟨rfl,by decide+kernel,by decide+kernel,by decide+kernel,by decide+kernel⟩) ((var 4).sq ((s15.trans s6).seq hl)) (by rw[nv_len];omega) (λs1 H0 C cl fp y hy H7 s7=>?_) (λs1 H0 C cl fp y hy _ H7 s7=>var 7)).mono λv H' s' ⟨r,z1,z2,z3⟩=>⟨r,z1,SqL.of (by rw[z3,List.map_id,filter_nv])⟩)).to ?_) λH6 s6=>kk _ (s15.trans s6))
    ·obtain⟨n,hn,rfl⟩:=mem_nv hy
     rw[fN_nat]
     obtain⟨y,hy⟩:=Option.isSome_iff_exists.mp (hin n hn)
     refine(tneI (pPower T hu (A5.same (s6.trans s7)) hy (var 0) λ_ _=>var 7) λ_ _=>var 6).to ?_
     rw[Vw.pwr_of hy,e2]
     congr 1
     rw[Bool.eq_iff_iff,decide_eq_true_eq,decide_eq_true_eq]
     omega
    ·unfold Vw.atk
     rw[if_neg hw1,if_neg (by rw[hc];exact Bool.false_ne_true),if_neg (by have:=of_decide_eq_false hd;omega),nv_len]
     exact one_plus _
abbrev sAtl:Stmt:=top 34
abbrev sAtu:Stmt:=top 35
abbrev sKol:Stmt:=top 36
abbrev sKou:Stmt:=top 37
abbrev sHol:Stmt:=top 38
abbrev sHou:Stmt:=top 39
abbrev sWal:Stmt:=top 40
abbrev sWau:Stmt:=top 41
abbrev fAtl:=mF λ_ ms k m q=>.int (attackLow ms k m q:Nat)
abbrev fAtu:=mF λ_ ms k m q=>.int (attackHigh ms k m q:Nat)
abbrev fKol:=mF λ_ ms k m q=>.int (preventLow ms k m q:Nat)
abbrev fKou:=mF λ_ ms k m q=>.int (preventHigh ms k m q:Nat)
abbrev fHol:Board->Men->Known->Nat->V->Prop:=λ_ ms k p v=>v=.int (holdLow ms k p:Nat)
abbrev fHou:Board->Men->Known->Nat->V->Prop:=λ_ ms k p v=>v=.int (holdHigh ms k p:Nat)
abbrev fWal:=mF λ_ ms k m q=>.int (wallLow ms k m q:Nat)
abbrev fWau:=mF λ_ ms k m q=>.int (wallHigh ms k m q:Nat)
abbrev FnH (P:Program)(w:World)(K:Fg)(mg:Str->Option Value)(base:Heap)(cs:Cs)(f:Str)(hs:Men->Known->Ok->List Nat):Prop:=Fn P w K mg base 2 f ["position","order"] (spp (rHs P w cs hs))
abbrev FnA (P:Program)(w:World)(K:Fg)(mg:Str->Option Value)(base:Heap)(cs:Cs):Prop:=Fn P w K mg base 2 "aid_for" ["position","p"] (spp (rAidf P w cs))
theorem helpP {X:Cx}{Z:Sg}{H:Hp}{a:Pa}{b:Board}{ms:Men}{k:Known}{p q n:Nat}{m:Man}{hs:Men->Known->Ok->List Nat}{f:Str}{fp fp2 pos pos2:Pos}{x x2 y:Expr}(G:FnH X.prog X.w X.K X.mg X.base cs f hs)(GA:FnA X.prog X.w X.K X.mg X.base cs)(hr:Room n X.A)(A:PosAt X.prog X.w cs H a b ms k)(hm:manAt ms p=some m)(hg:goal m=some q)
  (h1:Ev X x Z H (.ref a.po)) (h2:∀H1,Same H H1->Ev X x2 Z H1 (.ref a.po)) (h3:∀H1,Same H H1->Ev X y Z H1 (.int p)) (hn:2<=n:=by decide) (gl:Gl X f:=by rfl) (gl2:Gl X "aid_for":=by rfl) (hdb:(f==("__debug__":Str))=false:=by decide)
  (he:starEach [x,.Call (.Name "aid_for" fp2) [x2,y] [] pos2] X.env=(false,eval x X.env)::starEach [.Call (.Name "aid_for" fp2) [x2,y] [] pos2] X.env:=by rfl) (he1:starEach [.Call (.Name "aid_for" fp2) [x2,y] [] pos2] X.env=(false,eval (.Call (.Name "aid_for" fp2) [x2,y] [] pos2) X.env)::starEach [] X.env:=by rfl)
  (he2:starEach [x2,y] X.env=(false,eval x2 X.env)::starEach [y] X.env:=by rfl) (he3:starEach [y] X.env=(false,eval y X.env)::starEach [] X.env:=by rfl) (hpl:(backTo pos (starEach [.Call (.Name "aid_for" fp2) [x2,y] [] pos2] X.env)).any (·.1)=false:=by rfl) (hpl2:(backTo pos2 (starEach [y] X.env)).any (·.1)=false:=by rfl):
  EvP X (.Call (.Name f fp) [x,.Call (.Name "aid_for" fp2) [x2,y] [] pos2] [] pos) Z H (NewL H (nv (hs ms k (.ai p q)))):=by
 refine callAP G hr (cons' h1 (λH1 s1=>one' (callPU (P:=λv H'=>∃t,v=.ref t/\H' t=some (.tup ((key (.ai p q)).map kV))) GA hr (cons (h2 H1 s1) (λH2 s2=>one (h3 H2 (s1.trans s2)) he3) he2) (λH2 s2=>⟨_,⟨a,b,ms,k,p,q,m,rfl,A.same (s1.trans s2),hm,hg,rfl⟩,λv H3 s3 ⟨t,e1,_,e3⟩=>⟨t,e1,e3⟩⟩) hn gl2 (by decide) he2 hpl2) he1) he) ?_ hn gl hdb he hpl
 rintro vs H1 s1 ⟨ws,rfl,v,rfl,t,rfl,ht⟩
 exact⟨_,⟨a,b,ms,k,t,_,rfl,A.same s1,ht,rfl⟩,λv H2 s2 ⟨r,e1,e2,e3⟩=>⟨r,e1,s1.free e2,e3⟩⟩
theorem scAtl:FnScope ["position","p","left"] ["position","p"] (defScope sAtl):=fs
theorem ok_atl {f:Addr}{fd:FuncData}(F:Fun K "attack_lower" "attack_lower" sAtl f fd)(T:Tx K mg cs)(MG:MtP P w K mg base cs 1 "goal" fGoal)(FL:FnP P w K mg base cs 2 "surely_left" fSl)(FW:FnP P w K mg base cs 2 "surely_has_way" fShw)(FS:FnH P w K mg base cs "sure_helpers" Vw.sh)(FA:FnA P w K mg base cs)(FT:Fn P w K mg base 2 "attack" ["position","p","has_way","left","helpers"] (spv (rAtk P w K cs))):FoP P w K mg base cs 3 f fd fAtl:=by
 refine defP F scAtl λcdv A outer s H E a b ms k p v Q hr A' ⟨m,q,hm,hg,hv⟩ kk=>?_
 try dsimp only at hv
 subst hv
 refine bcons (set 2 scAtl.nd (callPos FL hr A' (var 0) (λH1 s1=>methPos MG hr (A'.same s1) (var 0) (λ_ _=>var 1) ⟨m,q,hm,hg,rfl⟩) rfl) λH1 s1=>?_)
 have A1:=A'.same s1
 refine bone (ret ((callA (v:=.int (Vw.atk ms p q (Vbsoae.sureWay k m) (Vw.sl ms k q) (Vw.sh ms k (.ai p q)):Nat)) FT hr (cons' (var 0) λH2 s2=>cons' (var 1) λH3 s3=>cons' (callPos FW hr (A1.same (s2.trans s3)) (var 0) (λ_ _=>var 1) ⟨m,hm,rfl⟩) λH4 s4=>cons' (var 2) λH5 s5=>one' (NewL.sq (K:=K) (helpP FS FA hr (A1.same ((s2.trans s3).trans (s4.trans s5))) hm hg (var 0) (λ_ _=>var 0) λ_ _=>var 1))) ?_).to ?_) λH' s'=>kk _ (s1.trans s'))
 ·rintro vs H2 s2 ⟨_,rfl,_,rfl,_,rfl,_,rfl,v,rfl,l,rfl,hl⟩
  exact⟨a,b,ms,k,p,q,m,_,_,l,_,rfl,A1.same s2,hm,hg,hl,Nat.le_trans (sh_le A1 _) (by decide),mem_sh A1.nd,rfl⟩
 ·rw[Vw.atk_low A1.nd hm hg]
theorem scAtu:FnScope ["position","p","left"] ["position","p"] (defScope sAtu):=fs
theorem ok_atu {f:Addr}{fd:FuncData}(F:Fun K "attack_upper" "attack_upper" sAtu f fd)(T:Tx K mg cs)(MG:MtP P w K mg base cs 1 "goal" fGoal)(FL:FnP P w K mg base cs 2 "may_have_left" fMl)(FW:FnP P w K mg base cs 2 "may_have_way" fMhw)(FS:FnH P w K mg base cs "possible_helpers" Vw.ph)(FA:FnA P w K mg base cs)(FT:Fn P w K mg base 2 "attack" ["position","p","has_way","left","helpers"] (spv (rAtk P w K cs))):FoP P w K mg base cs 3 f fd fAtu:=by
 refine defP F scAtu λcdv A outer s H E a b ms k p v Q hr A' ⟨m,q,hm,hg,hv⟩ kk=>?_
 try dsimp only at hv
 subst hv
 refine bcons (set 2 scAtu.nd (callPos FL hr A' (var 0) (λH1 s1=>methPos MG hr (A'.same s1) (var 0) (λ_ _=>var 1) ⟨m,q,hm,hg,rfl⟩) rfl) λH1 s1=>?_)
 have A1:=A'.same s1
 refine bone (ret ((callA (v:=.int (Vw.atk ms p q (Vbsoae.mayWay k m) (Vw.ml ms k q) (Vw.ph ms k (.ai p q)):Nat)) FT hr (cons' (var 0) λH2 s2=>cons' (var 1) λH3 s3=>cons' (callPos FW hr (A1.same (s2.trans s3)) (var 0) (λ_ _=>var 1) ⟨m,hm,rfl⟩) λH4 s4=>cons' (var 2) λH5 s5=>one' (NewL.sq (K:=K) (helpP FS FA hr (A1.same ((s2.trans s3).trans (s4.trans s5))) hm hg (var 0) (λ_ _=>var 0) λ_ _=>var 1))) ?_).to ?_) λH' s'=>kk _ (s1.trans s'))
 ·rintro vs H2 s2 ⟨_,rfl,_,rfl,_,rfl,_,rfl,v,rfl,l,rfl,hl⟩
  exact⟨a,b,ms,k,p,q,m,_,_,l,_,rfl,A1.same s2,hm,hg,hl,Nat.le_trans (ph_le A1 _) (by decide),mem_ph A1.nd,rfl⟩
 ·rw[Vw.atk_high A1.nd hm hg]
theorem scKol:FnScope ["position","p","q"] ["position","p"] (defScope sKol):=fs
theorem ok_kol {f:Addr}{fd:FuncData}(F:Fun K "keeps_out_lower" "keeps_out_lower" sKol f fd)(T:Tx K mg cs)(MG:MtP P w K mg base cs 1 "goal" fGoal)(FW:FnP P w K mg base cs 2 "surely_has_way" fShw)(FH:Fn P w K mg base 1 "head_to_head" ["position","p","q"] (spv (rH2h P w cs)))(FS:FnH P w K mg base cs "sure_helpers" Vw.sh)(FA:FnA P w K mg base cs):FoP P w K mg base cs 3 f fd fKol:=by
 refine defP F scKol λcdv A outer s H E a b ms k p v Q hr A' ⟨m,q,hm,hg,hv⟩ kk=>?_
 try dsimp only[fHol,fHou]at hv
 rw[<-Vw.kpl_eq hm hg]at hv
 try dsimp only at hv
 subst hv
 have hu:=hu_of hr
 refine bcons (set 2 scKol.nd (methPos MG hr A' (var 0) (λ_ _=>var 1) ⟨m,q,hm,hg,rfl⟩) λH1 s1=>?_)
 have A1:=A'.same s1
 refine bcons (ifR (tnot (tv (callPos FW hr A1 (var 0) (λ_ _=>var 1) ⟨m,hm,rfl⟩))) (λhc H2 s2=>?_) λhc H2 s2=>?_)
 ·refine bone (ret (int_.to ?_) λH3 s3=>kk _ (s1.trans (s2.trans s3)))
  unfold Vw.kpl
  rw[if_pos (by simpa using hc)];rfl
 have h0:¬Vbsoae.sureWay k m=false:=by intro z;rw[z]at hc;cases hc
 have A2:=A1.same s2
 refine bcons (ifR (and2 (tv (callU FH hr (cons (var 0) λ_ _=>cons (var 1) λ_ _=>one (var 2)) λH3 s3=>⟨a,b,ms,k,p,q,m,rfl,A2.same s3,hm,rfl⟩)) λ_ H3 s3=>tnotInDk hu (var 2) (λH4 s4=>kFails T (A2.same (s3.trans s4)).k (pKnown T (A2.same (s3.trans s4)) (var 0))) (A2.same s3).k.fa) (λhd H3 s3=>?_) λhd H3 s3=>?_)
 ·refine bone (ret (int_.to ?_) λH4 s4=>kk _ (s1.trans (s2.trans (s3.trans s4))))
  unfold Vw.kpl
  rw[if_neg h0,if_pos hd];rfl
 ·refine bone (ret ((add int_ λH4 s4=>lenP T.mlen (NewL.sq (helpP FS FA hr (A2.same (s3.trans s4)) hm hg (var 0) (λ_ _=>var 0) λ_ _=>var 1))).to ?_) λH4 s4=>kk _ (s1.trans (s2.trans (s3.trans s4))))
  unfold Vw.kpl
  rw[if_neg h0,if_neg (by rw[hd];exact Bool.false_ne_true),nv_len]
  exact one_plus _
theorem scKou:FnScope ["position","p","q"] ["position","p"] (defScope sKou):=fs
theorem ok_kou {f:Addr}{fd:FuncData}(F:Fun K "keeps_out_upper" "keeps_out_upper" sKou f fd)(T:Tx K mg cs)(MG:MtP P w K mg base cs 1 "goal" fGoal)(FW:FnP P w K mg base cs 2 "may_have_way" fMhw)(FH:Fn P w K mg base 1 "head_to_head" ["position","p","q"] (spv (rH2h P w cs)))(FS:FnH P w K mg base cs "possible_helpers" Vw.ph)(FA:FnA P w K mg base cs):FoP P w K mg base cs 3 f fd fKou:=by
 refine defP F scKou λcdv A outer s H E a b ms k p v Q hr A' ⟨m,q,hm,hg,hv⟩ kk=>?_
 try dsimp only[fHol,fHou]at hv
 rw[<-Vw.kph_eq hm hg]at hv
 try dsimp only at hv
 subst hv
 have hu:=hu_of hr
 refine bcons (set 2 scKou.nd (methPos MG hr A' (var 0) (λ_ _=>var 1) ⟨m,q,hm,hg,rfl⟩) λH1 s1=>?_)
 have A1:=A'.same s1
 refine bcons (ifR (tnot (tv (callPos FW hr A1 (var 0) (λ_ _=>var 1) ⟨m,hm,rfl⟩))) (λhc H2 s2=>?_) λhc H2 s2=>?_)
 ·refine bone (ret (int_.to ?_) λH3 s3=>kk _ (s1.trans (s2.trans s3)))
  unfold Vw.kph
  rw[if_pos (by simpa using hc)];rfl
 have h0:¬Vbsoae.mayWay k m=false:=by intro z;rw[z]at hc;cases hc
 have A2:=A1.same s2
 refine bcons (ifR (and2 (tv (callU FH hr (cons (var 0) λ_ _=>cons (var 1) λ_ _=>one (var 2)) λH3 s3=>⟨a,b,ms,k,p,q,m,rfl,A2.same s3,hm,rfl⟩)) λ_ H3 s3=>tinDk hu (var 2) (λH4 s4=>kGoes T (A2.same (s3.trans s4)).k (pKnown T (A2.same (s3.trans s4)) (var 0))) (A2.same s3).k.go) (λhd H3 s3=>?_) λhd H3 s3=>?_)
 ·refine bone (ret (int_.to ?_) λH4 s4=>kk _ (s1.trans (s2.trans (s3.trans s4))))
  unfold Vw.kph
  rw[if_neg h0,if_pos hd];rfl
 ·refine bone (ret ((add int_ λH4 s4=>lenP T.mlen (NewL.sq (helpP FS FA hr (A2.same (s3.trans s4)) hm hg (var 0) (λ_ _=>var 0) λ_ _=>var 1))).to ?_) λH4 s4=>kk _ (s1.trans (s2.trans (s3.trans s4))))
  unfold Vw.kph
  rw[if_neg h0,if_neg (by rw[hd];exact Bool.false_ne_true),nv_len]
  exact one_plus _
theorem stayP {X:Cx}{Z:Sg}{H:Hp}{a:Pa}{b:Board}{ms:Men}{k:Known}{p n:Nat}{hs:Men->Known->Ok->List Nat}{f:Str}{fp pos pos2:Pos}{x t y:Expr}{j}(G:FnH X.prog X.w X.K X.mg X.base cs f hs)(hr:Room n X.A)(A:PosAt X.prog X.w cs H a b ms k)
  (h1:Ev X x Z H (.ref a.po)) (h2:∀H1,Same H H1->Ev X t Z H1 (.str "stay")) (h3:∀H1,Same H H1->Ev X y Z H1 (.int p)) (hn:2<=n:=by decide) (gl:Gl X f:=by rfl) (hdb:(f==("__debug__":Str))=false:=by decide)
  (he:starEach [x,.Tuple [t,y] j pos2] X.env=(false,eval x X.env)::starEach [.Tuple [t,y] j pos2] X.env:=by rfl) (he1:starEach [.Tuple [t,y] j pos2] X.env=(false,eval (.Tuple [t,y] j pos2) X.env)::starEach [] X.env:=by rfl)
  (he2:starEach [t,y] X.env=(false,eval t X.env)::starEach [y] X.env:=by rfl) (he3:starEach [y] X.env=(false,eval y X.env)::starEach [] X.env:=by rfl) (hpl:(backTo pos (starEach [.Tuple [t,y] j pos2] X.env)).any (·.1)=false:=by rfl):
  EvP X (.Call (.Name f fp) [x,.Tuple [t,y] j pos2] [] pos) Z H (NewL H (nv (hs ms k (.st p)))):=by
 refine callAP G hr (cons' h1 (λH1 s1=>one' (tupA (cons (h2 H1 s1) (λH2 s2=>one (h3 H2 (s1.trans s2)) he3) he2)) he1) he) ?_ hn gl hdb he hpl
 rintro vs H1 s1 ⟨ws,rfl,v,rfl,t,rfl,ht⟩
 exact⟨_,⟨a,b,ms,k,t,.st p,rfl,A.same s1,ht,rfl⟩,λv H2 s2 ⟨r,e1,e2,e3⟩=>⟨r,e1,s1.free e2,e3⟩⟩
theorem scHol:FnScope ["position","p"] ["position","p"] (defScope sHol):=fs
theorem ok_hol {f:Addr}{fd:FuncData}(F:Fun K "holds_lower" "holds_lower" sHol f fd)(T:Tx K mg cs)(MV:MtP P w K mg base cs 1 "moves" fMvs)(FS:FnH P w K mg base cs "sure_helpers" Vw.sh):FoP P w K mg base cs 3 f fd fHol:=by
 refine defP F scHol λcdv A outer s H E a b ms k p v Q hr A1 hv kk=>?_
 try dsimp only[fHol,fHou]at hv
 rw[<-Vw.hdl_eq]at hv
 try dsimp only at hv
 subst hv
 have hu:=hu_of hr
 refine bcons (ifR (bb:= !(manAt ms p).isSome) ((tnotInD hu (var 1) (λH2 s2=>pUnits T (A1.same s2) (var 0)) λH2 s2=>(A1.same s2).getU p).to (by rw[Option.isSome_map])) (λhc H2 s2=>?_) λhc H2 s2=>?_)
 ·refine bone (ret (int_.to ?_) λH3 s3=>kk _ (s2.trans s3))
  unfold Vw.hdl
  rw[if_pos (by simpa using hc)];rfl
 have h0:¬(manAt ms p).isSome=false:=by intro z;rw[z]at hc;cases hc
 have A2:=A1.same s2
 refine bcons (ifR (tv (methPos MV hr A2 (var 0) (λ_ _=>var 1) rfl)) (λhd H3 s3=>?_) λhd H3 s3=>?_)
 ·refine bone (ret (ifx (tinDk hu (var 1) (λH4 s4=>kFails T (A2.same (s3.trans s4)).k (pKnown T (A2.same (s3.trans s4)) (var 0))) (A2.same s3).k.fa) (λhe H4 s4=>int_.to ?_) λhe H4 s4=>int_.to ?_) λH4 s4=>kk _ (s2.trans (s3.trans s4)))
  ·unfold Vw.hdl
   rw[if_neg h0,if_pos hd,if_pos he];rfl
  ·unfold Vw.hdl
   rw[if_neg h0,if_pos hd,if_neg (by rw[he];exact Bool.false_ne_true)];rfl
 ·refine bone (ret ((add int_ λH4 s4=>lenP T.mlen (NewL.sq (stayP FS hr (A2.same (s3.trans s4)) (var 0) (λ_ _=>glob T.gSTAY) λ_ _=>var 1))).to ?_) λH4 s4=>kk _ (s2.trans (s3.trans s4)))
  unfold Vw.hdl
  rw[if_neg h0,if_neg (by rw[hd];exact Bool.false_ne_true),nv_len]
  exact one_plus _
theorem scHou:FnScope ["position","p"] ["position","p"] (defScope sHou):=fs
theorem ok_hou {f:Addr}{fd:FuncData}(F:Fun K "holds_upper" "holds_upper" sHou f fd)(T:Tx K mg cs)(MV:MtP P w K mg base cs 1 "moves" fMvs)(FS:FnH P w K mg base cs "possible_helpers" Vw.ph):FoP P w K mg base cs 3 f fd fHou:=by
 refine defP F scHou λcdv A outer s H E a b ms k p v Q hr A1 hv kk=>?_
 try dsimp only[fHol,fHou]at hv
 rw[<-Vw.hdh_eq]at hv
 try dsimp only at hv
 subst hv
 have hu:=hu_of hr
 refine bcons (ifR (bb:= !(manAt ms p).isSome) ((tnotInD hu (var 1) (λH2 s2=>pUnits T (A1.same s2) (var 0)) λH2 s2=>(A1.same s2).getU p).to (by rw[Option.isSome_map])) (λhc H2 s2=>?_) λhc H2 s2=>?_)
 ·refine bone (ret (int_.to ?_) λH3 s3=>kk _ (s2.trans s3))
  unfold Vw.hdh
  rw[if_pos (by simpa using hc)];rfl
 have h0:¬(manAt ms p).isSome=false:=by intro z;rw[z]at hc;cases hc
 have A2:=A1.same s2
 refine bcons (ifR (tv (methPos MV hr A2 (var 0) (λ_ _=>var 1) rfl)) (λhd H3 s3=>?_) λhd H3 s3=>?_)
 ·refine bone (ret (ifx (tinDk hu (var 1) (λH4 s4=>kGoes T (A2.same (s3.trans s4)).k (pKnown T (A2.same (s3.trans s4)) (var 0))) (A2.same s3).k.go) (λhe H4 s4=>int_.to ?_) λhe H4 s4=>int_.to ?_) λH4 s4=>kk _ (s2.trans (s3.trans s4)))
  ·unfold Vw.hdh
   rw[if_neg h0,if_pos hd,if_pos he];rfl
  ·unfold Vw.hdh
   rw[if_neg h0,if_pos hd,if_neg (by rw[he];exact Bool.false_ne_true)];rfl
 ·refine bone (ret ((add int_ λH4 s4=>lenP T.mlen (NewL.sq (stayP FS hr (A2.same (s3.trans s4)) (var 0) (λ_ _=>glob T.gSTAY) λ_ _=>var 1))).to ?_) λH4 s4=>kk _ (s2.trans (s3.trans s4)))
  unfold Vw.hdh
  rw[if_neg h0,if_neg (by rw[hd];exact Bool.false_ne_true),nv_len]
  exact one_plus _
theorem scWal:FnScope ["position","p","q"] ["position","p"] (defScope sWal):=fs
theorem ok_wal {f:Addr}{fd:FuncData}(F:Fun K "wall_lower" "wall_lower" sWal f fd)(T:Tx K mg cs)(MG:MtP P w K mg base cs 1 "goal" fGoal)(FH:Fn P w K mg base 1 "head_to_head" ["position","p","q"] (spv (rH2h P w cs)))(FS:FnH P w K mg base cs "sure_helpers" Vw.sh)(FA:FnA P w K mg base cs)(FO:FnP P w K mg base cs 3 "holds_lower" fHol):FoP P w K mg base cs 4 f fd fWal:=by
 refine defP F scWal λcdv A outer s H E a b ms k p v Q hr A' ⟨m,q,hm,hg,hv⟩ kk=>?_
 try dsimp only[fHol,fHou]at hv
 rw[<-Vw.wll_eq hm hg]at hv
 try dsimp only at hv
 subst hv
 refine bcons (set 2 scWal.nd (methPos MG hr A' (var 0) (λ_ _=>var 1) ⟨m,q,hm,hg,rfl⟩) λH1 s1=>?_)
 have A1:=A'.same s1
 refine bcons (ifR (tv (callU FH hr (cons (var 0) λ_ _=>cons (var 1) λ_ _=>one (var 2)) λH2 s2=>⟨a,b,ms,k,p,q,m,rfl,A1.same s2,hm,rfl⟩)) (λhd H2 s2=>?_) λhd H2 s2=>?_)
 ·obtain⟨x,hx,hgx⟩:=Vw.h2h_goal hd
  refine bone (ret ((add int_ λH4 s4=>lenP T.mlen (NewL.sq (helpP FS FA hr (A1.same (s2.trans s4)) hx hgx (var 0) (λ_ _=>var 0) λ_ _=>var 2))).to ?_) λH4 s4=>kk _ (s1.trans (s2.trans s4)))
  unfold Vw.wll
  rw[if_pos hd,nv_len]
  exact one_plus _
 ·refine bone (ret ((callPos FO hr (A1.same s2) (var 0) (λ_ _=>var 2) rfl).to ?_) λH4 s4=>kk _ (s1.trans (s2.trans s4)))
  unfold Vw.wll
  rw[if_neg (by rw[hd];exact Bool.false_ne_true)]
theorem scWau:FnScope ["position","p","q"] ["position","p"] (defScope sWau):=fs
theorem ok_wau {f:Addr}{fd:FuncData}(F:Fun K "wall_upper" "wall_upper" sWau f fd)(T:Tx K mg cs)(MG:MtP P w K mg base cs 1 "goal" fGoal)(FH:Fn P w K mg base 1 "head_to_head" ["position","p","q"] (spv (rH2h P w cs)))(FS:FnH P w K mg base cs "possible_helpers" Vw.ph)(FA:FnA P w K mg base cs)(FO:FnP P w K mg base cs 3 "holds_upper" fHou):FoP P w K mg base cs 4 f fd fWau:=by
 refine defP F scWau λcdv A outer s H E a b ms k p v Q hr A' ⟨m,q,hm,hg,hv⟩ kk=>?_
 try dsimp only[fHol,fHou]at hv
 rw[<-Vw.wlh_eq hm hg]at hv
 try dsimp only at hv
 subst hv
 refine bcons (set 2 scWau.nd (methPos MG hr A' (var 0) (λ_ _=>var 1) ⟨m,q,hm,hg,rfl⟩) λH1 s1=>?_)
 have A1:=A'.same s1
 refine bcons (ifR (tv (callU FH hr (cons (var 0) λ_ _=>cons (var 1) λ_ _=>one (var 2)) λH2 s2=>⟨a,b,ms,k,p,q,m,rfl,A1.same s2,hm,rfl⟩)) (λhd H2 s2=>?_) λhd H2 s2=>?_)
 ·obtain⟨x,hx,hgx⟩:=Vw.h2h_goal hd
  refine bone (ret ((add int_ λH4 s4=>lenP T.mlen (NewL.sq (helpP FS FA hr (A1.same (s2.trans s4)) hx hgx (var 0) (λ_ _=>var 0) λ_ _=>var 2))).to ?_) λH4 s4=>kk _ (s1.trans (s2.trans s4)))
  unfold Vw.wlh
  rw[if_pos hd,nv_len]
  exact one_plus _
 ·refine bone (ret ((callPos FO hr (A1.same s2) (var 0) (λ_ _=>var 2) rfl).to ?_) λH4 s4=>kk _ (s1.trans (s2.trans s4)))
  unfold Vw.wlh
  rw[if_neg (by rw[hd];exact Bool.false_ne_true)]
end
open Vbsoae (sureCut mayCut sureChain mayChain sureWay mayWay)
abbrev sRvs:Stmt:=top 42
abbrev sSg:Stmt:=top 43
abbrev sMg:Stmt:=top 44
abbrev sOpm:Stmt:=top 46
abbrev sAgn:Stmt:=top 47
abbrev sScs:Stmt:=top 48
abbrev sMcs:Stmt:=top 49
abbrev sSc:Stmt:=top 50
abbrev sMc:Stmt:=top 51
section
variable {P:Program}{w:World}{K:Fg}{mg:Str->Option Value}{base:Heap}{cs:Cs}
abbrev MtI (P:Program)(w:World)(K:Fg)(mg:Str->Option Value)(base:Heap)(cs:Cs):Prop:=Mt P w K mg base 2 cs.P "movers_into" ["self","q"] (spp (rMin P w cs))
theorem intoP {X:Cx}{Z:Sg}{H:Hp}{a:Pa}{b:Board}{ms:Men}{k:Known}{q n:Nat}{pos apos:Pos}{x y:Expr}{pl:Sem Bool}(G:MtI X.prog X.w X.K X.mg X.base cs)(hr:Room n X.A)(A:PosAt X.prog X.w cs H a b ms k)(h1:Ev X x Z H (.ref a.po))(h2:∀H1,Same H H1->Ev X y Z H1 (.int q))(hn:2<=n:=by decide)
  (he2:starEach [y] X.env=(false,eval y X.env)::starEach [] X.env:=by rfl) (hpl:(backTo pos (starEach [] X.env)).any (·.1)=false:=by rfl)
  (ht:eval (.Call (.Attribute x "movers_into" apos) [y] [] pos) X.env=(do
   let ov<-eval x X.env
   standAt apos.atName
   let(f,first)<-holding [ov] (getMethod ov "movers_into" pl)
   callWith pos f first (backTo pos (starEach [y] X.env)) (backToKw pos (keywordEach [] X.env))):=by rfl):EvP X (.Call (.Attribute x "movers_into" apos) [y] [] pos) Z H (λv H1=>∃r,v=.ref r/\SqL X.K H1 r (nv (minto ms q))):=by
 obtain⟨dx,o⟩:=A.o
 exact methP G hr h1 o rfl (λH1 s1=>one (h2 H1 s1) he2) (λH1 s1=>⟨_,⟨a,b,ms,k,q,rfl,A.same s1,rfl⟩,λv H2 s2 ⟨r,e1,_,e3⟩=>⟨r,e1,SqL.of e3⟩⟩) hn he2 hpl ht
def rRvs (P:Program)(w:World)(cs:Cs)(vs:List V)(H:Hp)(Pp:V->Hp->Prop):Prop:=∃(a:Pa) (b:Board) (ms:Men) (k:Known) (p q:Nat) (m:Man),vs=[.ref a.po,.int p]/\PosAt P w cs H a b ms k/\manAt ms p=some m/\goal m=some q/\Pp=NewL H (nv (Vw.rvs ms p q))
theorem scRvs:FnScope ["position","p","mover"] ["position","p"] (defScope sRvs):=fs
theorem ok_rvs {f:Addr}{fd:FuncData}(F:Fun K "rivals" "rivals" sRvs f fd)(T:Tx K mg cs)(MG:MtP P w K mg base cs 1 "goal" fGoal)(MI:MtI P w K mg base cs):FnOk P w K mg base CX0 3 f fd ["position","p"] (spp (rRvs P w cs)):=by
 refine def_ F scRvs (λvs H Q E h=>?_) (λcdv A outer s H vs Q E hr h=>?_)
 ·obtain⟨_,⟨_,_,_,_,_,_,_,rfl,_⟩,_⟩:=h;rfl
 ·obtain⟨_,⟨a,b,ms,k,p,q,m,rfl,A,hm,hg,rfl⟩,kk⟩:=h
  have hl:=minto_le A q
  refine bone (retP ((lcT (xs:=nv (minto ms q)) 2 (fN λx=>!decide (x=p)) id scRvs.nd (by show BlkOk ["position","p","mover"] (defScope sRvs) _ [("mover",2)];exact⟨rfl,by decide+kernel,by decide+kernel,by decide+kernel,by decide+kernel⟩) (intoP MI hr A (var 0) λH1 s1=>methPos MG hr (A.same s1) (var 0) (λ_ _=>var 1) ⟨m,q,hm,hg,rfl⟩) (by rw[nv_len];omega) (λs1 H0 C cl fp y hy H2 s2=>?_) (λs1 H0 C cl fp y hy _ H2 s2=>var 2)).mono λv H' s' ⟨r,e1,e2,e3⟩=>⟨r,e1,e2,?_⟩) kk)
  ·obtain⟨n,_,rfl⟩:=mem_nv hy
   rw[fN_nat]
   refine(tneI (var 2) λ_ _=>var 1).to ?_
   congr 1
   rw[Bool.eq_iff_iff,decide_eq_true_eq,decide_eq_true_eq]
   omega
  ·rw[e3,List.map_id,filter_nv];rfl
abbrev fSg:=mF λ_ ms k m _=>.bl (sureGoes ms k m)
abbrev fMg:=mF λ_ ms k m _=>.bl (mayGo ms k m)
theorem rvs_le {H:Hp}{a:Pa}{b:Board}{ms:Men}{k:Known}(A:PosAt P w cs H a b ms k)(p q:Nat):(Vw.rvs ms p q).length<=48:=Nat.le_trans (List.length_filter_le _ _) (minto_le A q)
theorem scSg:FnScope ["position","p","strength","rival"] ["position","p"] (defScope sSg):=fs
theorem ok_sg {f:Addr}{fd:FuncData}(F:Fun K "surely_goes" "surely_goes" sSg f fd)(T:Tx K mg cs)(FAt:FnP P w K mg base cs 3 "attack_lower" fAtl)(FWa:FnP P w K mg base cs 4 "wall_upper" fWau)(FKo:FnP P w K mg base cs 3 "keeps_out_upper" fKou)(FR:Fn P w K mg base 3 "rivals" ["position","p"] (spp (rRvs P w cs))):FoP P w K mg base cs 5 f fd fSg:=by
 refine defP F scSg λcdv A outer s H E a b ms k p v Q hr A' ⟨m,q,hm,hg,hv⟩ kk=>?_
 try dsimp only at hv
 subst hv
 have nd:=A'.nd
 let g:Nat->Bool:=λx=>(manAt ms x).any λy=>decide (preventHigh ms k y q<attackLow ms k m q)
 have gx:∀x∈ms,goal x=some q->g x.prov=decide (preventHigh ms k x q<attackLow ms k m q):=λx hx _=>by
  show(manAt ms x.prov).any _=_
  rw[Vw.manAt_of nd hx];rfl
 refine bcons (set 2 scSg.nd (callPos FAt hr A' (var 0) (λ_ _=>var 1) ⟨m,q,hm,hg,rfl⟩) (hx:=Or.inr rfl) λH1 s1=>?_)
 have A1:=A'.same s1
 refine bcons (ifR (tle (var 2) λH2 s2=>callPos FWa hr (A1.same s2) (var 0) (λ_ _=>var 1) ⟨m,q,hm,hg,rfl⟩) (λhc H2 s2=>?_) λhc H2 s2=>?_)
 ·refine bone (ret (bl_.to ?_) λH3 s3=>kk _ (s1.trans (s2.trans s3)))
  have hc:=of_decide_eq_true hc
  rw[<-Vw.sureGoes_eq (f:=g) nd hm hg gx,decide_eq_false (by omega),Bool.false_and]
 ·have A2:=A1.same s2
  have hc:=of_decide_eq_false hc
  have hl:=rvs_le A2 p q
  refine bone (ret ((allP (bs:=(Vw.rvs ms p q).map g) T.mall ((lc0 (xs:=nv (Vw.rvs ms p q)) 3 (gN λx=>.bl (g x)) scSg.nd (by show BlkOk ["position","p","strength","rival"] (defScope sSg) _ [("rival",3)];exact⟨rfl,by decide+kernel,by decide+kernel,by decide+kernel,by decide+kernel⟩) (callPU FR hr (cons (var 0) λ_ _=>one (var 1)) λH3 s3=>⟨_,⟨a,b,ms,k,p,q,m,rfl,A2.same s3,hm,hg,rfl⟩,λv H4 s4 ⟨r,e1,_,e3⟩=>⟨r,e1,SqL.of e3⟩⟩) (by rw[nv_len];omega) λs1 H0 C cl fp y hy H3 s3=>?_).mono λv H3 s3 ⟨r,e1,_,e3⟩=>⟨r,e1,SqL.of (by rw[e3,map_nv,List.map_map];rfl)⟩)).to ?_) λH3 s3=>kk _ (s1.trans (s2.trans s3)))
  ·obtain⟨n,hn,rfl⟩:=mem_nv hy
   rw[gN_nat]
   obtain⟨⟨x,hx,hgx,rfl⟩,_⟩:=Vw.mem_rvs.mp hn
   refine(gt (var 2) λH4 s4=>callPos FKo hr (A2.same (s3.trans s4)) (var 0) (λ_ _=>var 3) ⟨x,q,Vw.manAt_of nd hx,hgx,rfl⟩).to ?_
   rw[gx x hx hgx]
   congr 1
   rw[Bool.eq_iff_iff,decide_eq_true_eq,decide_eq_true_eq]
   omega
  ·rw[<-Vw.sureGoes_eq (f:=g) nd hm hg gx,decide_eq_true (by omega),Bool.true_and,List.all_map]
   rfl
theorem scMg:FnScope ["position","p","strength","rival"] ["position","p"] (defScope sMg):=fs
theorem ok_mg {f:Addr}{fd:FuncData}(F:Fun K "may_go" "may_go" sMg f fd)(T:Tx K mg cs)(FAt:FnP P w K mg base cs 3 "attack_upper" fAtu)(FWa:FnP P w K mg base cs 4 "wall_lower" fWal)(FKo:FnP P w K mg base cs 3 "keeps_out_lower" fKol)(FR:Fn P w K mg base 3 "rivals" ["position","p"] (spp (rRvs P w cs))):FoP P w K mg base cs 5 f fd fMg:=by
 refine defP F scMg λcdv A outer s H E a b ms k p v Q hr A' ⟨m,q,hm,hg,hv⟩ kk=>?_
 try dsimp only at hv
 subst hv
 have nd:=A'.nd
 let g:Nat->Bool:=λx=>(manAt ms x).any λy=>decide (preventLow ms k y q<attackHigh ms k m q)
 have gx:∀x∈ms,goal x=some q->g x.prov=decide (preventLow ms k x q<attackHigh ms k m q):=λx hx _=>by
  show(manAt ms x.prov).any _=_
  rw[Vw.manAt_of nd hx];rfl
 refine bcons (set 2 scMg.nd (callPos FAt hr A' (var 0) (λ_ _=>var 1) ⟨m,q,hm,hg,rfl⟩) (hx:=Or.inr rfl) λH1 s1=>?_)
 have A1:=A'.same s1
 refine bcons (ifR (tle (var 2) λH2 s2=>callPos FWa hr (A1.same s2) (var 0) (λ_ _=>var 1) ⟨m,q,hm,hg,rfl⟩) (λhc H2 s2=>?_) λhc H2 s2=>?_)
 ·refine bone (ret (bl_.to ?_) λH3 s3=>kk _ (s1.trans (s2.trans s3)))
  have hc:=of_decide_eq_true hc
  rw[<-Vw.mayGo_eq (f:=g) nd hm hg gx,decide_eq_false (by omega),Bool.false_and]
 ·have A2:=A1.same s2
  have hc:=of_decide_eq_false hc
  have hl:=rvs_le A2 p q
  refine bone (ret ((allP (bs:=(Vw.rvs ms p q).map g) T.mall ((lc0 (xs:=nv (Vw.rvs ms p q)) 3 (gN λx=>.bl (g x)) scMg.nd (by show BlkOk ["position","p","strength","rival"] (defScope sMg) _ [("rival",3)];exact⟨rfl,by decide+kernel,by decide+kernel,by decide+kernel,by decide+kernel⟩) (callPU FR hr (cons (var 0) λ_ _=>one (var 1)) λH3 s3=>⟨_,⟨a,b,ms,k,p,q,m,rfl,A2.same s3,hm,hg,rfl⟩,λv H4 s4 ⟨r,e1,_,e3⟩=>⟨r,e1,SqL.of e3⟩⟩) (by rw[nv_len];omega) λs1 H0 C cl fp y hy H3 s3=>?_).mono λv H3 s3 ⟨r,e1,_,e3⟩=>⟨r,e1,SqL.of (by rw[e3,map_nv,List.map_map];rfl)⟩)).to ?_) λH3 s3=>kk _ (s1.trans (s2.trans s3)))
  ·obtain⟨n,hn,rfl⟩:=mem_nv hy
   rw[gN_nat]
   obtain⟨⟨x,hx,hgx,rfl⟩,_⟩:=Vw.mem_rvs.mp hn
   refine(gt (var 2) λH4 s4=>callPos FKo hr (A2.same (s3.trans s4)) (var 0) (λ_ _=>var 3) ⟨x,q,Vw.manAt_of nd hx,hgx,rfl⟩).to ?_
   rw[gx x hx hgx]
   congr 1
   rw[Bool.eq_iff_iff,decide_eq_true_eq,decide_eq_true_eq]
   omega
  ·rw[<-Vw.mayGo_eq (f:=g) nd hm hg gx,decide_eq_true (by omega),Bool.true_and,List.all_map]
   rfl
def rOpm (P:Program)(w:World)(cs:Cs)(vs:List V)(H:Hp)(Pp:V->Hp->Prop):Prop:=∃(a:Pa) (b:Board) (ms:Men) (k:Known) (p:Nat) (m:Man),vs=[.ref a.po,.int p]/\PosAt P w cs H a b ms k/\manAt ms p=some m/\Pp=NewL H (nv (Vw.opm ms p))
theorem scOpm:FnScope ["position","p","power","mover"] ["position","p"] (defScope sOpm):=fs
theorem ok_opm {f:Addr}{fd:FuncData}(F:Fun K "other_powers_movers_into" "other_powers_movers_into" sOpm f fd)(T:Tx K mg cs)(MI:MtI P w K mg base cs):FnOk P w K mg base CX0 3 f fd ["position","p"] (spp (rOpm P w cs)):=by
 refine def_ F scOpm (λvs H Q E h=>?_) (λcdv A outer s H vs Q E hr h=>?_)
 ·obtain⟨_,⟨_,_,_,_,_,_,rfl,_⟩,_⟩:=h;rfl
 ·obtain⟨_,⟨a,b,ms,k,p,m,rfl,A,hm,rfl⟩,kk⟩:=h
  have hu:=hu_of hr
  have hl:=minto_le A p
  refine bcons (set 2 scOpm.nd (pPower T hu A hm (var 0) λ_ _=>var 1) (hx:=Or.inr rfl) λH1 s1=>?_)
  have A1:=A.same s1
  refine bone (retP ((lcT (xs:=nv (minto ms p)) 3 (fN λx=>!decide (Vw.pwr ms x=Vw.pwr ms p)) id scOpm.nd (by show BlkOk ["position","p","power","mover"] (defScope sOpm) _ [("mover",3)];exact⟨rfl,by decide+kernel,by decide+kernel,by decide+kernel,by decide+kernel⟩) (intoP MI hr A1 (var 0) λH1 s1=>var 1) (by rw[nv_len];omega) (λs1 H0 C cl fp y hy H2 s2=>?_) (λs1 H0 C cl fp y hy _ H2 s2=>var 3)).mono λv H' s' ⟨r,e1,e2,e3⟩=>(show NewL H _ v H' from⟨r,e1,s1.free e2,?_⟩)) λv H' s' z=>kk v H' (s1.trans s') z)
  ·obtain⟨n,hn,rfl⟩:=mem_nv hy
   rw[fN_nat]
   obtain⟨x,hx,hgx,rfl⟩:=Vw.mem_minto.mp hn
   refine(tneI (pPower T hu (A1.same s2) (Vw.manAt_of A1.nd hx) (var 0) λ_ _=>var 3) λ_ _=>var 2).to ?_
   rw[Vw.pwr_of (Vw.manAt_of A1.nd hx),Vw.pwr_of hm]
   congr 1
   rw[Bool.eq_iff_iff,decide_eq_true_eq,decide_eq_true_eq]
   omega
  ·rw[e3,List.map_id,filter_nv];rfl
def rPP (P:Program)(w:World)(cs:Cs)(F:Board->Men->Known->Nat->Nat->V->Prop)(vs:List V)(H:Hp)(v:V):Prop:=∃(a:Pa) (b:Board) (ms:Men) (k:Known) (p q:Nat),vs=[.ref a.po,.int p,.int q]/\PosAt P w cs H a b ms k/\F b ms k p q v
theorem defPP {x:Str}{y z:Str}{stt:Stmt}{f:Addr}{fd:FuncData}{N:List Str}{n:Nat}{F:Board->Men->Known->Nat->Nat->V->Prop}(Fu:Fun K x x stt f fd)(S:FnScope N ["position",y,z] (defScope stt))
  (hb:∀(cdv:Value) (A:Around) (outer:List Env) (s:Shared) (H:Hp) (E:XK) (a:Pa) (b:Board) (ms:Men) (k:Known) (p q:Nat) (v:V) (Q:VK),Room n (A.deeper (envOfC x (defScope stt) s.heap.objs.size f cdv))->PosAt P w cs H a b ms k->F b ms k p q v->(∀H',Same H H'->Q v H')->
   tB (cxOf CX0 P w K mg base N x (defScope stt) f cdv A outer s H E).nox (defBody stt) {nx:=λ_ H'=>Q .non H',rt:=Q} (start N [.ref a.po,.int p,.int q]) H):FnOk P w K mg base CX0 (n+1) f fd ["position",y,z] (spv (rPP P w cs F)):=by
 refine def_ Fu S (λvs H Q E h=>?_) (λcdv A outer s H vs Q E hr h=>?_)
 ·obtain⟨_,⟨_,_,_,_,_,_,rfl,_⟩,_⟩:=h;rfl
 ·obtain⟨v,⟨a,b,ms,k,p,q,rfl,A',hF⟩,kk⟩:=h
  exact hb cdv A outer s H E a b ms k p q v Q hr A' hF kk
theorem callPP {X:Cx}{Z:Sg}{H:Hp}{a:Pa}{b:Board}{ms:Men}{k:Known}{p q j n:Nat}{f:Str}{ps:List Str}{F:Board->Men->Known->Nat->Nat->V->Prop}{v:V}{fp pos:Pos}{x y z:Expr}(G:Fn X.prog X.w X.K X.mg X.base j f ps (spv (rPP X.prog X.w cs F)))(hr:Room n X.A)(A:PosAt X.prog X.w cs H a b ms k)(h1:Ev X x Z H (.ref a.po))(h2:∀H1,Same H H1->Ev X y Z H1 (.int p))(h3:∀H1,Same H H1->Ev X z Z H1 (.int q))(hF:F b ms k p q v)(hjn:j<=n:=by decide)(hg:Gl X f:=by rfl)(hdb:(f==("__debug__":Str))=false:=by decide)
  (he:starEach [x,y,z] X.env=(false,eval x X.env)::starEach [y,z] X.env:=by rfl) (he2:starEach [y,z] X.env=(false,eval y X.env)::starEach [z] X.env:=by rfl) (he3:starEach [z] X.env=(false,eval z X.env)::starEach [] X.env:=by rfl) (hpl:(backTo pos (starEach [y,z] X.env)).any (·.1)=false:=by rfl):Ev X (.Call (.Name f fp) [x,y,z] [] pos) Z H v:=
 callU G hr (cons h1 (λH1 s1=>cons (h2 H1 s1) (λH2 s2=>one (h3 H2 (s1.trans s2)) he3) he2) he) (λH1 s1=>⟨a,b,ms,k,p,q,rfl,A.same s1,hF⟩) hjn hg hdb he hpl
theorem tag_aid (o:Ok):(tag o==("aid":Str))=(match o with|.ai _ _=>true|_=>false):=by
 cases o with
 |hold=>show(("hold":Str)==("aid":Str))=false;decide
 |mv p=>show(("move":Str)==("aid":Str))=false;decide
 |bw p=>show(("by water":Str)==("aid":Str))=false;decide
 |st p=>show(("stay":Str)==("aid":Str))=false;decide
 |ai p q=>show(("aid":Str)==("aid":Str))=true;decide
 |ca p q=>show(("carry":Str)==("aid":Str))=false;decide
abbrev fAgn:Board->Men->Known->Nat->Nat->V->Prop:=λ_ ms _ p x v=>∃m,manAt ms p=some m/\v=.bl (Vw.agn ms p x)
theorem scAgn:FnScope ["position","p","mover","order"] ["position","p","mover"] (defScope sAgn):=fs
theorem ok_agn {f:Addr}{fd:FuncData}(F:Fun K "aids_against" "aids_against" sAgn f fd)(T:Tx K mg cs):FnOk P w K mg base CX0 1 f fd ["position","p","mover"] (spv (rPP P w cs fAgn)):=by
 refine defPP F scAgn λcdv A outer s H E a b ms k p x v Q hr A' ⟨m,hm,hv⟩ kk=>?_
 try dsimp only at hv
 subst hv
 have hu:=hu_of hr
 refine bcons (set 3 scAgn.nd (pOrder T hu A' hm (var 0) λ_ _=>var 1) λH1 s1=>?_)
 have ho:=s1 _ _ (A'.order hm)
 refine bone (ret (Ev.to (vand2 (a1:=tag (kof m.order)==("aid":Str)) (b1:=Vw.agn ms p x) (eqS (ixT (var 3) (λ_ _=>int_) (SqT.of ho) (key_tag _)) (λ_ _=>glob T.gAID) rfl) λhc H2 s2=>?_) ?_) λH' s'=>kk _ (s1.trans s'))
 ·cases ho':kof m.order with
  |ai u c=>
   rw[ho']at ho
   refine(eqI (i:=(c:Int)) (j:=(x:Int)) (ixT (var 3) (λ_ _=>int_) (SqT.of (s2 _ _ ho)) rfl) λ_ _=>var 2).to ?_
   rw[Vw.agn_eq hm,Vw.against_ai ho']
   congr 1
   rw[Bool.eq_iff_iff,decide_eq_true_eq,beq_iff_eq,Option.some.injEq]
   omega
  |_=>rw[ho',tag_aid]at hc;cases hc
 ·congr 1
  cases ho':kof m.order with
  |ai u c=>
   rw[tag_aid];rfl
  |_=>
   have e:Vw.agn ms p x=false:=by
    rw[Vw.agn_eq hm,Vw.against_no (by intro u c z;rw[ho']at z;cases z)];rfl
   rw[e,Bool.and_false]
abbrev fScs:Board->Men->Known->Nat->Nat->V->Prop:=λ_ ms k p x v=>∃m y,manAt ms p=some m/\manAt ms x=some y/\v=.bl (Vw.scs ms k p y)
abbrev fMcs:Board->Men->Known->Nat->Nat->V->Prop:=λ_ ms k p x v=>∃m y,manAt ms p=some m/\manAt ms x=some y/\v=.bl (Vw.mcs ms k p y)
theorem scScs:FnScope ["position","p","mover"] ["position","p","mover"] (defScope sScs):=fs
theorem ok_scs {f:Addr}{fd:FuncData}(F:Fun K "surely_cuts" "surely_cuts" sScs f fd)(T:Tx K mg cs)(FW:FnP P w K mg base cs 2 "surely_has_way" fShw)(FG:Fn P w K mg base 1 "aids_against" ["position","p","mover"] (spv (rPP P w cs fAgn))):FnOk P w K mg base CX0 3 f fd ["position","p","mover"] (spv (rPP P w cs fScs)):=by
 refine defPP F scScs λcdv A outer s H E a b ms k p x v Q hr A1 ⟨m,y,hm,hy,hv⟩ kk=>?_
 try dsimp only at hv
 subst hv
 have hu:=hu_of hr
 refine bcons (ifR (tnot (tv (callPos FW hr A1 (var 0) (λ_ _=>var 2) ⟨y,hy,rfl⟩))) (λhc H2 s2=>?_) λhc H2 s2=>?_)
 ·refine bone (ret (bl_.to ?_) λH3 s3=>kk _ (s2.trans s3))
  unfold Vw.scs
  rw[show sureWay k y=false by simpa using hc];rfl
 ·have A2:=A1.same s2
  refine bone (ret ((vor2 (vnot (callPP FG hr A2 (var 0) (λ_ _=>var 1) (λ_ _=>var 2) ⟨m,hm,rfl⟩)) λ_ H3 s3=>inDk hu (var 2) (λH4 s4=>kGoes T (A2.same (s3.trans s4)).k (pKnown T (A2.same (s3.trans s4)) (var 0))) (A2.same s3).k.go).to ?_) λH3 s3=>kk _ (s2.trans s3))
  unfold Vw.scs
  rw[show sureWay k y=true by simpa using hc,Bool.true_and,Vw.prov_of hy]
theorem scMcs:FnScope ["position","p","mover"] ["position","p","mover"] (defScope sMcs):=fs
theorem ok_mcs {f:Addr}{fd:FuncData}(F:Fun K "may_cut" "may_cut" sMcs f fd)(T:Tx K mg cs)(FW:FnP P w K mg base cs 2 "may_have_way" fMhw)(FG:Fn P w K mg base 1 "aids_against" ["position","p","mover"] (spv (rPP P w cs fAgn))):FnOk P w K mg base CX0 3 f fd ["position","p","mover"] (spv (rPP P w cs fMcs)):=by
 refine defPP F scMcs λcdv A outer s H E a b ms k p x v Q hr A1 ⟨m,y,hm,hy,hv⟩ kk=>?_
 try dsimp only at hv
 subst hv
 have hu:=hu_of hr
 refine bcons (ifR (tnot (tv (callPos FW hr A1 (var 0) (λ_ _=>var 2) ⟨y,hy,rfl⟩))) (λhc H2 s2=>?_) λhc H2 s2=>?_)
 ·refine bone (ret (bl_.to ?_) λH3 s3=>kk _ (s2.trans s3))
  unfold Vw.mcs
  rw[show mayWay k y=false by simpa using hc];rfl
 ·have A2:=A1.same s2
  refine bone (ret ((vor2 (vnot (callPP FG hr A2 (var 0) (λ_ _=>var 1) (λ_ _=>var 2) ⟨m,hm,rfl⟩)) λ_ H3 s3=>notInDk hu (var 2) (λH4 s4=>kFails T (A2.same (s3.trans s4)).k (pKnown T (A2.same (s3.trans s4)) (var 0))) (A2.same s3).k.fa).to ?_) λH3 s3=>kk _ (s2.trans s3))
  unfold Vw.mcs
  rw[show mayWay k y=true by simpa using hc,Bool.true_and,Vw.prov_of hy]
abbrev fSc:=uF λ_ ms k m=>.bl (sureCut ms k m)
abbrev fMc:=uF λ_ ms k m=>.bl (mayCut ms k m)
theorem opm_le {H:Hp}{a:Pa}{b:Board}{ms:Men}{k:Known}(A:PosAt P w cs H a b ms k)(p:Nat):(Vw.opm ms p).length<=48:=Nat.le_trans (List.length_filter_le _ _) (minto_le A p)
theorem scSc:FnScope ["position","p","mover"] ["position","p"] (defScope sSc):=fs
theorem ok_sc {f:Addr}{fd:FuncData}(F:Fun K "surely_cut" "surely_cut" sSc f fd)(T:Tx K mg cs)(FO:Fn P w K mg base 3 "other_powers_movers_into" ["position","p"] (spp (rOpm P w cs)))(FC:Fn P w K mg base 3 "surely_cuts" ["position","p","mover"] (spv (rPP P w cs fScs))):FoP P w K mg base cs 4 f fd fSc:=by
 refine defP F scSc λcdv A outer s H E a b ms k p v Q hr A2 ⟨m,hm,hv⟩ kk=>?_
 try dsimp only at hv
 subst hv
 have nd:=A2.nd
 have hl:=opm_le A2 p
 let g:Nat->Bool:=λx=>(manAt ms x).any λy=>Vw.scs ms k p y
 have gx:∀x∈ms,goal x=some p->g x.prov=Vw.scs ms k p x:=λx hx _=>by
  show(manAt ms x.prov).any _=_
  rw[Vw.manAt_of nd hx];rfl
 refine bone (ret ((anyP (bs:=(Vw.opm ms p).map g) T.many ((lc0 (xs:=nv (Vw.opm ms p)) 2 (gN λx=>.bl (g x)) scSc.nd (by show BlkOk ["position","p","mover"] (defScope sSc) _ [("mover",2)];exact⟨rfl,by decide+kernel,by decide+kernel,by decide+kernel,by decide+kernel⟩) (callPU FO hr (cons (var 0) λ_ _=>one (var 1)) λH3 s3=>⟨_,⟨a,b,ms,k,p,m,rfl,A2.same s3,hm,rfl⟩,λv H4 s4 ⟨r,e1,_,e3⟩=>⟨r,e1,SqL.of e3⟩⟩) (by rw[nv_len];omega) λs1 H0 C cl fp y hy H3 s3=>?_).mono λv H3 s3 ⟨r,e1,_,e3⟩=>⟨r,e1,SqL.of (by rw[e3,map_nv,List.map_map];rfl)⟩)).to ?_) kk)
 ·obtain⟨n,hn,rfl⟩:=mem_nv hy
  rw[gN_nat]
  obtain⟨x,hx,hgx,rfl⟩:=Vw.mem_minto.mp (List.mem_filter.mp hn).1
  rw[gx x hx hgx]
  exact callPP FC hr (A2.same s3) (var 0) (λ_ _=>var 1) (λ_ _=>var 2) ⟨m,x,hm,Vw.manAt_of nd hx,rfl⟩
 ·rw[<-Vw.sureCut_eq nd hm gx,List.any_map];rfl
theorem scMc:FnScope ["position","p","mover"] ["position","p"] (defScope sMc):=fs
theorem ok_mc {f:Addr}{fd:FuncData}(F:Fun K "may_be_cut" "may_be_cut" sMc f fd)(T:Tx K mg cs)(FO:Fn P w K mg base 3 "other_powers_movers_into" ["position","p"] (spp (rOpm P w cs)))(FC:Fn P w K mg base 3 "may_cut" ["position","p","mover"] (spv (rPP P w cs fMcs))):FoP P w K mg base cs 4 f fd fMc:=by
 refine defP F scMc λcdv A outer s H E a b ms k p v Q hr A2 ⟨m,hm,hv⟩ kk=>?_
 try dsimp only at hv
 subst hv
 have nd:=A2.nd
 have hl:=opm_le A2 p
 let g:Nat->Bool:=λx=>(manAt ms x).any λy=>Vw.mcs ms k p y
 have gx:∀x∈ms,goal x=some p->g x.prov=Vw.mcs ms k p x:=λx hx _=>by
  show(manAt ms x.prov).any _=_
  rw[Vw.manAt_of nd hx];rfl
 refine bone (ret ((anyP (bs:=(Vw.opm ms p).map g) T.many ((lc0 (xs:=nv (Vw.opm ms p)) 2 (gN λx=>.bl (g x)) scMc.nd (by show BlkOk ["position","p","mover"] (defScope sMc) _ [("mover",2)];exact⟨rfl,by decide+kernel,by decide+kernel,by decide+kernel,by decide+kernel⟩) (callPU FO hr (cons (var 0) λ_ _=>one (var 1)) λH3 s3=>⟨_,⟨a,b,ms,k,p,m,rfl,A2.same s3,hm,rfl⟩,λv H4 s4 ⟨r,e1,_,e3⟩=>⟨r,e1,SqL.of e3⟩⟩) (by rw[nv_len];omega) λs1 H0 C cl fp y hy H3 s3=>?_).mono λv H3 s3 ⟨r,e1,_,e3⟩=>⟨r,e1,SqL.of (by rw[e3,map_nv,List.map_map];rfl)⟩)).to ?_) kk)
 ·obtain⟨n,hn,rfl⟩:=mem_nv hy
  rw[gN_nat]
  obtain⟨x,hx,hgx,rfl⟩:=Vw.mem_minto.mp (List.mem_filter.mp hn).1
  rw[gx x hx hgx]
  exact callPP FC hr (A2.same s3) (var 0) (λ_ _=>var 1) (λ_ _=>var 2) ⟨m,x,hm,Vw.manAt_of nd hx,rfl⟩
 ·rw[<-Vw.mayCut_eq nd hm gx,List.any_map];rfl
end
abbrev sSdo:Stmt:=top 55
abbrev sMdo:Stmt:=top 56
abbrev sTch:Stmt:=top 57
abbrev sJnd:Stmt:=top 58
abbrev sCha:Stmt:=top 59
abbrev sCar:Stmt:=top 60
abbrev sSch:Stmt:=top 61
abbrev sMch:Stmt:=top 62
section
variable {P:Program}{w:World}{K:Fg}{mg:Str->Option Value}{base:Heap}{cs:Cs}
abbrev fSdo:Board->Men->Known->Nat->V->Prop:=λ_ ms k p v=>v=.bl (Vw.sdo ms k p)
abbrev fMdo:Board->Men->Known->Nat->V->Prop:=λ_ ms k p v=>v=.bl (Vw.mdo ms k p)
theorem scSdo:FnScope ["position","p","mover"] ["position","p"] (defScope sSdo):=fs
theorem ok_sdo {f:Addr}{fd:FuncData}(F:Fun K "surely_driven_out" "surely_driven_out" sSdo f fd)(T:Tx K mg cs)(MI:MtI P w K mg base cs):FoP P w K mg base cs 3 f fd fSdo:=by
 refine defP F scSdo λcdv A outer s H E a b ms k p v Q hr A2 hv kk=>?_
 try dsimp only at hv
 subst hv
 have hl:=minto_le A2 p
 refine bone (ret ((anyP (bs:=(minto ms p).map λx=>k.goes.contains x) T.many ((lc0 (xs:=nv (minto ms p)) 2 (gN λx=>.bl (k.goes.contains x)) scSdo.nd (by show BlkOk ["position","p","mover"] (defScope sSdo) _ [("mover",2)];exact⟨rfl,by decide+kernel,by decide+kernel,by decide+kernel,by decide+kernel⟩) (intoP MI hr A2 (var 0) λ_ _=>var 1) (by rw[nv_len];omega) λs1 H0 C cl fp y hy H3 s3=>?_).mono λv H3 s3 ⟨r,e1,_,e3⟩=>⟨r,e1,SqL.of (by rw[e3,map_nv,List.map_map];rfl)⟩)).to ?_) kk)
 ·obtain⟨n,hn,rfl⟩:=mem_nv hy
  rw[gN_nat]
  exact inDk (hu_of hr) (var 2) (λH4 s4=>kGoes T (A2.same (s3.trans s4)).k (pKnown T (A2.same (s3.trans s4)) (var 0))) (A2.same s3).k.go
 ·unfold Vw.sdo
  rw[List.any_map];rfl
theorem scMdo:FnScope ["position","p","mover"] ["position","p"] (defScope sMdo):=fs
theorem ok_mdo {f:Addr}{fd:FuncData}(F:Fun K "may_be_driven_out" "may_be_driven_out" sMdo f fd)(T:Tx K mg cs)(MI:MtI P w K mg base cs):FoP P w K mg base cs 3 f fd fMdo:=by
 refine defP F scMdo λcdv A outer s H E a b ms k p v Q hr A2 hv kk=>?_
 try dsimp only at hv
 subst hv
 have hl:=minto_le A2 p
 refine bone (ret ((anyP (bs:=(minto ms p).map λx=>!k.stuck.contains x) T.many ((lc0 (xs:=nv (minto ms p)) 2 (gN λx=>.bl (!k.stuck.contains x)) scMdo.nd (by show BlkOk ["position","p","mover"] (defScope sMdo) _ [("mover",2)];exact⟨rfl,by decide+kernel,by decide+kernel,by decide+kernel,by decide+kernel⟩) (intoP MI hr A2 (var 0) λ_ _=>var 1) (by rw[nv_len];omega) λs1 H0 C cl fp y hy H3 s3=>?_).mono λv H3 s3 ⟨r,e1,_,e3⟩=>⟨r,e1,SqL.of (by rw[e3,map_nv,List.map_map];rfl)⟩)).to ?_) kk)
 ·obtain⟨n,hn,rfl⟩:=mem_nv hy
  rw[gN_nat]
  exact notInDk (hu_of hr) (var 2) (λH4 s4=>kFails T (A2.same (s3.trans s4)).k (pKnown T (A2.same (s3.trans s4)) (var 0))) (A2.same s3).k.fa
 ·unfold Vw.mdo
  rw[List.any_map];rfl
abbrev FnPl (P:Program)(w:World)(K:Fg)(mg:Str->Option Value)(base:Heap)(cs:Cs):Prop:=Fn P w K mg base 1 "place_of" ["unit"] (spp (rPlace cs.U))
theorem placeP {X:Cx}{Z:Sg}{H:Hp}{a:Pa}{b:Board}{ms:Men}{k:Known}{p n:Nat}{m:Man}{pos pos2 apos fp:Pos}{x y:Expr}(T:Tx X.K X.mg cs)(G:FnPl X.prog X.w X.K X.mg X.base cs)(hr:Room n X.A)(A:PosAt X.prog X.w cs H a b ms k)(hm:manAt ms p=some m)(h1:Ev X x Z H (.ref a.po))(h2:∀H1,Same H H1->Ev X y Z H1 (.int p))(hn:1<=n:=by decide)(gl:Gl X "place_of":=by rfl)
  (hb:attributeBase x "units" X.env (eval x X.env)=eval x X.env:=by rfl) (hp:NoSl y:=by exact λ_ _=>rfl) (he:starEach [.Subscript (.Attribute x "units" apos) y pos2] X.env=(false,eval (.Subscript (.Attribute x "units" apos) y pos2) X.env)::starEach [] X.env:=by rfl) (hpl:(backTo pos (starEach [] X.env)).any (·.1)=false:=by rfl):
  EvP X (.Call (.Name "place_of" fp) [.Subscript (.Attribute x "units" apos) y pos2] [] pos) Z H (λv H'=>∃t,v=.ref t/\PlAt H' t (Vbsoaa.place m.prov m.shore)):=by
 obtain⟨o,hU⟩:=A.unit hm
 have hs:=A.sh m (Vw.mem_of hm)
 refine callPU G hr (one (pUnit T (hu_of hr) A hm h1 h2 hb hp) he) (λH1 s1=>⟨_,⟨a.ua p,o,m,rfl,?_,rfl⟩,λv H2 s2 ⟨t,e1,_,e3⟩=>⟨t,e1,plAt_of (by omega) e3⟩⟩) hn gl (by decide) he hpl
 obtain⟨dx,e⟩:=hU
 exact⟨dx,s1 _ _ e⟩
abbrev fTch:Board->Men->Known->Nat->Nat->V->Prop:=λb ms _ p q v=>∃m,manAt ms p=some m/\v=.bl (Vw.tch b ms p q)
theorem scTch:FnScope ["position","p","q"] ["position","p","q"] (defScope sTch):=fs
theorem ok_tch {f:Addr}{fd:FuncData}(F:Fun K "touches" "touches" sTch f fd)(T:Tx K mg cs)(FP:FnPl P w K mg base cs)(MS:Mt P w K mg base 3 cs.B "joined_at_some_shore" ["self","place","q"] (spv (rJss P w cs.B))):FnOk P w K mg base CX0 4 f fd ["position","p","q"] (spv (rPP P w cs fTch)):=by
 refine defPP F scTch λcdv A outer s H E a b ms k p q v Q hr A' ⟨m,hm,hv⟩ kk=>?_
 try dsimp only at hv
 subst hv
 obtain⟨dxb,ob⟩:=A'.b.o
 refine bone (ret (methA MS hr (pBoard T A' (var 0)) ob rfl (λH1 s1=>consA (placeP T FP hr (A'.same s1) hm (var 0) λ_ _=>var 1) λ_ _=>(one (var 2)).ap) ?_) kk)
 rintro vs H1 s1 ⟨v,ws,H2,rfl,⟨t,rfl,ht⟩,s3,rfl⟩
 refine⟨a.b,b,t,_,q,rfl,A'.b.same s1,s3 _ _ ht,?_⟩
 unfold Vw.tch
 rw[hm];rfl
abbrev fJnd:Board->Men->Known->Nat->Nat->V->Prop:=λb ms _ p q v=>∃m y,manAt ms p=some m/\manAt ms q=some y/\v=.bl (Vw.jnd b ms p q)
theorem scJnd:FnScope ["position","p","other"] ["position","p","other"] (defScope sJnd):=fs
theorem ok_jnd {f:Addr}{fd:FuncData}(F:Fun K "fleets_joined" "fleets_joined" sJnd f fd)(T:Tx K mg cs)(FP:FnPl P w K mg base cs)(MS:Mt P w K mg base 2 cs.B "joined_by_sea" ["self","place","other"] (spv (rJdS P w cs.B))):FnOk P w K mg base CX0 4 f fd ["position","p","other"] (spv (rPP P w cs fJnd)):=by
 refine defPP F scJnd λcdv A outer s H E a b ms k p q v Q hr A' ⟨m,y,hm,hy,hv⟩ kk=>?_
 try dsimp only at hv
 subst hv
 obtain⟨dxb,ob⟩:=A'.b.o
 refine bone (ret (methA MS hr (pBoard T A' (var 0)) ob rfl (λH1 s1=>consA (placeP T FP hr (A'.same s1) hm (var 0) λ_ _=>var 1) λH2 s2=>one' (placeP T FP hr (A'.same (s1.trans s2)) hy (var 0) λ_ _=>var 2)) ?_) kk)
 rintro vs H1 s1 ⟨v,ws,H2,rfl,⟨t,rfl,ht⟩,s3,v2,rfl,t2,rfl,ht2⟩
 refine⟨a.b,b,t,t2,_,_,rfl,A'.b.same s1,s3 _ _ ht,ht2,?_⟩
 unfold Vw.jnd
 rw[hm,hy];rfl
def rCha (P:Program)(w:World)(K:Fg)(cs:Cs)(vs:List V)(H:Hp)(v:V):Prop:=∃(a:Pa) (b:Board) (ms:Men) (k:Known) (l:Addr) (fl:List Nat) (x q:Nat) (c:Bool),vs=[.ref a.po,.ref l,.int x,.int q]/\PosAt P w cs H a b ms k/\SqL K H l (nv fl)/\fl.length<=24/\(∀f∈fl,(manAt ms f).isSome=true)/\v=.bl c/\(c=true<->∃y,Vw.Rn fl (λf=>Vw.tch b ms f x) (λf g=>Vw.jnd b ms f g) y/\Vw.tch b ms y q=true)
theorem scCha:FnScope ["position","fleets","a","q","reached","rest","at","fleet","further","other"] ["position","fleets","a","q"] (defScope sCha):=fs
theorem ok_cha {f:Addr}{fd:FuncData}(F:Fun K "chain_among" "chain_among" sCha f fd)(T:Tx K mg cs)(FT:Fn P w K mg base 4 "touches" ["position","p","q"] (spv (rPP P w cs fTch)))(FJ:Fn P w K mg base 4 "fleets_joined" ["position","p","other"] (spv (rPP P w cs fJnd))):FnOk P w K mg base CX0 5 f fd ["position","fleets","a","q"] (spv (rCha P w K cs)):=by
 refine def_ F scCha (λvs H Q E h=>?_) (λcdv A outer s H vs Q E hr h=>?_)
 ·obtain⟨_,⟨_,_,_,_,_,_,_,_,_,rfl,_⟩,_⟩:=h;rfl
 ·obtain⟨_,⟨a,b,ms,k,l,fl,x,q,c,rfl,A',hl,hz,hin,rfl,hc⟩,kk⟩:=h
  have hman:∀n∈fl,∃m,manAt ms n=some m:=λn hn=>Option.isSome_iff_exists.mp (hin n hn)
  refine bcons (setP 4 scCha.nd (lcT (xs:=nv fl) 7 (fN λf=>Vw.tch b ms f x) id scCha.nd (by show BlkOk ["position","fleets","a","q","reached","rest","at","fleet","further","other"] (defScope sCha) _ [("fleet",7)];exact⟨rfl,by decide+kernel,by decide+kernel,by decide+kernel,by decide+kernel⟩) ((var 1).sq hl) (by rw[nv_len];omega) (λs1 H0 C cl fp y hy H2 s2=>?_) (λs1 H0 C cl fp y hy _ H2 s2=>var 7)) λv H1 s1 ⟨lr,e1,fr1,hr1⟩=>?_)
  ·obtain⟨n,hn,rfl⟩:=mem_nv hy
   obtain⟨m,hm⟩:=hman n hn
   rw[fN_nat]
   exact tv (callPP FT hr (A'.same s2) (var 0) (λ_ _=>var 7) (λ_ _=>var 2) ⟨m,hm,rfl⟩)
  subst e1
  rw[List.map_id,filter_nv]at hr1
  refine bcons (setLcT (xs:=nv fl) 5 7 (fN λf=>!(fl.filter λf=>Vw.tch b ms f x).contains f) id scCha.nd (by show BlkOk ["position","fleets","a","q","reached","rest","at","fleet","further","other"] (defScope sCha) _ [("fleet",7)];exact⟨rfl,by decide+kernel,by decide+kernel,by decide+kernel,by decide+kernel⟩) ((var 1).sq (s1.seq hl)) (by rw[nv_len];omega) (λs1 H0 C cl fp y hy H2 s2=>?_) (λs1 H0 C cl fp y hy _ H2 s2=>var 7) λls H2 s2 fr2 hr2=>?_)
  ·obtain⟨n,hn,rfl⟩:=mem_nv hy
   rw[fN_nat]
   refine(tnotInL (var 7) (λ_ _=>var 4) (SqL.of (s2 _ _ hr1)) rfl (flat_nv _)).to ?_
   rw[in_nv]
  rw[List.map_id,filter_nv]at hr2
  have s12:=s1.trans s2
  refine bcons (set 6 scCha.nd int_ λH3 s3=>?_)
  have s13:=s12.trans s3
  refine bcons (while_ (λm Z H'=>∃re rs n lr ls f7 f8,Z=[some (.ref a.po),some (.ref l),some (.int x),some (.int q),some (.ref lr),some (.ref ls),some (.int (n:Nat)),f7,f8,none]/\Same H H'/\H lr=none/\H' lr=some (.lst (nv re))/\H' ls=some (.lst (nv rs))/\lr≠ls/\Vw.Bf fl (λf=>Vw.tch b ms f x) (λy=>Vw.tch b ms y q) (λf g=>Vw.jnd b ms f g) re rs n/\m=fl.length-n) (m:=fl.length) ⟨_,_,0,lr,ls,none,none,rfl,s13,fr1,(s2.trans s3) _ _ hr1,s3 _ _ hr2,ne_of_none hr1 fr2,Vw.Bf.start,rfl⟩ ?_)
  rintro m Z H4 ⟨re,rs,n,lr,ls,f7,f8,rfl,s4,frr,hre,hrs,nls,B,rfl⟩
  have A4:=A'.same s4
  have hsm:=B.small
  refine⟨decide ((n:Int)<(nv re).length),tlt (var 6) λH5 s5=>lenL T.mlen (var 4) (SqL.of (s5 _ _ hre)),λhlt H5 s5=>?_,λhlt H5 s5=>?_⟩
  ·rw[nv_len,decide_eq_true_eq]at hlt
   have hlt':n<re.length:=by omega
   obtain⟨y,hy⟩:∃y,re[n]?=some y:=⟨_,List.getElem?_eq_getElem hlt'⟩
   have hyf:y∈fl:=B.perm.mem_iff.mp (List.mem_append_left _ (List.mem_of_getElem? hy))
   obtain⟨ym,hym⟩:=hman y hyf
   refine bcons (set 7 scCha.nd (ixL (v:=.int (y:Nat)) (var 4) (λ_ _=>var 6) (SqL.of (s5 _ _ hre)) (atI_nat (by unfold nv;rw[List.getElem?_map,hy];rfl))) (hx:=Or.inr rfl) λH6 s6=>?_)
   have s46:=s5.trans s6
   have A6:=A4.same s46
   refine bcons (ifR (tv (callPP FT hr A6 (var 0) (λ_ _=>var 7) (λ_ _=>var 3) ⟨ym,hym,rfl⟩)) (λht H7 s7=>?_) λht H7 s7=>?_)
   ·refine bone (ret (bl_.to ?_) λH8 s8=>kk _ (s4.trans (s46.trans (s7.trans s8))))
    rw[hc.mpr (B.found hy ht)]
   ·have s47:=s46.trans s7
    have A7:=A4.same s47
    refine bcons (setP 8 scCha.nd (lcT (xs:=nv rs) 9 (fN λg=>Vw.jnd b ms y g) id scCha.nd (by show BlkOk ["position","fleets","a","q","reached","rest","at","fleet","further","other"] (defScope sCha) _ [("other",9)];exact⟨rfl,by decide+kernel,by decide+kernel,by decide+kernel,by decide+kernel⟩) ((var 5).sq (SqL.of (s47 _ _ hrs))) ?_ (λs1 H0 C cl fp z hz H2 s2=>?_) (λs1 H0 C cl fp z hz _ H2 s2=>var 9)) λv H8 s8 ⟨lf,e1,frf,hrf⟩=>?_)
    ·rw[nv_len]
     have:=B.perm.length_eq
     rw[List.length_append]at this
     omega
    ·obtain⟨g,hg,rfl⟩:=mem_nv hz
     rw[fN_nat]
     obtain⟨gm,hgm⟩:=hman g (B.perm.mem_iff.mp (List.mem_append_right _ hg))
     exact tv (callPP FJ hr (A7.same s2) (var 0) (λ_ _=>var 7) (λ_ _=>var 9) ⟨ym,gm,hym,hgm,rfl⟩)
    subst e1
    rw[List.map_id,filter_nv]at hrf
    have s48:=s47.trans s8
    refine bcons (setLcT (xs:=nv rs) 5 9 (fN λg=>!(rs.filter λg=>Vw.jnd b ms y g).contains g) id scCha.nd (by show BlkOk ["position","fleets","a","q","reached","rest","at","fleet","further","other"] (defScope sCha) _ [("other",9)];exact⟨rfl,by decide+kernel,by decide+kernel,by decide+kernel,by decide+kernel⟩) ((var 5).sq (SqL.of (s48 _ _ hrs))) ?_ (λs1 H0 C cl fp z hz H2 s2=>?_) (λs1 H0 C cl fp z hz _ H2 s2=>var 9) λls' H9 s9 fr9 hr9=>?_)
    ·rw[nv_len]
     have:=B.perm.length_eq
     rw[List.length_append]at this
     omega
    ·obtain⟨g,hg,rfl⟩:=mem_nv hz
     rw[fN_nat]
     refine(tnotInL (var 9) (λ_ _=>var 8) (SqL.of (s2 _ _ hrf)) rfl (flat_nv _)).to ?_
     rw[in_nv]
    rw[List.map_id,filter_nv]at hr9
    have s49:=s48.trans s9
    have B':=B.step hy ht
    have hsm':=B'.small
    rw[List.length_append]at hsm'
    refine bcons (drop (extend (var 4) (s49 _ _ hre) (λ_ _=>var 8) (s9 _ _ hrf) (by rw[nv_len,nv_len];exact Nat.le_of_lt (small1000 (by omega))) λH10 s10=>?_))
    have kp:∀c o,c≠lr->H9 c=some o->upd H10 lr (.lst (nv re++nv (rs.filter λg=>Vw.jnd b ms y g))) c=some o:=λc o n e=>by rw[upd_ne n];exact s10 _ _ e
    refine bone (aug 6 scCha.nd rfl (int_ _ λH11 s11=>⟨rfl,_,?_,re++rs.filter (λg=>Vw.jnd b ms y g),_,n+1,lr,ls',_,_,rfl,?_,frr,?_,s11 _ _ (kp _ _ ?_ hr9),?_,B',rfl⟩))
    ·have:=B'.le
     rw[List.length_append]at this
     omega
    ·intro c o e
     exact s11 _ _ (kp c o (ne_of_none e frr) (s49 _ _ (s4 _ _ e)))
    ·rw[s11 lr _ upd_same]
     unfold nv
     rw[List.map_append]
    ·exact(ne_of_none (s48 _ _ hre) fr9).symm
    ·exact ne_of_none (s48 _ _ hre) fr9
  ·rw[nv_len,decide_eq_false_iff_not]at hlt
   refine bone (ret (bl_.to ?_) λH6 s6=>kk _ (s4.trans (s5.trans s6)))
   have:=B.fin (by omega)
   cases c with
   |false=>rfl
   |true=>exact absurd (hc.mp rfl) this
def rCar (P:Program)(w:World)(cs:Cs)(vs:List V)(H:Hp)(Pp:V->Hp->Prop):Prop:=∃(a:Pa) (b:Board) (ms:Men) (k:Known) (p q:Nat) (m:Man),vs=[.ref a.po,.int p]/\PosAt P w cs H a b ms k/\manAt ms p=some m/\goal m=some q/\Pp=NewL H (nv (hav ms (.ca p q)))
theorem scCar:FnScope ["position","p"] ["position","p"] (defScope sCar):=fs
theorem ok_car {f:Addr}{fd:FuncData}(F:Fun K "carriers" "carriers" sCar f fd)(T:Tx K mg cs)(MG:MtP P w K mg base cs 1 "goal" fGoal)(MH:Mt P w K mg base 1 cs.P "having" ["self","order"] (spp (rHav P w cs))):FnOk P w K mg base CX0 2 f fd ["position","p"] (spp (rCar P w cs)):=by
 refine def_ F scCar (λvs H Q E h=>?_) (λcdv A outer s H vs Q E hr h=>?_)
 ·obtain⟨_,⟨_,_,_,_,_,_,_,rfl,_⟩,_⟩:=h;rfl
 ·obtain⟨_,⟨a,b,ms,k,p,q,m,rfl,A,hm,hg,rfl⟩,kk⟩:=h
  obtain⟨dx,o⟩:=A.o
  refine bone (retP (methAP MH hr (var 0) o rfl (λH1 s1=>one' (tupA (cons (glob T.gCARRY) λH2 s2=>cons (var 1) λH3 s3=>one (methPos MG hr (A.same (s1.trans (s2.trans s3))) (var 0) (λ_ _=>var 1) ⟨m,q,hm,hg,rfl⟩)))) ?_) kk)
  rintro vs H1 s1 ⟨v,rfl,t,rfl,ht⟩
  exact⟨_,⟨a,b,ms,k,t,.ca p q,rfl,A.same s1,ht,rfl⟩,λv H2 s2 ⟨r,e1,e2,e3⟩=>⟨r,e1,s1.free e2,e3⟩⟩
abbrev fSch:=mF λb ms k m _=>.bl (sureChain b ms k m)
abbrev fMch:=mF λb ms k m _=>.bl (mayChain b ms k m)
theorem scSch:FnScope ["position","p","fleets","fleet"] ["position","p"] (defScope sSch):=fs
theorem hav_man {ms:Men}{o:Ok}(nd:Kn.PNd ms){f:Nat}(h:f∈hav ms o):(manAt ms f).isSome=true:=by
 obtain⟨m,h1,_,rfl⟩:=Vw.mem_hav.mp h
 rw[Vw.manAt_of nd h1];rfl
theorem ok_sch {f:Addr}{fd:FuncData}(F:Fun K "surely_a_chain" "surely_a_chain" sSch f fd)(T:Tx K mg cs)(MG:MtP P w K mg base cs 1 "goal" fGoal)(FC:Fn P w K mg base 2 "carriers" ["position","p"] (spp (rCar P w cs)))(FD:FnP P w K mg base cs 3 "may_be_driven_out" fMdo)(FH:Fn P w K mg base 5 "chain_among" ["position","fleets","a","q"] (spv (rCha P w K cs))):FoP P w K mg base cs 6 f fd fSch:=by
 refine defP F scSch λcdv A outer s H E a b ms k p v Q hr A' ⟨m,q,hm,hg,hv⟩ kk=>?_
 try dsimp only at hv
 subst hv
 have hl:=hav_le A' (.ca p q)
 refine bcons (setLcT (xs:=nv (hav ms (.ca p q))) 2 3 (fN λf=>!Vw.mdo ms k f) id scSch.nd (by show BlkOk ["position","p","fleets","fleet"] (defScope sSch) _ [("fleet",3)];exact⟨rfl,by decide+kernel,by decide+kernel,by decide+kernel,by decide+kernel⟩) (callPU FC hr (cons (var 0) λ_ _=>one (var 1)) λH1 s1=>⟨_,⟨a,b,ms,k,p,q,m,rfl,A'.same s1,hm,hg,rfl⟩,λv H2 s2 ⟨r,e1,_,e3⟩=>⟨r,e1,SqL.of e3⟩⟩) (by rw[nv_len];omega) (λs1 H0 C cl fp y hy H2 s2=>?_) (λs1 H0 C cl fp y hy _ H2 s2=>var 3) λl H1 s1 _ hr1=>?_)
 ·obtain⟨n,hn,rfl⟩:=mem_nv hy
  rw[fN_nat]
  exact tnot (tv (callPos FD hr (A'.same s2) (var 0) (λ_ _=>var 3) rfl))
 rw[List.map_id,filter_nv]at hr1
 refine bone (ret (callU FH hr (cons (var 0) λH2 s2=>cons (var 2) λH3 s3=>cons (var 1) λH4 s4=>one (methPos MG hr (A'.same (s1.trans (s2.trans (s3.trans s4)))) (var 0) (λ_ _=>var 1) ⟨m,q,hm,hg,rfl⟩)) λH2 s2=>⟨a,b,ms,k,l,_,p,q,_,rfl,A'.same (s1.trans s2),SqL.of (s2 _ _ hr1),Nat.le_trans (List.length_filter_le _ _) hl,λf hf=>hav_man A'.nd (List.mem_filter.mp hf).1,rfl,?_⟩) λH' s'=>kk _ (s1.trans s'))
 rw[Vw.sureChain_some hg (Vw.prov_of hm)]
 exact Vw.chain_rn A'.nd (Vw.car_may A'.nd).symm
theorem scMch:FnScope ["position","p","fleets","fleet"] ["position","p"] (defScope sMch):=fs
theorem ok_mch {f:Addr}{fd:FuncData}(F:Fun K "may_be_a_chain" "may_be_a_chain" sMch f fd)(T:Tx K mg cs)(MG:MtP P w K mg base cs 1 "goal" fGoal)(FC:Fn P w K mg base 2 "carriers" ["position","p"] (spp (rCar P w cs)))(FD:FnP P w K mg base cs 3 "surely_driven_out" fSdo)(FH:Fn P w K mg base 5 "chain_among" ["position","fleets","a","q"] (spv (rCha P w K cs))):FoP P w K mg base cs 6 f fd fMch:=by
 refine defP F scMch λcdv A outer s H E a b ms k p v Q hr A' ⟨m,q,hm,hg,hv⟩ kk=>?_
 try dsimp only at hv
 subst hv
 have hl:=hav_le A' (.ca p q)
 refine bcons (setLcT (xs:=nv (hav ms (.ca p q))) 2 3 (fN λf=>!Vw.sdo ms k f) id scMch.nd (by show BlkOk ["position","p","fleets","fleet"] (defScope sMch) _ [("fleet",3)];exact⟨rfl,by decide+kernel,by decide+kernel,by decide+kernel,by decide+kernel⟩) (callPU FC hr (cons (var 0) λ_ _=>one (var 1)) λH1 s1=>⟨_,⟨a,b,ms,k,p,q,m,rfl,A'.same s1,hm,hg,rfl⟩,λv H2 s2 ⟨r,e1,_,e3⟩=>⟨r,e1,SqL.of e3⟩⟩) (by rw[nv_len];omega) (λs1 H0 C cl fp y hy H2 s2=>?_) (λs1 H0 C cl fp y hy _ H2 s2=>var 3) λl H1 s1 _ hr1=>?_)
 ·obtain⟨n,hn,rfl⟩:=mem_nv hy
  rw[fN_nat]
  exact tnot (tv (callPos FD hr (A'.same s2) (var 0) (λ_ _=>var 3) rfl))
 rw[List.map_id,filter_nv]at hr1
 refine bone (ret (callU FH hr (cons (var 0) λH2 s2=>cons (var 2) λH3 s3=>cons (var 1) λH4 s4=>one (methPos MG hr (A'.same (s1.trans (s2.trans (s3.trans s4)))) (var 0) (λ_ _=>var 1) ⟨m,q,hm,hg,rfl⟩)) λH2 s2=>⟨a,b,ms,k,l,_,p,q,_,rfl,A'.same (s1.trans s2),SqL.of (s2 _ _ hr1),Nat.le_trans (List.length_filter_le _ _) hl,λf hf=>hav_man A'.nd (List.mem_filter.mp hf).1,rfl,?_⟩) λH' s'=>kk _ (s1.trans s'))
 rw[Vw.mayChain_some hg (Vw.prov_of hm)]
 exact Vw.chain_rn A'.nd (Vw.car_sure A'.nd).symm
end
open Vbsoaa (putIn)
open Vbsoae (sizes)
abbrev sKInit:Stmt:=inClass (top 53) 0
abbrev sSix:Stmt:=inClass (top 53) 1
abbrev sHow:Stmt:=inClass (top 53) 2
abbrev sLs:Stmt:=top 67
abbrev sLw:Stmt:=top 68
abbrev sLm:Stmt:=top 69
abbrev sLu:Stmt:=top 70
section
variable {P:Program}{w:World}{K:Fg}{mg:Str->Option Value}{base:Heap}{cs:Cs}
theorem putNewK {X:Cx}{Z:Sg}{H:Hp}{D:Ends}{pos pos' dpos:Pos}{o:Expr}{x C dx:Addr}{fs:List (Str×V)}{f:Str}(ho:∀H1,Same H H1->Ev X o Z H1 (.ref x))(hx:H x=some (.ins C dx fs))(c:Cls X.K C)(n:NoAttr X.K C f)(hl:fs.length<1000)
  (k:∀(p:Addr) (H':Hp),H p=none->H' x=some (.ins C dx (putF f (.ref p) fs))->H' p=some (.dK [])->Keep [x] H H'->D.nx Z H') (hs:swapsWith (.Dict [] [] dpos) (some (.Attribute o f pos')) pos.line X.env=pure false:=by rfl):tS X (.Assign [.Attribute o f pos'] (.Dict [] [] dpos) pos) D Z H:=by
 refine put newK ho hx c n hl (λv H1 H2 s1 ⟨p,e1,n1,z1⟩ s2=>?_) hs
 subst e1
 have x2:=s2 _ _ (s1 _ _ hx)
 have w2:H2 p=some (.dK []):=s2 _ _ (by rw[z1,upd_same])
 refine k p _ n1 upd_same ?_ λc o n e=>by rw[upd_ne (by simpa using n)];exact s2 _ _ (s1 _ _ e)
 rw[upd_ne (ne_of w2 x2 (λz=>nomatch z))];exact w2
def spKInit (CK:Addr):Sp:=λvs H Q _=>∃(x dx:Addr),vs=[.ref x]/\H x=some (.ins CK dx [])/\∀(H':Hp) (a:Ka),a.ob=x->KnownAt CK H' a {}->Keep [x] H H'->(∀c∈a.ds,H c=none)->Q .non H'
theorem scKInit:FnScope ["self"] ["self"] (defScope sKInit):=fs
theorem Keep.free {x:Addr}{H H':Hp}{p:Addr}{u:HO}(k:Keep [x] H H')(hx:H x=some u)(h:H' p=none)(hx':∃u',H' x=some u'):H p=none:=by
 cases q:H p with
 |none=>rfl
 |some o=>
  by_cases e:p=x
  ·obtain⟨u',e'⟩:=hx'
   rw[e,e']at h;cases h
  ·rw[k _ _ (by simpa using e) q]at h;cases h
theorem ok_KInit {f:Addr}{fd:FuncData}(F:Fun K "__init__" "Known.__init__" sKInit f fd)(T:Tx K mg cs):FnOk P w K mg base CX0 1 f fd ["self"] (spKInit cs.K):=by
 refine def_ F scKInit (λvs H Q E h=>?_) (λcdv A outer s H vs Q E hr h=>?_)
 ·obtain⟨_,_,rfl,_⟩:=h;rfl
 ·obtain⟨x,dx,rfl,hx,k⟩:=h
  refine bcons (putNewK (λ_ _=>var 0) hx T.clK T.kGo (lt1000 rfl) λp1 G1 n1 g1 d1 k1=>?_)
  refine bcons (putNewK (λ_ _=>var 0) g1 T.clK T.kFa (lt1000 rfl) λp2 G2 n2 g2 d2 k2=>?_)
  refine bcons (putNewK (λ_ _=>var 0) g2 T.clK T.kWa (lt1000 rfl) λp3 G3 n3 g3 d3 k3=>?_)
  refine bcons (putNewK (λ_ _=>var 0) g3 T.clK T.kNo (lt1000 rfl) λp4 G4 n4 g4 d4 k4=>?_)
  refine bcons (putNewK (λ_ _=>var 0) g4 T.clK T.kCu (lt1000 rfl) λp5 G5 n5 g5 d5 k5=>?_)
  refine bone (putNewK (λ_ _=>var 0) g5 T.clK T.kUn (lt1000 rfl) λp6 G6 n6 g6 d6 k6=>?_)
  have nx:∀{G:Hp} {p:Addr} {u:HO},G p=some (.dK [])->G x=some u->(u≠ .dK [])->p∉[x]:=λe e' d m=>by rw[List.mem_singleton.mp m,e']at e;exact d (Option.some.inj e)
  have a1:∀{G:Hp} {p:Addr} {dy:Addr} {fs:List (Str×V)},G p=some (.dK [])->G x=some (.ins cs.K dy fs)->p∉[x]:=λe e'=>nx e e' (λz=>nomatch z)
  have e12:=k2 _ _ (a1 d1 g1) d1
  have e13:=k3 _ _ (a1 e12 g2) e12
  have e14:=k4 _ _ (a1 e13 g3) e13
  have e15:=k5 _ _ (a1 e14 g4) e14
  have e16:=k6 _ _ (a1 e15 g5) e15
  have e23:=k3 _ _ (a1 d2 g2) d2
  have e24:=k4 _ _ (a1 e23 g3) e23
  have e25:=k5 _ _ (a1 e24 g4) e24
  have e26:=k6 _ _ (a1 e25 g5) e25
  have e34:=k4 _ _ (a1 d3 g3) d3
  have e35:=k5 _ _ (a1 e34 g4) e34
  have e36:=k6 _ _ (a1 e35 g5) e35
  have e45:=k5 _ _ (a1 d4 g4) d4
  have e46:=k6 _ _ (a1 e45 g5) e45
  have e56:=k6 _ _ (a1 d5 g5) d5
  have f2:=k1.free hx n2 ⟨_,g1⟩
  have f3:=k1.free hx (k2.free g1 n3 ⟨_,g2⟩) ⟨_,g1⟩
  have f4:=k1.free hx (k2.free g1 (k3.free g2 n4 ⟨_,g3⟩) ⟨_,g2⟩) ⟨_,g1⟩
  have f5:=k1.free hx (k2.free g1 (k3.free g2 (k4.free g3 n5 ⟨_,g4⟩) ⟨_,g3⟩) ⟨_,g2⟩) ⟨_,g1⟩
  have f6:=k1.free hx (k2.free g1 (k3.free g2 (k4.free g3 (k5.free g4 n6 ⟨_,g5⟩) ⟨_,g4⟩) ⟨_,g3⟩) ⟨_,g2⟩) ⟨_,g1⟩
  refine k G6 ⟨x,p1,p2,p3,p4,p5,p6⟩ rfl ⟨⟨dx,g6⟩,⟨[],e16,Kl.nil⟩,⟨[],e26,Kl.nil⟩,⟨[],e36,Kl.nil⟩,⟨[],e46,Kl.nil⟩,⟨[],e56,Kl.nil⟩,⟨[],d6,Kl.nil⟩,?_⟩ (k1.trans (k2.trans (k3.trans (k4.trans (k5.trans k6))))) ?_
  ·have q12:=ne_of_none d1 n2
   have q13:=ne_of_none e12 n3
   have q14:=ne_of_none e13 n4
   have q15:=ne_of_none e14 n5
   have q16:=ne_of_none e15 n6
   have q23:=ne_of_none d2 n3
   have q24:=ne_of_none e23 n4
   have q25:=ne_of_none e24 n5
   have q26:=ne_of_none e25 n6
   have q34:=ne_of_none d3 n4
   have q35:=ne_of_none e34 n5
   have q36:=ne_of_none e35 n6
   have q45:=ne_of_none d4 n5
   have q46:=ne_of_none e45 n6
   have q56:=ne_of_none d5 n6
   show [p1,p2,p3,p4,p5,p6].Nodup
   simp[q12,q13,q14,q15,q16,q23,q24,q25,q26,q34,q35,q36,q45,q46,q56]
  ·intro c hc
   have hc:c∈[p1,p2,p3,p4,p5,p6]:=hc
   simp only[List.mem_cons,List.not_mem_nil,or_false]at hc
   rcases hc with rfl|rfl|rfl|rfl|rfl|rfl
   ·exact n1
   ·exact f2
   ·exact f3
   ·exact f4
   ·exact f5
   ·exact f6
def sixV (a:Ka):List V:=[.ref a.go,.ref a.fa,.ref a.wa,.ref a.no,.ref a.cu,.ref a.uc]
def rSix (CK:Addr)(vs:List V)(H:Hp)(Pp:V->Hp->Prop):Prop:=∃(a:Ka) (k:Known),vs=[.ref a.ob]/\KnownAt CK H a k/\Pp=NewL H (sixV a)
theorem scSix:FnScope ["self"] ["self"] (defScope sSix):=fs
theorem ok_six {f:Addr}{fd:FuncData}(F:Fun K "six_kinds" "Known.six_kinds" sSix f fd)(T:Tx K mg cs):FnOk P w K mg base CX0 1 f fd ["self"] (spp (rSix cs.K)):=by
 refine def_ F scSix (λvs H Q E h=>?_) (λcdv A outer s H vs Q E hr h=>?_)
 ·obtain⟨_,⟨_,_,rfl,_⟩,_⟩:=h;rfl
 ·obtain⟨_,⟨a,k,rfl,A,rfl⟩,kk⟩:=h
  exact bone (retP (lst (cons (kGoes T A (var 0)) λH1 s1=>cons (kFails T (A.same s1) (var 0)) λH2 s2=>cons (kWay T (A.same (s1.trans s2)) (var 0)) λH3 s3=>cons (kNone T (A.same (s1.trans (s2.trans s3))) (var 0)) λH4 s4=>cons (kCut T (A.same (s1.trans (s2.trans (s3.trans s4)))) (var 0)) λH5 s5=>one (kUncut T (A.same (s1.trans (s2.trans (s3.trans (s4.trans s5))))) (var 0)))) kk)
def rHow (CK:Addr)(vs:List V)(H:Hp)(v:V):Prop:=∃(a:Ka) (k:Known),vs=[.ref a.ob]/\KnownAt CK H a k/\v=.int (sizes k:Nat)
theorem scHow:FnScope ["self","kind"] ["self"] (defScope sHow):=fs
def lenOf (H:Hp):V->Nat
 |.ref d=>match H d with
  |some (.dK kvs)=>kvs.length
  |_=>0
 |_=>0
theorem DAt.len {H:Hp}{d:Addr}{l:List Nat}(h:DAt H d l):∃kvs,H d=some (.dK kvs)/\kvs.length=l.length/\lenOf H (.ref d)=l.length:=by
 obtain⟨L,h1,h2⟩:=h
 have e:(kkv L).length=l.length:=by unfold kkv;rw[List.length_map,h2.len]
 refine⟨_,h1,e,?_⟩
 unfold lenOf
 simp only[h1];exact e
abbrev MtS (P:Program)(w:World)(K:Fg)(mg:Str->Option Value)(base:Heap)(cs:Cs):Prop:=Mt P w K mg base 1 cs.K "six_kinds" ["self"] (spp (rSix cs.K))
abbrev MtW (P:Program)(w:World)(K:Fg)(mg:Str->Option Value)(base:Heap)(cs:Cs):Prop:=Mt P w K mg base 2 cs.K "how_many" ["self"] (spv (rHow cs.K))
theorem sixP {X:Cx}{Z:Sg}{H:Hp}{a:Ka}{k:Known}{n:Nat}{pos apos:Pos}{x:Expr}{pl:Sem Bool}(G:MtS X.prog X.w X.K X.mg X.base cs)(hr:Room n X.A)(A:KnownAt cs.K H a k)(h1:Ev X x Z H (.ref a.ob))(hn:1<=n:=by decide)
  (ht:eval (.Call (.Attribute x "six_kinds" apos) [] [] pos) X.env=(do
   let ov<-eval x X.env
   standAt apos.atName
   let(f,first)<-holding [ov] (getMethod ov "six_kinds" pl)
   callWith pos f first (backTo pos (starEach [] X.env)) (backToKw pos (keywordEach [] X.env))):=by rfl):EvP X (.Call (.Attribute x "six_kinds" apos) [] [] pos) Z H (NewL H (sixV a)):=λQ q=>by
 obtain⟨dx,o⟩:=A.o
 exact meth0E G (hr.mono hn) h1 o rfl (λH1 s1=>⟨_,⟨a,k,rfl,A.same s1,rfl⟩,λv H2 s2 ⟨r,e1,e2,e3⟩=>q v H2 (s1.trans s2) ⟨r,e1,s1.free e2,e3⟩⟩) ht
theorem mem_six {a:Ka}{k:Known}{H:Hp}(A:KnownAt cs.K H a k){v:V}(h:v∈sixV a):∃d l,v=.ref d/\DAt H d l/\Kn.Ris l:=by
 unfold sixV at h
 simp only[List.mem_cons,List.not_mem_nil,or_false]at h
 rcases h with rfl|rfl|rfl|rfl|rfl|rfl
 ·exact⟨_,_,rfl,A.go,A.go.choose_spec.2.ris⟩
 ·exact⟨_,_,rfl,A.fa,A.fa.choose_spec.2.ris⟩
 ·exact⟨_,_,rfl,A.wa,A.wa.choose_spec.2.ris⟩
 ·exact⟨_,_,rfl,A.no,A.no.choose_spec.2.ris⟩
 ·exact⟨_,_,rfl,A.cu,A.cu.choose_spec.2.ris⟩
 ·exact⟨_,_,rfl,A.uc,A.uc.choose_spec.2.ris⟩
theorem ok_how {f:Addr}{fd:FuncData}(F:Fun K "how_many" "Known.how_many" sHow f fd)(T:Tx K mg cs)(MS:MtS P w K mg base cs):FnOk P w K mg base CX0 2 f fd ["self"] (spv (rHow cs.K)):=by
 refine def_ F scHow (λvs H Q E h=>?_) (λcdv A outer s H vs Q E hr h=>?_)
 ·obtain⟨_,⟨_,_,rfl,_⟩,_⟩:=h;rfl
 ·obtain⟨_,⟨a,k,rfl,A,rfl⟩,kk⟩:=h
  refine bone (ret ((sumP (ns:=(sixV a).map λv=>(lenOf H v:Int)) T.msum ((lc0 (xs:=sixV a) 1 (λv=>.int (lenOf H v:Nat)) scHow.nd (by show BlkOk ["self","kind"] (defScope sHow) _ [("kind",1)];exact⟨rfl,by decide+kernel,by decide+kernel,by decide+kernel,by decide+kernel⟩) ((sixP MS hr A (var 0)).mono λv H1 s1 ⟨r,e1,_,e3⟩=>⟨r,e1,SqL.of e3⟩) (Nat.le_of_ble_eq_true rfl) λs1 H0 C cl fp y hy H3 s3=>?_).mono λv H3 s3 ⟨r,e1,_,e3⟩=>⟨r,e1,SqL.of (by rw[e3,List.map_map];rfl)⟩)).to ?_) kk)
  ·obtain⟨d,l,rfl,hd,_⟩:=mem_six A hy
   obtain⟨kvs,h1,h2,h3⟩:=hd.len
   rw[h3,<-h2]
   exact lenD T.mlen (var 1) (s3 _ _ h1)
  ·obtain⟨_,_,_,e1⟩:=A.go.len
   obtain⟨_,_,_,e2⟩:=A.fa.len
   obtain⟨_,_,_,e3⟩:=A.wa.len
   obtain⟨_,_,_,e4⟩:=A.no.len
   obtain⟨_,_,_,e5⟩:=A.cu.len
   obtain⟨_,_,_,e6⟩:=A.uc.len
   unfold sixV
   simp only[List.map_cons,List.map_nil,List.sum_cons,List.sum_nil,e1,e2,e3,e4,e5,e6]
   unfold Vbsoae.sizes
   congr 1
   omega
section
variable {H H':Hp}{a:Pa}{b:Board}{ms:Men}{k k':Known}
theorem PosAt.upk (A:PosAt P w cs H a b ms k)(hK:KnownAt cs.K H' a.k k')(kp:Keep a.k.ds H H'):PosAt P w cs H' a b ms k':=by
 have isD:∀d∈a.k.ds,∃kvs,H d=some (.dK kvs):=λd hd=>by
  have hd:d∈[a.k.go,a.k.fa,a.k.wa,a.k.no,a.k.cu,a.k.uc]:=hd
  simp only[List.mem_cons,List.not_mem_nil,or_false]at hd
  rcases hd with rfl|rfl|rfl|rfl|rfl|rfl
  ·obtain⟨L,h,_⟩:=A.k.go;exact⟨_,h⟩
  ·obtain⟨L,h,_⟩:=A.k.fa;exact⟨_,h⟩
  ·obtain⟨L,h,_⟩:=A.k.wa;exact⟨_,h⟩
  ·obtain⟨L,h,_⟩:=A.k.no;exact⟨_,h⟩
  ·obtain⟨L,h,_⟩:=A.k.cu;exact⟨_,h⟩
  ·obtain⟨L,h,_⟩:=A.k.uc;exact⟨_,h⟩
 have st:∀{c o},H c=some o->(∀kvs,o≠ .dK kvs)->H' c=some o:=λ{c o} e d=>kp c o (λm=>by obtain⟨kvs,z⟩:=isD c m;rw[e]at z;exact d kvs (Option.some.inj z)) e
 obtain⟨⟨dx,o⟩,⟨⟨dxb,ob⟩,ki,la,se⟩,h2,h3,h4,h5,h6,⟨kvs,h7,h8⟩,h9,h10,h11,h13,h12,h14⟩:=A
 refine⟨⟨dx,st o (λ_ z=>nomatch z)⟩,⟨⟨dxb,st ob (λ_ z=>nomatch z)⟩,st ki (λ_ z=>nomatch z),st la (λ_ z=>nomatch z),?_⟩,?_,λm hm=>?_,hK,?_,λm hm=>st (h6 m hm) (λ_ z=>nomatch z),⟨kvs,st h7 (λ_ z=>nomatch z),h8⟩,λo ho=>st (h9 o ho) (λ_ z=>nomatch z),h10,h11,h13,h12,h14⟩
 ·obtain⟨⟨xs,e1,e2,e3⟩,nd,sm,ln⟩:=se
  exact⟨⟨xs,e1,λy hy=>(e2 y hy).same λc l q=>st q (λ_ z=>nomatch z),st e3 (λ_ z=>nomatch z)⟩,nd,sm,ln⟩
 ·have nu:a.un∉a.k.ds:=λm=>(h12 _ m).1 rfl
  rcases h2 with h|⟨oo,h⟩
  ·exact .inl (kp _ _ nu h)
  ·exact .inr ⟨oo,kp _ _ nu h⟩
 ·obtain⟨o,dx,e⟩:=h3 m hm
  exact⟨o,dx,st e (λ_ z=>nomatch z)⟩
 ·exact kp _ _ (λm=>(h12 _ m).2 rfl) h5
theorem keep_upd {d:Addr}{u:HO}(hd:d∈a.k.ds):Keep a.k.ds H (upd H d u):=λc o n e=>by rw[upd_ne (λz=>n (by rw[z];exact hd))];exact e
theorem DAt.put {H:Hp}{d:Addr}{l:List Nat}(h:DAt H d l)(p:Nat):∃L,H d=some (.dK (kkv L))/\DAt (upd H d (.dK (putK (kkv L) (Sum.inl (p:Int)) (.bl true)))) d (putIn p l):=by
 obtain⟨L,h1,h2⟩:=h
 exact⟨L,h1,_,by rw[upd_same,put_kkv],h2.put p⟩
theorem DAt.other {H:Hp}{d d':Addr}{l:List Nat}{u:HO}(h:DAt H d l)(n:d≠d'):DAt (upd H d' u) d l:=by
 obtain⟨L,h1,h2⟩:=h
 exact⟨L,by rw[upd_ne n];exact h1,h2⟩
theorem small_of {C:Addr}{k:Known}{a:Ka}(A:KnownAt C H a k){d:Addr}{l:List Nat}(h:DAt H d l)(hl:l.length<=1000){L:List Nat}(e:H d=some (.dK (kkv L))):(kkv L).length<sizeLine:=by
 obtain⟨L',h1,h2⟩:=h
 rw[e]at h1
 have:kkv L=kkv L':=by injection h1 with h1;injection h1
 rw[this]
 unfold kkv
 rw[List.length_map,h2.len]
 exact small1000 hl
theorem KnownAt.putGo {C:Addr}{a:Ka}(A:KnownAt C H a k)(p:Nat){L:List Nat}(h:H a.go=some (.dK (kkv L))):KnownAt C (upd H a.go (.dK (putK (kkv L) (Sum.inl (p:Int)) (.bl true)))) a {k with goes:=putIn p k.goes}:=by
 have nd:=A.nd
 unfold Ka.ds at nd
 simp only[List.nodup_cons,List.mem_cons,List.not_mem_nil,or_false,not_or,not_false_eq_true,List.nodup_nil,and_true]at nd
 obtain⟨⟨q12,q13,q14,q15,q16⟩,⟨q23,q24,q25,q26⟩,⟨q34,q35,q36⟩,⟨q45,q46⟩,q56⟩:=nd
 obtain⟨dx,o⟩:=A.o
 obtain⟨L',h1,h2⟩:=A.go.put p
 have e:kkv L=kkv L':=by rw[h]at h1;injection h1 with h1;injection h1
 rw[e]
 exact⟨⟨dx,by rw[upd_ne (ne_of o h (λz=>nomatch z))];exact o⟩,h2,A.fa.other (Ne.symm q12),A.wa.other (Ne.symm q13),A.no.other (Ne.symm q14),A.cu.other (Ne.symm q15),A.uc.other (Ne.symm q16),A.nd⟩
theorem KnownAt.putFa {C:Addr}{a:Ka}(A:KnownAt C H a k)(p:Nat){L:List Nat}(h:H a.fa=some (.dK (kkv L))):KnownAt C (upd H a.fa (.dK (putK (kkv L) (Sum.inl (p:Int)) (.bl true)))) a {k with stuck:=putIn p k.stuck}:=by
 have nd:=A.nd
 unfold Ka.ds at nd
 simp only[List.nodup_cons,List.mem_cons,List.not_mem_nil,or_false,not_or,not_false_eq_true,List.nodup_nil,and_true]at nd
 obtain⟨⟨q12,q13,q14,q15,q16⟩,⟨q23,q24,q25,q26⟩,⟨q34,q35,q36⟩,⟨q45,q46⟩,q56⟩:=nd
 obtain⟨dx,o⟩:=A.o
 obtain⟨L',h1,h2⟩:=A.fa.put p
 have e:kkv L=kkv L':=by rw[h]at h1;injection h1 with h1;injection h1
 rw[e]
 exact⟨⟨dx,by rw[upd_ne (ne_of o h (λz=>nomatch z))];exact o⟩,A.go.other q12,h2,A.wa.other (Ne.symm q23),A.no.other (Ne.symm q24),A.cu.other (Ne.symm q25),A.uc.other (Ne.symm q26),A.nd⟩
theorem KnownAt.putWa {C:Addr}{a:Ka}(A:KnownAt C H a k)(p:Nat){L:List Nat}(h:H a.wa=some (.dK (kkv L))):KnownAt C (upd H a.wa (.dK (putK (kkv L) (Sum.inl (p:Int)) (.bl true)))) a {k with way:=putIn p k.way}:=by
 have nd:=A.nd
 unfold Ka.ds at nd
 simp only[List.nodup_cons,List.mem_cons,List.not_mem_nil,or_false,not_or,not_false_eq_true,List.nodup_nil,and_true]at nd
 obtain⟨⟨q12,q13,q14,q15,q16⟩,⟨q23,q24,q25,q26⟩,⟨q34,q35,q36⟩,⟨q45,q46⟩,q56⟩:=nd
 obtain⟨dx,o⟩:=A.o
 obtain⟨L',h1,h2⟩:=A.wa.put p
 have e:kkv L=kkv L':=by rw[h]at h1;injection h1 with h1;injection h1
 rw[e]
 exact⟨⟨dx,by rw[upd_ne (ne_of o h (λz=>nomatch z))];exact o⟩,A.go.other q13,A.fa.other q23,h2,A.no.other (Ne.symm q34),A.cu.other (Ne.symm q35),A.uc.other (Ne.symm q36),A.nd⟩
theorem KnownAt.putNo {C:Addr}{a:Ka}(A:KnownAt C H a k)(p:Nat){L:List Nat}(h:H a.no=some (.dK (kkv L))):KnownAt C (upd H a.no (.dK (putK (kkv L) (Sum.inl (p:Int)) (.bl true)))) a {k with noway:=putIn p k.noway}:=by
 have nd:=A.nd
 unfold Ka.ds at nd
 simp only[List.nodup_cons,List.mem_cons,List.not_mem_nil,or_false,not_or,not_false_eq_true,List.nodup_nil,and_true]at nd
 obtain⟨⟨q12,q13,q14,q15,q16⟩,⟨q23,q24,q25,q26⟩,⟨q34,q35,q36⟩,⟨q45,q46⟩,q56⟩:=nd
 obtain⟨dx,o⟩:=A.o
 obtain⟨L',h1,h2⟩:=A.no.put p
 have e:kkv L=kkv L':=by rw[h]at h1;injection h1 with h1;injection h1
 rw[e]
 exact⟨⟨dx,by rw[upd_ne (ne_of o h (λz=>nomatch z))];exact o⟩,A.go.other q14,A.fa.other q24,A.wa.other q34,h2,A.cu.other (Ne.symm q45),A.uc.other (Ne.symm q46),A.nd⟩
theorem KnownAt.putCu {C:Addr}{a:Ka}(A:KnownAt C H a k)(p:Nat){L:List Nat}(h:H a.cu=some (.dK (kkv L))):KnownAt C (upd H a.cu (.dK (putK (kkv L) (Sum.inl (p:Int)) (.bl true)))) a {k with cut:=putIn p k.cut}:=by
 have nd:=A.nd
 unfold Ka.ds at nd
 simp only[List.nodup_cons,List.mem_cons,List.not_mem_nil,or_false,not_or,not_false_eq_true,List.nodup_nil,and_true]at nd
 obtain⟨⟨q12,q13,q14,q15,q16⟩,⟨q23,q24,q25,q26⟩,⟨q34,q35,q36⟩,⟨q45,q46⟩,q56⟩:=nd
 obtain⟨dx,o⟩:=A.o
 obtain⟨L',h1,h2⟩:=A.cu.put p
 have e:kkv L=kkv L':=by rw[h]at h1;injection h1 with h1;injection h1
 rw[e]
 exact⟨⟨dx,by rw[upd_ne (ne_of o h (λz=>nomatch z))];exact o⟩,A.go.other q15,A.fa.other q25,A.wa.other q35,A.no.other q45,h2,A.uc.other (Ne.symm q56),A.nd⟩
theorem KnownAt.putUc {C:Addr}{a:Ka}(A:KnownAt C H a k)(p:Nat){L:List Nat}(h:H a.uc=some (.dK (kkv L))):KnownAt C (upd H a.uc (.dK (putK (kkv L) (Sum.inl (p:Int)) (.bl true)))) a {k with uncut:=putIn p k.uncut}:=by
 have nd:=A.nd
 unfold Ka.ds at nd
 simp only[List.nodup_cons,List.mem_cons,List.not_mem_nil,or_false,not_or,not_false_eq_true,List.nodup_nil,and_true]at nd
 obtain⟨⟨q12,q13,q14,q15,q16⟩,⟨q23,q24,q25,q26⟩,⟨q34,q35,q36⟩,⟨q45,q46⟩,q56⟩:=nd
 obtain⟨dx,o⟩:=A.o
 obtain⟨L',h1,h2⟩:=A.uc.put p
 have e:kkv L=kkv L':=by rw[h]at h1;injection h1 with h1;injection h1
 rw[e]
 exact⟨⟨dx,by rw[upd_ne (ne_of o h (λz=>nomatch z))];exact o⟩,A.go.other q16,A.fa.other q26,A.wa.other q36,A.no.other q46,A.cu.other q56,h2,A.nd⟩
theorem putKn {X:Cx}{Z:Sg}{H:Hp}{D:Ends}{pos pos' pos2:Pos}{j}{o i:Expr}{a:Pa}{b:Board}{ms:Men}{k k':Known}{d:Addr}{l:List Nat}{p:Nat}(hu:X.A.units+1<cLine)(A:PosAt X.prog X.w cs H a b ms k)(hd:d∈a.k.ds)(hD:DAt H d l)(hl:l.length<=1000)
  (hput:∀H1 L,Same H H1->H1 d=some (.dK (kkv L))->KnownAt cs.K (upd H1 d (.dK (putK (kkv L) (Sum.inl (p:Int)) (.bl true)))) a.k k')
  (ho:∀H1,Same H H1->Ev X o Z H1 (.ref d)) (hi:∀H1,Same H H1->Ev X i Z H1 (.int p)) (q:∀H',PosAt X.prog X.w cs H' a b ms k'->Keep a.k.ds H H'->D.nx Z H')
  (hs:swapsWith (.Constant (.bool true) j pos2) (some (.Subscript o i pos')) pos.line X.env=pure false:=by rfl):tS X (.Assign [.Subscript o i pos'] (.Constant (.bool true) j pos2) pos) D Z H:=by
 obtain⟨L,h1,h2⟩:=id hD
 refine dput (Pk:=λy _=>y=.int p) hu bl_ ho (λH1 s1=>(hi H1 s1).p λ_ _=>rfl) (λH3 y s3 hy=>?_) hs
 subst hy
 have kp:Keep a.k.ds H (upd H3 d (.dK (putK (kkv L) (Sum.inl (p:Int)) (.bl true)))):=(Keep.of s3).trans (keep_upd hd)
 exact⟨_,DPut.k (k:=Sum.inl (p:Int)) (s3 _ _ h1) (small_of A.k hD hl h1),q _ (A.upk (hput H3 L s3 (s3 _ _ h1)) kp) kp⟩
end
def spLk (P:Program)(w:World)(cs:Cs)(F:Man->Prop)(L:Board->Men->Known->Nat->Man->Known):Sp:=λvs H Q _=>∃(a:Pa) (b:Board) (ms:Men) (k:Known) (p:Nat) (m:Man),vs=[.ref a.po,.int p]/\PosAt P w cs H a b ms k/\manAt ms p=some m/\F m/\sizes k<=100/\∀H':Hp,PosAt P w cs H' a b ms (L b ms k p m)->Keep a.k.ds H H'->Q .non H'
theorem le_sizes (k:Known):k.goes.length<=sizes k/\k.stuck.length<=sizes k/\k.way.length<=sizes k/\k.noway.length<=sizes k/\k.cut.length<=sizes k/\k.uncut.length<=sizes k:=by
 unfold Vbsoae.sizes;omega
theorem Keep.refl (ws:List Addr)(H:Hp):Keep ws H H:=λ_ _ _ e=>e
theorem scLs:FnScope ["position","p","known"] ["position","p"] (defScope sLs):=fs
theorem ok_ls {f:Addr}{fd:FuncData}(F:Fun K "look_at_support" "look_at_support" sLs f fd)(T:Tx K mg cs)(F1:FnP P w K mg base cs 4 "surely_cut" fSc)(F2:FnP P w K mg base cs 4 "may_be_cut" fMc):FnOk P w K mg base CX0 7 f fd ["position","p"] (spLk P w cs (λ_=>True) (λ_ ms k p m=>Kn.learn0 ms k p m)):=by
 refine def_ F scLs (λvs H Q E h=>?_) (λcdv A outer s H vs Q E hr h=>?_)
 ·obtain⟨_,_,_,_,_,_,rfl,_⟩:=h;rfl
 ·obtain⟨a,b,ms,k,p,m,rfl,A',hm,_,hz,kk⟩:=h
  try dsimp only at kk
  have hu:=hu_of hr
  have ls:=le_sizes k
  refine bcons (set 2 scLs.nd (pKnown T A' (var 0)) λH1 s1=>?_)
  have A1:=A'.same s1
  refine bone (if_ (tv (callPos F1 hr A1 (var 0) (λ_ _=>var 1) ⟨m,hm,rfl⟩)) (λhc H2 s2=>?_) λhc H2 s2=>?_)
  ·have A2:=A1.same s2
   refine bone (putKn hu A2 (d:=a.k.cu) (k':={k with cut:=putIn p k.cut}) (by unfold Ka.ds;simp) A2.k.cu (by omega) (λH3 L s3 h=>(A2.k.same s3).putCu p h) (λH3 s3=>kCut T (A2.k.same s3) (var 2)) (λ_ _=>var 1) λH' A3 kp=>kk H' ?_ ((Keep.of (s1.trans s2)).trans kp))
   unfold Kn.learn0
   rw[if_pos hc];exact A3
  ·have A2:=A1.same s2
   have n1:¬Vbsoae.sureCut ms k m=true:=by rw[hc];exact Bool.false_ne_true
   refine bone (if_ (tnot (tv (callPos F2 hr A2 (var 0) (λ_ _=>var 1) ⟨m,hm,rfl⟩))) (λhd H3 s3=>?_) λhd H3 s3=>?_)
   ·have A3:=A2.same s3
    refine bone (putKn hu A3 (d:=a.k.uc) (k':={k with uncut:=putIn p k.uncut}) (by unfold Ka.ds;simp) A3.k.uc (by omega) (λH4 L s4 h=>(A3.k.same s4).putUc p h) (λH4 s4=>kUncut T (A3.k.same s4) (var 2)) (λ_ _=>var 1) λH' A4 kp=>kk H' ?_ ((Keep.of (s1.trans (s2.trans s3))).trans kp))
    unfold Kn.learn0
    rw[if_neg n1,if_pos (by simpa using hd)];exact A4
   ·refine bnil (kk H3 ?_ (Keep.of (s1.trans (s2.trans s3))))
    unfold Kn.learn0
    rw[if_neg n1,if_neg (by intro z;rw[z]at hd;cases hd)];exact A2.same s3
theorem scLw:FnScope ["position","p","known"] ["position","p"] (defScope sLw):=fs
theorem ok_lw {f:Addr}{fd:FuncData}(F:Fun K "look_at_way" "look_at_way" sLw f fd)(T:Tx K mg cs)(F1:FnP P w K mg base cs 6 "surely_a_chain" fSch)(F2:FnP P w K mg base cs 6 "may_be_a_chain" fMch):FnOk P w K mg base CX0 7 f fd ["position","p"] (spLk P w cs (λm=>byWater m=true) Kn.learn1):=by
 refine def_ F scLw (λvs H Q E h=>?_) (λcdv A outer s H vs Q E hr h=>?_)
 ·obtain⟨_,_,_,_,_,_,rfl,_⟩:=h;rfl
 ·obtain⟨a,b,ms,k,p,m,rfl,A',hm,hw,hz,kk⟩:=h
  try dsimp only at kk
  obtain⟨q,hq⟩:∃q,goal m=some q:=by
   obtain⟨q,e⟩:=Vw.byWater_iff.mp hw
   exact⟨q,Vw.goal_iff.mpr (.inr e)⟩
  have hu:=hu_of hr
  have ls:=le_sizes k
  refine bcons (set 2 scLw.nd (pKnown T A' (var 0)) λH1 s1=>?_)
  have A1:=A'.same s1
  refine bone (if_ (tv (callPos F1 hr A1 (var 0) (λ_ _=>var 1) ⟨m,q,hm,hq,rfl⟩)) (λhc H2 s2=>?_) λhc H2 s2=>?_)
  ·have A2:=A1.same s2
   refine bone (putKn hu A2 (d:=a.k.wa) (k':={k with way:=putIn p k.way}) (by unfold Ka.ds;simp) A2.k.wa (by omega) (λH3 L s3 h=>(A2.k.same s3).putWa p h) (λH3 s3=>kWay T (A2.k.same s3) (var 2)) (λ_ _=>var 1) λH' A3 kp=>kk H' ?_ ((Keep.of (s1.trans s2)).trans kp))
   unfold Kn.learn1
   rw[if_pos hc];exact A3
  ·have A2:=A1.same s2
   have n1:¬Vbsoae.sureChain b ms k m=true:=by rw[hc];exact Bool.false_ne_true
   refine bone (if_ (tnot (tv (callPos F2 hr A2 (var 0) (λ_ _=>var 1) ⟨m,q,hm,hq,rfl⟩))) (λhd H3 s3=>?_) λhd H3 s3=>?_)
   ·have A3:=A2.same s3
    refine bone (putKn hu A3 (d:=a.k.no) (k':={k with noway:=putIn p k.noway}) (by unfold Ka.ds;simp) A3.k.no (by omega) (λH4 L s4 h=>(A3.k.same s4).putNo p h) (λH4 s4=>kNone T (A3.k.same s4) (var 2)) (λ_ _=>var 1) λH' A4 kp=>kk H' ?_ ((Keep.of (s1.trans (s2.trans s3))).trans kp))
    unfold Kn.learn1
    rw[if_neg n1,if_pos (by simpa using hd)];exact A4
   ·refine bnil (kk H3 ?_ (Keep.of (s1.trans (s2.trans s3))))
    unfold Kn.learn1
    rw[if_neg n1,if_neg (by intro z;rw[z]at hd;cases hd)];exact A2.same s3
theorem scLm:FnScope ["position","p","known"] ["position","p"] (defScope sLm):=fs
theorem ok_lm {f:Addr}{fd:FuncData}(F:Fun K "look_at_move" "look_at_move" sLm f fd)(T:Tx K mg cs)(F1:FnP P w K mg base cs 5 "surely_goes" fSg)(F2:FnP P w K mg base cs 5 "may_go" fMg):FnOk P w K mg base CX0 7 f fd ["position","p"] (spLk P w cs (λm=>(goal m).isSome=true) (λ_ ms k p m=>Kn.learn2 ms k p m)):=by
 refine def_ F scLm (λvs H Q E h=>?_) (λcdv A outer s H vs Q E hr h=>?_)
 ·obtain⟨_,_,_,_,_,_,rfl,_⟩:=h;rfl
 ·obtain⟨a,b,ms,k,p,m,rfl,A',hm,hw,hz,kk⟩:=h
  try dsimp only at kk
  obtain⟨q,hq⟩:=Option.isSome_iff_exists.mp hw
  have hu:=hu_of hr
  have ls:=le_sizes k
  refine bcons (set 2 scLm.nd (pKnown T A' (var 0)) λH1 s1=>?_)
  have A1:=A'.same s1
  refine bone (if_ (tv (callPos F1 hr A1 (var 0) (λ_ _=>var 1) ⟨m,q,hm,hq,rfl⟩)) (λhc H2 s2=>?_) λhc H2 s2=>?_)
  ·have A2:=A1.same s2
   refine bone (putKn hu A2 (d:=a.k.go) (k':={k with goes:=putIn p k.goes}) (by unfold Ka.ds;simp) A2.k.go (by omega) (λH3 L s3 h=>(A2.k.same s3).putGo p h) (λH3 s3=>kGoes T (A2.k.same s3) (var 2)) (λ_ _=>var 1) λH' A3 kp=>kk H' ?_ ((Keep.of (s1.trans s2)).trans kp))
   unfold Kn.learn2
   rw[if_pos hc];exact A3
  ·have A2:=A1.same s2
   have n1:¬Vbsoae.sureGoes ms k m=true:=by rw[hc];exact Bool.false_ne_true
   refine bone (if_ (tnot (tv (callPos F2 hr A2 (var 0) (λ_ _=>var 1) ⟨m,q,hm,hq,rfl⟩))) (λhd H3 s3=>?_) λhd H3 s3=>?_)
   ·have A3:=A2.same s3
    refine bone (putKn hu A3 (d:=a.k.fa) (k':={k with stuck:=putIn p k.stuck}) (by unfold Ka.ds;simp) A3.k.fa (by omega) (λH4 L s4 h=>(A3.k.same s4).putFa p h) (λH4 s4=>kFails T (A3.k.same s4) (var 2)) (λ_ _=>var 1) λH' A4 kp=>kk H' ?_ ((Keep.of (s1.trans (s2.trans s3))).trans kp))
    unfold Kn.learn2
    rw[if_neg n1,if_pos (by simpa using hd)];exact A4
   ·refine bnil (kk H3 ?_ (Keep.of (s1.trans (s2.trans s3))))
    unfold Kn.learn2
    rw[if_neg n1,if_neg (by intro z;rw[z]at hd;cases hd)];exact A2.same s3
end
open Vbsoae (learn)
abbrev sOp:Stmt:=top 71
abbrev sAp:Stmt:=top 72
section
variable {P:Program}{w:World}{K:Fg}{mg:Str->Option Value}{base:Heap}{cs:Cs}
theorem howE {X:Cx}{Z:Sg}{H:Hp}{a:Ka}{k:Known}{n:Nat}{pos apos:Pos}{x:Expr}{pl:Sem Bool}(G:MtW X.prog X.w X.K X.mg X.base cs)(hr:Room n X.A)(A:KnownAt cs.K H a k)(h1:Ev X x Z H (.ref a.ob))(hn:2<=n:=by decide)
  (ht:eval (.Call (.Attribute x "how_many" apos) [] [] pos) X.env=(do
   let ov<-eval x X.env
   standAt apos.atName
   let(f,first)<-holding [ov] (getMethod ov "how_many" pl)
   callWith pos f first (backTo pos (starEach [] X.env)) (backToKw pos (keywordEach [] X.env))):=by rfl):Ev X (.Call (.Attribute x "how_many" apos) [] [] pos) Z H (.int (sizes k:Nat)):=λQ q=>by
 obtain⟨dx,o⟩:=A.o
 exact meth0E G (hr.mono hn) h1 o rfl (λH1 s1=>⟨_,⟨a,k,rfl,A.same s1,rfl⟩,λH2 s2=>q H2 (s1.trans s2)⟩) ht
theorem in_sup (m:Man):inV (.str (tag (kof m.order))) [.str "stay",.str "aid"]=Kn.isSup m:=by
 unfold Kn.isSup kof
 cases m.order with
 |hold=>decide
 |move a s w=>
  cases w with
  |false=>show inV (.str "move") [.str "stay",.str "aid"]=false;decide
  |true=>show inV (.str "by water") [.str "stay",.str "aid"]=false;decide
 |stay a=>show inV (.str "stay") [.str "stay",.str "aid"]=true;decide
 |aid a c=>show inV (.str "aid") [.str "stay",.str "aid"]=true;decide
 |carry a c=>show inV (.str "carry") [.str "stay",.str "aid"]=false;decide
def spLu (P:Program)(w:World)(cs:Cs):Sp:=λvs H Q _=>∃(a:Pa) (b:Board) (ms:Men) (k:Known) (wt p:Nat) (m:Man),vs=[.ref a.po,.int wt,.int p]/\PosAt P w cs H a b ms k/\wt<=2/\manAt ms p=some m/\sizes k<=100/\∀H':Hp,PosAt P w cs H' a b ms (learn b ms k wt p)->Keep a.k.ds H H'->Q (.int ((sizes (learn b ms k wt p):Nat)-(sizes k:Nat))) H'
theorem scLu:FnScope ["position","what","p","before"] ["position","what","p"] (defScope sLu):=fs
theorem ok_lu {f:Addr}{fd:FuncData}(F:Fun K "look_at_unit" "look_at_unit" sLu f fd)(T:Tx K mg cs)(MW:MtW P w K mg base cs)(MB:MtP P w K mg base cs 1 "moves_by_water" fMbw)(MV:MtP P w K mg base cs 1 "moves" fMvs)
  (F0:Fn P w K mg base 7 "look_at_support" ["position","p"] (spLk P w cs (λ_=>True) (λ_ ms k p m=>Kn.learn0 ms k p m))) (F1:Fn P w K mg base 7 "look_at_way" ["position","p"] (spLk P w cs (λm=>byWater m=true) Kn.learn1)) (F2:Fn P w K mg base 7 "look_at_move" ["position","p"] (spLk P w cs (λm=>(goal m).isSome=true) (λ_ ms k p m=>Kn.learn2 ms k p m))):FnOk P w K mg base CX0 8 f fd ["position","what","p"] (spLu P w cs):=by
 refine def_ F scLu (λvs H Q E h=>?_) (λcdv A outer s H vs Q E hr h=>?_)
 ·obtain⟨_,_,_,_,_,_,_,rfl,_⟩:=h;rfl
 ·obtain⟨a,b,ms,k,wt,p,m,rfl,A',hwt,hm,hz,kk⟩:=h
  have hu:=hu_of hr
  refine bcons (set 3 scLu.nd (howE MW hr A'.k (pKnown T A' (var 0))) λH1 s1=>?_)
  have A1:=A'.same s1
  have fin:∀(H':Hp) (k':Known),k'=learn b ms k wt p->PosAt P w cs H' a b ms k'->Keep a.k.ds H H'->Vm.tB (cxOf CX0 P w K mg base ["position","what","p","before"] "look_at_unit" (defScope sLu) f cdv A outer s H E).nox ((defBody sLu).drop 2) {nx:=λ_ H'=>Q .non H',rt:=Q} [some (.ref a.po),some (.int wt),some (.int p),some (.int (sizes k:Nat))] H':=λH' k' e A2 kp=>by
   subst e
   refine bone (ret (sub (howE MW hr A2.k (pKnown T A2 (var 0))) λ_ _=>var 3) λH3 s3=>kk H3 (A2.same s3) (kp.trans (Keep.of s3)))
  have nx:∀(H':Hp),Same H1 H'->k=learn b ms k wt p->Vm.tB (cxOf CX0 P w K mg base ["position","what","p","before"] "look_at_unit" (defScope sLu) f cdv A outer s H E).nox ((defBody sLu).drop 2) {nx:=λ_ H'=>Q .non H',rt:=Q} [some (.ref a.po),some (.int wt),some (.int p),some (.int (sizes k:Nat))] H':=λH' s' e=>fin H' k e (A1.same s') (Keep.of (s1.trans s'))
  refine bcons (if_ (and2 (b1:=Kn.isSup m) (teqI (var 1) λ_ _=>glob T.gAT_SUPPORT) λ_ H2 s2=>(tinT (pTag T hu (A1.same s2) hm (var 0) λ_ _=>var 2) λ_ _=>tup (cons (glob T.gSTAY) λ_ _=>one (glob T.gAID))).to (in_sup m)) (λhc H2 s2=>?_) λhc H2 s2=>?_)
  ·rw[Bool.and_eq_true,decide_eq_true_eq]at hc
   have e0:wt=0:=by have:=hc.1;omega
   refine bone (drop (callE F0 hr ((cons (var 0) λ_ _=>one (var 2)) _ λH3 s3=>⟨a,b,ms,k,p,m,rfl,A1.same (s2.trans s3),hm,trivial,hz,λH' A2 kp=>fin H' _ ?_ A2 ((Keep.of (s1.trans (s2.trans s3))).trans kp)⟩)))
   rw[e0,Kn.learn_0 hm,if_pos hc.2]
  ·refine bone (if_ (and2 (b1:=byWater m) (teqI (var 1) λ_ _=>glob T.gAT_WAY) λ_ H3 s3=>tv (methPos MB hr (A1.same (s2.trans s3)) (var 0) (λ_ _=>var 2) ⟨m,hm,rfl⟩)) (λhd H3 s3=>?_) λhd H3 s3=>?_)
   ·rw[Bool.and_eq_true,decide_eq_true_eq]at hd
    have e0:wt=1:=by have:=hd.1;omega
    refine bone (drop (callE F1 hr ((cons (var 0) λ_ _=>one (var 2)) _ λH4 s4=>⟨a,b,ms,k,p,m,rfl,A1.same (s2.trans (s3.trans s4)),hm,hd.2,hz,λH' A2 kp=>fin H' _ ?_ A2 ((Keep.of (s1.trans (s2.trans (s3.trans s4)))).trans kp)⟩)))
    rw[e0,Kn.learn_1 hm,if_pos hd.2]
   ·refine bone (if_ (and2 (b1:=(goal m).isSome) (teqI (var 1) λ_ _=>glob T.gAT_MOVE) λ_ H4 s4=>(tv (methPos MV hr (A1.same (s2.trans (s3.trans s4))) (var 0) (λ_ _=>var 2) rfl)).to (by unfold Vw.mvs;rw[hm];rfl)) (λhe H4 s4=>?_) λhe H4 s4=>?_)
    ·rw[Bool.and_eq_true,decide_eq_true_eq]at he
     have e0:wt=2:=by have:=he.1;omega
     refine bone (drop (callE F2 hr ((cons (var 0) λ_ _=>one (var 2)) _ λH5 s5=>⟨a,b,ms,k,p,m,rfl,A1.same (s2.trans (s3.trans (s4.trans s5))),hm,he.2,hz,λH' A2 kp=>fin H' _ ?_ A2 ((Keep.of (s1.trans (s2.trans (s3.trans (s4.trans s5))))).trans kp)⟩)))
     rw[e0,Kn.learn_2 hm,if_pos he.2]
    ·refine bnil (nx H4 (s2.trans (s3.trans s4)) ?_)
     have h012:wt=0\/wt=1\/wt=2:=by omega
     rcases h012 with rfl|rfl|rfl
     ·rw[Kn.learn_0 hm,if_neg (by intro z;rw[z]at hc;cases hc)]
     ·rw[Kn.learn_1 hm,if_neg (by intro z;rw[z]at hd;cases hd)]
     ·rw[Kn.learn_2 hm,if_neg (by intro z;rw[z]at he;cases he)]
section
variable {H H':Hp}{a:Pa}{b:Board}{ms:Men}{k:Known}
theorem PosAt.move (A:PosAt P w cs H a b ms k){u:HO}(ne:∀c o,c≠a.un->H c=some o->H' c=some o)(hu:Rd H' a.un (.dK (ukv ms a.ua)))(no:∀c o,c=a.un->H c=some o->(∀kvs,o≠ .dK kvs)->∃oo kvs,o=.frz oo (.dK kvs)):PosAt P w cs H' a b ms k:=by
 have st:∀{c o},H c=some o->(∀kvs,o≠ .dK kvs)->(∀oo v,o≠ .frz oo v)->H' c=some o:=λ{c o} e d1 d2=>ne c o (λz=>by obtain⟨oo,kvs,z'⟩:=no c o z e d1;exact d2 oo _ z') e
 obtain⟨⟨dx,o⟩,⟨⟨dxb,ob⟩,ki,la,se⟩,h2,h3,⟨⟨dxk,ok⟩,k1,k2,k3,k4,k5,k6,knd⟩,h5,h6,⟨kvs,h7,h8⟩,h9,h10,h11,h13,h12,h14⟩:=A
 have dk:∀{d l},d∈a.k.ds->DAt H d l->DAt H' d l:=λ{d l} m ⟨L,e1,e2⟩=>⟨L,ne _ _ (h12 d m).1 e1,e2⟩
 refine⟨⟨dx,st o (λ_ z=>nomatch z) (λ_ _ z=>nomatch z)⟩,⟨⟨dxb,st ob (λ_ z=>nomatch z) (λ_ _ z=>nomatch z)⟩,st ki (λ_ z=>nomatch z) (λ_ _ z=>nomatch z),st la (λ_ z=>nomatch z) (λ_ _ z=>nomatch z),?_⟩,hu,λm hm=>?_,⟨⟨dxk,st ok (λ_ z=>nomatch z) (λ_ _ z=>nomatch z)⟩,?_,?_,?_,?_,?_,?_,knd⟩,ne _ _ h14 h5,λm hm=>st (h6 m hm) (λ_ z=>nomatch z) (λ_ _ z=>nomatch z),⟨kvs,st h7 (λ_ z=>nomatch z) (λ_ _ z=>nomatch z),h8⟩,λo ho=>st (h9 o ho) (λ_ z=>nomatch z) (λ_ _ z=>nomatch z),h10,h11,h13,h12,h14⟩
 ·obtain⟨⟨xs,e1,e2,e3⟩,nd,sm,ln⟩:=se
  exact⟨⟨xs,e1,λy hy=>(e2 y hy).same λc l q=>st q (λ_ z=>nomatch z) (λ_ _ z=>nomatch z),st e3 (λ_ z=>nomatch z) (λ_ _ z=>nomatch z)⟩,nd,sm,ln⟩
 ·obtain⟨o,dx,e⟩:=h3 m hm
  exact⟨o,dx,st e (λ_ z=>nomatch z) (λ_ _ z=>nomatch z)⟩
 ·exact dk (by unfold Ka.ds;simp) k1
 ·exact dk (by unfold Ka.ds;simp) k2
 ·exact dk (by unfold Ka.ds;simp) k3
 ·exact dk (by unfold Ka.ds;simp) k4
 ·exact dk (by unfold Ka.ds;simp) k5
 ·exact dk (by unfold Ka.ds;simp) k6
theorem PosAt.lock (A:PosAt P w cs H a b ms k)(h:H a.un=some (.dK (ukv ms a.ua)))(od:Obj):PosAt P w cs (upd H a.un (.frz od (.dK (ukv ms a.ua)))) a b ms k:=
 A.move (u:=.dK []) (λc o n e=>by rw[upd_ne n];exact e) (.inr ⟨od,upd_same⟩) λc o z e d=>by subst z;rw[h]at e;exact absurd (Option.some.inj e).symm (d _)
theorem PosAt.unlock (A:PosAt P w cs H a b ms k){od:Obj}(h:H a.un=some (.frz od (.dK (ukv ms a.ua)))):PosAt P w cs (upd H a.un (.dK (ukv ms a.ua))) a b ms k:=
 A.move (u:=.dK []) (λc o n e=>by rw[upd_ne n];exact e) (.inl upd_same) λc o z e d=>by subst z;rw[h]at e;exact⟨_,_,(Option.some.inj e).symm⟩
end
theorem ukv_get {ms:Men}{ua:Nat->Addr}{i:Nat}{x:Key}{v:V}(h:(ukv ms ua)[i]?=some (x,v)):∃m,ms[i]?=some m/\x=Sum.inl (m.prov:Int):=by
 unfold ukv at h
 rw[List.getElem?_map]at h
 obtain⟨m,hm,e⟩:=Option.map_eq_some_iff.mp h
 exact⟨m,hm,(congrArg Prod.fst e).symm⟩
def spOp (P:Program)(w:World)(cs:Cs):Sp:=λvs H Q _=>∃(a:Pa) (b:Board) (ms:Men) (k:Known),vs=[.ref a.po]/\PosAt P w cs H a b ms k/\H a.un=some (.dK (ukv ms a.ua))/\Kn.Good b ms k/\∀H':Hp,PosAt P w cs H' a b ms (Vbsoae.pass b ms k)->H' a.un=some (.dK (ukv ms a.ua))->Keep a.k.ds H H'->Q (.int ((sizes (Vbsoae.pass b ms k):Nat)-(sizes k:Nat))) H'
theorem scOp:FnScope ["position","found","p"] ["position"] (defScope sOp):=fs
theorem ok_op {f:Addr}{fd:FuncData}(F:Fun K "one_pass" "one_pass" sOp f fd)(T:Tx K mg cs)(FL:Fn P w K mg base 8 "look_at_unit" ["position","what","p"] (spLu P w cs)):FnOk P w K mg base CX0 9 f fd ["position"] (spOp P w cs):=by
 refine def_ F scOp (λvs H Q E h=>?_) (λcdv A outer s H vs Q E hr h=>?_)
 ·obtain⟨_,_,_,_,rfl,_⟩:=h;rfl
 ·obtain⟨a,b,ms,k,rfl,A',hun,g0,kk⟩:=h
  have nd:=A'.nd
  have nds:a.un∉a.k.ds:=λm=>(A'.ap _ m).1 rfl
  refine bcons (set 1 scOp.nd int_ λH1 s1=>?_)
  have A1:=A'.same s1
  refine bcons (forKeys 2 scOp.nd (s1 _ _ hun) (λod=>pUnits T (A1.lock (s1 _ _ hun) od) (var 0)) λod H3 s3=>?_)
  have A3:=(A1.lock (s1 _ _ hun) od).same s3
  have fz3:H3 a.un=some (.frz od (.dK (ukv ms a.ua))):=s3 _ _ upd_same
  have len:(ukv ms a.ua).length=ms.length:=List.length_map ..
  refine⟨λi Z H'=>i<=ms.length/\∃(k1:Known) (v:Option V),k1=(ms.take i).foldl (Kn.look3 b ms) k/\Z=[some (.ref a.po),some (.int ((sizes k1:Nat)-(sizes k:Nat))),v]/\PosAt P w cs H' a b ms k1/\H' a.un=some (.frz od (.dK (ukv ms a.ua)))/\Keep a.k.ds H3 H',⟨Nat.zero_le _,k,none,rfl,by rw[Int.sub_self];rfl,A3,fz3,Keep.refl _ _⟩,λi Z H' ⟨_,_,_,_,_,_,z,_⟩=>z,?_,?_⟩
  ·rintro i ⟨pk,pv⟩ Z H5 hx ⟨hi,k1,v,ek,rfl,A4,fz4,kp4⟩
   obtain⟨mm,hmm,rfl⟩:=ukv_get hx
   have hlt:i<ms.length:=(List.getElem?_eq_some_iff.mp hmm).1
   have hat:=Vw.manAt_of nd (List.mem_of_getElem? hmm)
   have g1:Kn.Good b ms k1:=by rw[ek];exact(Kn.good_fold nd _ g0).1
   have z1:=Kn.sizes_bound g1
   have ln:=A'.ln
   show Vm.tB _ _ _ [some (.ref a.po),some (.int ((sizes k1:Nat)-(sizes k:Nat))),some (.int mm.prov)] H5
   refine bcons (aug 1 scOp.nd rfl (callE FL hr ((cons (var 0) λ_ _=>cons (glob T.gAT_SUPPORT) λ_ _=>one (var 2)) _ λH6 s6=>⟨a,b,ms,k1,0,mm.prov,mm,rfl,A4.same s6,by decide,hat,by omega,λH7 A7 kp7=>⟨rfl,?_⟩⟩)))
   have g2:=(Kn.good_learn nd g1 0 mm.prov).1
   have z2:=Kn.sizes_bound g2
   refine bcons (aug 1 scOp.nd rfl (callE FL hr ((cons (var 0) λ_ _=>cons (glob T.gAT_WAY) λ_ _=>one (var 2)) _ λH8 s8=>⟨a,b,ms,_,1,mm.prov,mm,rfl,A7.same s8,by decide,hat,by omega,λH9 A9 kp9=>⟨rfl,?_⟩⟩)))
   have g3:=(Kn.good_learn nd g2 1 mm.prov).1
   have z3:=Kn.sizes_bound g3
   refine bone (aug 1 scOp.nd rfl (callE FL hr ((cons (var 0) λ_ _=>cons (glob T.gAT_MOVE) λ_ _=>one (var 2)) _ λH10 s10=>⟨a,b,ms,_,2,mm.prov,mm,rfl,A9.same s10,by decide,hat,by omega,λH11 A11 kp11=>⟨rfl,?_⟩⟩)))
   have kp:Keep a.k.ds H5 H11:=(Keep.of s6).trans (kp7.trans ((Keep.of s8).trans (kp9.trans ((Keep.of s10).trans kp11))))
   refine⟨hlt,Kn.look3 b ms k1 mm,some (.int mm.prov),?_,?_,A11,kp _ _ nds fz4,kp4.trans kp⟩
   ·rw[take_snoc' hmm,List.foldl_append,<-ek];rfl
   ·show [some (V.ref a.po),some (V.int _),some (V.int mm.prov)]=_
    unfold Kn.look3
    congr 3
    congr 1
    omega
  ·rintro Z H4 ⟨hi,k1,v,ek,rfl,A4,fz4,kp4⟩
   rw[len,List.take_length]at ek
   have A5:=A4.unlock fz4
   have ek:k1=Vbsoae.pass b ms k:=ek
   subst ek
   refine bone (ret (var 1) λH6 s6=>kk H6 (A5.same s6) (s6 _ _ upd_same) ?_)
   intro c o n e
   by_cases hc:c=a.un
   ·rw[hc]at e⊢
    rw[hun]at e
    exact s6 _ _ (by rw[upd_same];exact e)
   ·refine s6 _ _ ?_
    rw[upd_ne hc]
    refine kp4 _ _ n (s3 _ _ ?_)
    rw[upd_ne hc]
    exact s1 _ _ e
theorem lim_go {b:Board}{ms:Men}{k j:Known}(h:Kn.Lim b ms k j)(l:sizes k<sizes (Vbsoae.pass b ms k)):Kn.Lim b ms (Vbsoae.pass b ms k) j:=by
 cases h with
 |stop e=>rw[e]at l;exact absurd l (Nat.lt_irrefl _)
 |go _ h=>exact h
theorem lim_stop {b:Board}{ms:Men}{k j:Known}(h:Kn.Lim b ms k j)(l:¬sizes k<sizes (Vbsoae.pass b ms k)):k=j:=by
 cases h with
 |stop e=>rfl
 |go l' _=>exact absurd l' l
def spAp (P:Program)(w:World)(cs:Cs):Sp:=λvs H Q _=>∃(a:Pa) (b:Board) (ms:Men) (k:Known),vs=[.ref a.po]/\PosAt P w cs H a b ms k/\H a.un=some (.dK (ukv ms a.ua))/\Kn.Good b ms k/\∀H':Hp,PosAt P w cs H' a b ms (Vbsoae.all_ b ms k)->H' a.un=some (.dK (ukv ms a.ua))->Keep a.k.ds H H'->Q (.int ((sizes (Vbsoae.all_ b ms k):Nat)-(sizes k:Nat))) H'
theorem scAp:FnScope ["position","found","more"] ["position"] (defScope sAp):=fs
theorem ok_ap {f:Addr}{fd:FuncData}(F:Fun K "all_passes" "all_passes" sAp f fd)(T:Tx K mg cs)(FO:Fn P w K mg base 9 "one_pass" ["position"] (spOp P w cs)):FnOk P w K mg base CX0 10 f fd ["position"] (spAp P w cs):=by
 refine def_ F scAp (λvs H Q E h=>?_) (λcdv A outer s H vs Q E hr h=>?_)
 ·obtain⟨_,_,_,_,rfl,_⟩:=h;rfl
 ·obtain⟨a,b,ms,k,rfl,A',hun,g0,kk⟩:=h
  have nd:=A'.nd
  have nds:a.un∉a.k.ds:=λm=>(A'.ap _ m).1 rfl
  have lim:=(Kn.lim_all nd g0).1
  refine bcons (set 1 scAp.nd int_ λH1 s1=>?_)
  refine bcons (setE 2 (callE FO hr ((one (var 0)) _ λH2 s2=>⟨a,b,ms,k,rfl,A'.same (s1.trans s2),(s1.trans s2) _ _ hun,g0,λH3 A3 u3 kp3=>?_⟩)) scAp.nd)
  refine bcons (while_ (λm Z H'=>∃(k0:Known),Z=[some (.ref a.po),some (.int ((sizes k0:Nat)-(sizes k:Nat))),some (.int ((sizes (Vbsoae.pass b ms k0):Nat)-(sizes k0:Nat)))]/\Kn.Good b ms k0/\PosAt P w cs H' a b ms (Vbsoae.pass b ms k0)/\H' a.un=some (.dK (ukv ms a.ua))/\Keep a.k.ds H H'/\Kn.Lim b ms k0 (Vbsoae.all_ b ms k)/\m=3*ms.length-sizes k0) ⟨k,by rw[Int.sub_self];rfl,g0,A3,u3,(Keep.of (s1.trans s2)).trans kp3,lim,rfl⟩ ?_)
  rintro m Z H4 ⟨k0,rfl,g1,A4,u4,kp4,l4,rfl⟩
  refine⟨_,tgt (var 2) λ_ _=>int_,λhc H5 s5=>?_,λhc H5 s5=>?_⟩
  ·have hc:=of_decide_eq_true hc
   have hlt:sizes k0<sizes (Vbsoae.pass b ms k0):=by omega
   have g2:=(Kn.good_pass nd g1).1
   have zb:=Kn.sizes_bound g2
   refine bcons (augE 1 scAp.nd rfl (var 2) λH6 s6=>?_)
   refine bone (setE 2 (callE FO hr ((one (var 0)) _ λH7 s7=>⟨a,b,ms,_,rfl,A4.same (s5.trans (s6.trans s7)),(s5.trans (s6.trans s7)) _ _ u4,g2,λH8 A8 u8 kp8=>?_⟩)) scAp.nd)
   refine⟨3*ms.length-sizes (Vbsoae.pass b ms k0),by omega,Vbsoae.pass b ms k0,?_,g2,A8,u8,kp4.trans ((Keep.of (s5.trans (s6.trans s7))).trans kp8),lim_go l4 hlt,rfl⟩
   show [some (V.ref a.po),some (V.int _),some (V.int _)]=_
   congr 2
   congr 1
   congr 1
   omega
  ·have hc:=of_decide_eq_false hc
   have hns:¬sizes k0<sizes (Vbsoae.pass b ms k0):=by omega
   have e:=lim_stop l4 hns
   have sub:=(Kn.good_pass nd g1).2
   have e2:Vbsoae.pass b ms k0=k0:=Kn.sizes_eq g1.ris (Kn.good_pass nd g1).1.ris sub (by have:=Kn.sizes_le g1.ris sub;omega)
   rw[e2,e]at A4
   refine bone (ret (var 1) λH6 s6=>?_)
   rw[e]
   exact kk H6 (A4.same (s5.trans s6)) ((s5.trans s6) _ _ u4) (kp4.trans (Keep.of (s5.trans s6)))
end
open Vbsoaa (Table eff counts)
abbrev sPInit:Stmt:=inClass (top 23) 0
structure UnAt (cs:Cs)(H:Hp)(un:Addr)(ua:Nat->Addr)(men:Men):Prop where
 un:H un=some (.dK (ukv men ua))
 us:∀m∈men,∃o,UnitAt cs.U H (ua m.prov) m o/\H o=some (.tup (given m.order))
 inj:∀m∈men,∀m'∈men,ua m.prov=ua m'.prov->m.prov=m'.prov
section
variable {P:Program}{w:World}{K:Fg}{mg:Str->Option Value}{base:Heap}{cs:Cs}
theorem putNewT {X:Cx}{Z:Sg}{H:Hp}{D:Ends}{pos pos' dpos:Pos}{o:Expr}{x C dx:Addr}{fs:List (Str×V)}{f:Str}(ho:∀H1,Same H H1->Ev X o Z H1 (.ref x))(hx:H x=some (.ins C dx fs))(c:Cls X.K C)(n:NoAttr X.K C f)(hl:fs.length<1000)
  (k:∀(p:Addr) (H':Hp),H p=none->H' x=some (.ins C dx (putF f (.ref p) fs))->H' p=some (.dT [])->Keep [x] H H'->D.nx Z H') (hs:swapsWith (.Dict [] [] dpos) (some (.Attribute o f pos')) pos.line X.env=pure false:=by rfl):tS X (.Assign [.Attribute o f pos'] (.Dict [] [] dpos) pos) D Z H:=by
 refine put newT ho hx c n hl (λv H1 H2 s1 ⟨p,e1,n1,z1⟩ s2=>?_) hs
 subst e1
 have x2:=s2 _ _ (s1 _ _ hx)
 have w2:H2 p=some (.dT []):=s2 _ _ (by rw[z1,upd_same])
 refine k p _ n1 upd_same ?_ λc o n e=>by rw[upd_ne (by simpa using n)];exact s2 _ _ (s1 _ _ e)
 rw[upd_ne (ne_of w2 x2 (λz=>nomatch z))];exact w2
theorem putV {X:Cx}{Z:Sg}{H:Hp}{D:Ends}{pos pos':Pos}{o e:Expr}{x C dx:Addr}{fs:List (Str×V)}{f:Str}{v:V}(he:Ev X e Z H v)(ho:∀H1,Same H H1->Ev X o Z H1 (.ref x))(hx:H x=some (.ins C dx fs))(c:Cls X.K C)(n:NoAttr X.K C f)(hl:fs.length<1000)
  (k:∀H':Hp,H' x=some (.ins C dx (putF f v fs))->Keep [x] H H'->D.nx Z H') (hs:swapsWith e (some (.Attribute o f pos')) pos.line X.env=pure false:=by rfl):tS X (.Assign [.Attribute o f pos'] e pos) D Z H:=by
 refine put (P:=λu _=>u=v) (he.p λ_ _=>rfl) ho hx c n hl (λu H1 H2 s1 e1 s2=>?_) hs
 subst e1
 exact k _ upd_same λc o n e=>by rw[upd_ne (by simpa using n)];exact s2 _ _ (s1 _ _ e)
theorem ukv_eff (t:Table)(ua:Nat->Addr):ukv (eff t) ua=ukv t.men ua:=by
 unfold ukv Vbsoaa.eff Vbsoaa.settled
 rw[List.map_map];rfl
theorem hav_snoc (l:Men)(m:Man)(o:Ok):hav (l++[m]) o=if kof m.order=o then hav l o++[m.prov]else hav l o:=by
 unfold hav
 rw[List.filter_append,List.map_append,List.filter_cons]
 by_cases h:kof m.order=o
 ·rw[if_pos h,if_pos (by simpa using h)];rfl
 ·rw[if_neg h,if_neg (by simpa using h)];simp
structure Tm (o:HO):Prop where
 i:∀C dx,o≠ .ins C dx []
 d:∀kvs,o≠ .dK kvs
 z:∀oo u,o≠ .frz oo u
theorem BoardAt.tm {CB:Addr}{H H':Hp}{a:Ba}{b:Board}(B:BoardAt P w CB H a b)(st:∀c o,Tm o->H c=some o->H' c=some o):BoardAt P w CB H' a b:=by
 obtain⟨⟨dxb,ob⟩,ki,lb,⟨⟨xs,e1,e2,e3⟩,nd,sm,ln⟩⟩:=B
 exact⟨⟨dxb,st _ _ ⟨(λ_ _ z=>nomatch z),(λ_ z=>nomatch z),(λ_ _ z=>nomatch z)⟩ ob⟩,st _ _ ⟨(λ_ _ z=>nomatch z),(λ_ z=>nomatch z),(λ_ _ z=>nomatch z)⟩ ki,st _ _ ⟨(λ_ _ z=>nomatch z),(λ_ z=>nomatch z),(λ_ _ z=>nomatch z)⟩ lb,
  ⟨⟨xs,e1,λy hy=>(e2 y hy).same λc l q=>st _ _ ⟨(λ_ _ z=>nomatch z),(λ_ z=>nomatch z),(λ_ _ z=>nomatch z)⟩ q,st _ _ ⟨(λ_ _ z=>nomatch z),(λ_ z=>nomatch z),(λ_ _ z=>nomatch z)⟩ e3⟩,nd,sm,ln⟩⟩
theorem tm_tup {xs:List V}:Tm (.tup xs):=⟨(λ_ _ z=>nomatch z),(λ_ z=>nomatch z),(λ_ _ z=>nomatch z)⟩
theorem tm_unit {C dx:Addr}{m:Man}{o:Addr}:Tm (.ins C dx (uf m o)):=⟨(λ_ _ z=>by unfold uf at z;cases z),(λ_ z=>nomatch z),(λ_ _ z=>nomatch z)⟩
theorem UnitAt.tm {CU:Addr}{H H':Hp}{a o:Addr}{m:Man}(U:UnitAt CU H a m o)(st:∀c o,Tm o->H c=some o->H' c=some o):UnitAt CU H' a m o:=by
 obtain⟨dx,e⟩:=U
 exact⟨dx,st _ _ tm_unit e⟩
theorem KnownAt.tm {CK:Addr}{H H':Hp}{a:Ka}{k:Known}(A:KnownAt CK H a k)(st:∀c o,Tm o->H c=some o->H' c=some o)(sd:∀d∈a.ds,∀o,H d=some o->H' d=some o):KnownAt CK H' a k:=by
 obtain⟨⟨dxk,ok⟩,k1,k2,k3,k4,k5,k6,knd⟩:=A
 have dk:∀{d l},d∈a.ds->DAt H d l->DAt H' d l:=λ{d l} m ⟨L,e1,e2⟩=>⟨L,sd d m _ e1,e2⟩
 exact⟨⟨dxk,st _ _ ⟨(λ_ _ z=>by unfold kf at z;cases z),(λ_ z=>nomatch z),(λ_ _ z=>nomatch z)⟩ ok⟩,dk (by unfold Ka.ds;simp) k1,dk (by unfold Ka.ds;simp) k2,dk (by unfold Ka.ds;simp) k3,dk (by unfold Ka.ds;simp) k4,dk (by unfold Ka.ds;simp) k5,dk (by unfold Ka.ds;simp) k6,knd⟩
structure PW (cs:Cs)(H0 H':Hp)(x dx bo un kb od by_:Addr)(oa:Nat->Addr)(la:Ok->Addr)(l:Men):Prop where
 o:H' x=some (.ins cs.P dx [("board",.ref bo),("units",.ref un),("known",.ref kb),("orders",.ref od),("by_order",.ref by_)])
 odr:H' od=some (.dK (ukv l oa))
 os:∀m∈l,H' (oa m.prov)=some (.tup ((key (kof m.order)).map kV))
 byr:∃kvs,H' by_=some (.dT kvs)/\kvs.length<=l.length/\∀o:Ok,valV kvs (key o)=if hav l o=[]then none else some (.ref (la o))
 ls:∀o,hav l o≠[]->H' (la o)=some (.lst (nv (hav l o)))/\H0 (la o)=none
 inj:∀o o',hav l o≠[]->hav l o'≠[]->la o=la o'->o=o'
 kp:Keep [x] H0 H'
 fo:H0 od=none
 fb:H0 by_=none
theorem PW.same {H0 H' H'':Hp}{x dx bo un kb od by_:Addr}{oa:Nat->Addr}{la:Ok->Addr}{l:Men}(W:PW cs H0 H' x dx bo un kb od by_ oa la l)(s:Same H' H''):PW cs H0 H'' x dx bo un kb od by_ oa la l:=by
 obtain⟨h1,h2,h3,⟨kvs,h4,h5⟩,h6,h7,h8,h9,h10⟩:=W
 exact⟨s _ _ h1,s _ _ h2,λm hm=>s _ _ (h3 m hm),⟨kvs,s _ _ h4,h5⟩,λo ho=>⟨s _ _ (h6 o ho).1,(h6 o ho).2⟩,h7,h8.trans (Keep.of s),h9,h10⟩
theorem valV_snoc {κ:Type}[DecidableEq κ]{kvs:List (κ×V)}{k k':κ}{v:V}(h:valV kvs k=none):valV (kvs++[(k,v)]) k'=if k'=k then some v else valV kvs k':=by
 induction kvs with
 |nil=>
  by_cases e:k'=k
  ·rw[if_pos e,List.nil_append,valV_pos e.symm]
  ·rw[if_neg e,List.nil_append,valV_neg (λz=>e z.symm)]
 |cons q r ih=>
  have hq:¬q.1=k:=λz=>by rw[valV_pos z]at h;cases h
  rw[valV_neg hq]at h
  by_cases e:q.1=k'
  ·rw[List.cons_append,valV_pos e,valV_pos e,if_neg (λz=>hq (e.trans z))]
  ·rw[List.cons_append,valV_neg e,valV_neg e];exact ih h
theorem ukv_snoc {l:Men}{m:Man}{oa:Nat->Addr}{t:Addr}(hn:∀y∈l,y.prov≠m.prov):putK (ukv l oa) (Sum.inl (m.prov:Int)) (.ref t)=ukv (l++[m]) (λq=>if q=m.prov then t else oa q):=by
 have hnone:valV (ukv l oa) (Sum.inl (m.prov:Int))=none:=by rw[val_ukv,Kn.manAt_none.mpr hn];rfl
 rw[putK_new _ hnone]
 unfold ukv
 rw[List.map_append]
 congr 1
 ·refine List.map_congr_left λy hy=>?_
  show(_,V.ref (oa y.prov))=(_,V.ref (if y.prov=m.prov then t else oa y.prov))
  rw[if_neg (hn y hy)]
 ·show [(_,V.ref t)]=[(_,V.ref (if m.prov=m.prov then t else oa m.prov))]
  rw[if_pos rfl]
def spPInit (P:Program)(w:World)(cs:Cs):Sp:=λvs H Q _=>∃(x dx:Addr) (ba:Ba) (un:Addr) (ua:Nat->Addr) (ka:Ka) (t:Table) (k:Known),vs=[.ref x,.ref ba.bo,.ref un,.ref ka.ob]/\H x=some (.ins cs.P dx [])/\BoardAt P w cs.B H ba t.board/\UnAt cs H un ua t.men/\KnownAt cs.K H ka k/\Kn.WT t/\un∉ka.ds/\
 ∀(H':Hp) (a:Pa),a.po=x->a.b=ba->a.un=un->a.ua=ua->a.k=ka->PosAt P w cs H' a t.board (eff t) k->H' un=some (.dK (ukv t.men ua))->Keep [x] H H'->Q .non H'
theorem scPInit:FnScope ["self","board","units","known","p","unit","order"] ["self","board","units","known"] (defScope sPInit):=fs
theorem ok_PInit {f:Addr}{fd:FuncData}(F:Fun K "__init__" "Position.__init__" sPInit f fd)(T:Tx K mg cs)(FO:Fn P w K mg base 6 "order_as_it_counts" ["board","unit"] (spp (rOaic P w cs))):FnOk P w K mg base CX0 7 f fd ["self","board","units","known"] (spPInit P w cs):=by
 refine def_ F scPInit (λvs H Q E h=>?_) (λcdv A outer s H vs Q E hr h=>?_)
 ·obtain⟨_,_,_,_,_,_,_,_,rfl,_⟩:=h;rfl
 ·obtain⟨x,dx,ba,un,ua,ka,t,k,rfl,hx,B,U,KA,wt,nds,kk⟩:=h
  have hu:=hu_of hr
  refine bcons (putV (var 1) (λ_ _=>var 0) hx T.clP T.pBoa (lt1000 rfl) λG1 g1 k1=>?_)
  refine bcons (putV (var 2) (λ_ _=>var 0) g1 T.clP T.pUni (lt1000 rfl) λG2 g2 k2=>?_)
  refine bcons (putV (var 3) (λ_ _=>var 0) g2 T.clP T.pKno (lt1000 rfl) λG3 g3 k3=>?_)
  refine bcons (putNewK (λ_ _=>var 0) g3 T.clP T.pOrd (lt1000 rfl) λod G4 n4 g4 d4 k4=>?_)
  refine bcons (putNewT (λ_ _=>var 0) g4 T.clP T.pByo (lt1000 rfl) λby_ G5 n5 g5 d5 k5=>?_)
  have k15:Keep [x] H G5:=k1.trans (k2.trans (k3.trans (k4.trans k5)))
  have nx:∀{c o},H c=some o->(∀fs,o≠ .ins cs.P dx fs)->c∉[x]:=λe d m=>by rw[List.mem_singleton.mp m,hx]at e;exact d _ (Option.some.inj e).symm
  have fo:H od=none:=k1.free hx (k2.free g1 (k3.free g2 n4 ⟨_,g3⟩) ⟨_,g2⟩) ⟨_,g1⟩
  have fb:H by_=none:=k1.free hx (k2.free g1 (k3.free g2 (k4.free g3 n5 ⟨_,g4⟩) ⟨_,g3⟩) ⟨_,g2⟩) ⟨_,g1⟩
  have d4':G5 od=some (.dK []):=k5 _ _ (λm=>by rw[List.mem_singleton.mp m,g4]at d4;cases d4) d4
  have hun5:G5 un=some (.dK (ukv t.men ua)):=k15 _ _ (nx U.un (λ_ z=>nomatch z)) U.un
  have unx:un≠x:=λz=>by have:=U.un;rw[z,hx]at this;cases this
  have odn:od≠un:=λz=>by rw[z,U.un]at fo;cases fo
  have byn:by_≠un:=λz=>by rw[z,U.un]at fb;cases fb
  have obn:od≠by_:=λz=>by rw[z]at d4';rw[d5]at d4';cases d4'
  have lenE:(eff t).length=t.men.length:=by unfold Vbsoaa.eff Vbsoaa.settled;rw[List.length_map]
  refine bone (forItems 4 5 scPInit.nd hun5 (λodj=>var 2) λodj G6 s6=>?_)
  generalize hH0:upd H un (.frz odj (.dK (ukv t.men ua)))=H0
  have u0:H0 un=some (.frz odj (.dK (ukv t.men ua))):=by rw[<-hH0,upd_same]
  have h0:∀{c o},c≠un->H c=some o->H0 c=some o:=λn e=>by rw[<-hH0,upd_ne n];exact e
  have x0:H0 x=some (.ins cs.P dx []):=h0 (Ne.symm unx) hx
  have st0:∀c o,Tm o->H c=some o->H0 c=some o:=λc o tm e=>h0 (λz=>by rw[z,U.un]at e;exact tm.d _ (Option.some.inj e).symm) e
  have stx:∀{H2:Hp},Keep [x] H0 H2->∀c o,Tm o->H0 c=some o->H2 c=some o:=λkp c o tm e=>kp c o (λm=>by rw[List.mem_singleton.mp m,x0]at e;exact tm.i _ _ (Option.some.inj e).symm) e
  have B0:=B.tm st0
  have U0:∀m∈t.men,∃o,UnitAt cs.U H0 (ua m.prov) m o/\H0 o=some (.tup (given m.order)):=λm hm=>by
   obtain⟨o,h1,h2⟩:=U.us m hm
   exact⟨o,h1.tm st0,st0 _ _ tm_tup h2⟩
  have K0:KnownAt cs.K H0 ka k:=KA.tm st0 λd hd o e=>h0 (λz=>nds (z▸hd)) e
  have fo0:H0 od=none:=by rw[<-hH0,upd_ne odn];exact fo
  have fb0:H0 by_=none:=by rw[<-hH0,upd_ne byn];exact fb
  refine⟨λi Z H'=>i<=t.men.length/\∃v4 v5 v6 oa la,Z=[some (.ref x),some (.ref ba.bo),some (.ref un),some (.ref ka.ob),v4,v5,v6]/\PW cs H0 H' x dx ba.bo un ka.ob od by_ oa la ((eff t).take i),⟨Nat.zero_le _,none,none,none,λ_=>0,λ_=>0,rfl,?_⟩,λi Z H' ⟨_,_,_,_,_,_,_,W⟩=>W.kp _ _ (by simpa using unx) u0,?_,?_⟩
  ·have g5':G5 x=some (.ins cs.P dx [("board",.ref ba.bo),("units",.ref un),("known",.ref ka.ob),("orders",.ref od),("by_order",.ref by_)]):=g5
   refine⟨s6 _ _ (by rw[upd_ne (Ne.symm unx)];exact g5'),s6 _ _ (by rw[upd_ne odn];exact d4'),(λm hm=>nomatch hm),⟨[],s6 _ _ (by rw[upd_ne byn];exact d5),Nat.zero_le _,λo=>?_⟩,λo ho=>absurd rfl ho,λo o' ho=>absurd rfl ho,λc o n e=>?_,fo0,fb0⟩
   ·rw[if_pos (show hav ((eff t).take 0) o=[]from rfl)];rfl
   ·refine s6 _ _ ?_
    by_cases hc:c=un
    ·rw[hc,u0]at e
     rw[hc,upd_same];exact e
    ·rw[<-hH0,upd_ne hc]at e
     rw[upd_ne hc];exact k15 _ _ n e
  ·rintro i ⟨pk,pv⟩ Z H' tt hp ⟨hi,v4,v5,v6,oa,la,rfl,W⟩ htt
   obtain⟨m,hm,rfl⟩:=ukv_get hp
   have hpv:pv=.ref (ua m.prov):=by
    unfold ukv at hp
    rw[List.getElem?_map,hm]at hp
    exact(congrArg Prod.snd (Option.some.inj hp)).symm
   subst hpv
   have hlt:i<t.men.length:=(List.getElem?_eq_some_iff.mp hm).1
   have hmm:m∈t.men:=List.mem_of_getElem? hm
   generalize hemd:({m with order:=counts t.board m}:Man)=em
   have eprov:em.prov=m.prov:=by rw[<-hemd]
   have hem:(eff t)[i]?=some em:=by unfold Vbsoaa.eff Vbsoaa.settled;rw[List.getElem?_map,hm,<-hemd];rfl
   have ekey:kof em.order=Vw.cnt t.board m:=by rw[<-hemd];exact Vw.cnt_eq wt hmm
   have hnew:∀y∈(eff t).take i,y.prov≠em.prov:=λy hy e=>by
    have nd:=Kn.settled_nd wt.md
    obtain⟨j,hj,e'⟩:=List.getElem_of_mem hy
    rw[List.length_take]at hj
    rw[List.getElem_take]at e'
    have h1:((eff t).map (·.prov))[j]?=some em.prov:=by rw[List.getElem?_map,List.getElem?_eq_getElem (by omega),e',Option.map_some,e]
    have h2:((eff t).map (·.prov))[i]?=some em.prov:=by rw[List.getElem?_map,hem];rfl
    have:=(List.getElem?_inj (List.getElem?_eq_some_iff.mp h1).1 nd).mp (h1.trans h2.symm)
    omega
   have etake:(eff t).take (i+1)=(eff t).take i++[em]:=take_snoc' hem
   have lent:((eff t).take i).length<=24:=by rw[List.length_take,lenE];have:=wt.mn;omega
   have sT:Same H' (upd H' tt (.tup [kV (Sum.inl (m.prov:Int)),.ref (ua m.prov)])):=λc o e=>by rw[upd_ne (ne_of_none e htt)];exact e
   have W1:=W.same sT
   generalize upd H' tt (.tup [kV (Sum.inl (m.prov:Int)),.ref (ua m.prov)])=H1 at W1⊢
   show Vm.tB _ _ _ [some (.ref x),some (.ref ba.bo),some (.ref un),some (.ref ka.ob),some (.int m.prov),some (.ref (ua m.prov)),v6] H1
   obtain⟨o,hU,hO⟩:=U0 m hmm
   refine bcons (setP 6 scPInit.nd (callPU (P:=λv H'=>∃t',v=.ref t'/\H' t'=some (.tup ((key (kof em.order)).map kV))) FO hr (cons (var 1) λ_ _=>one (var 5)) λH2 s2=>⟨_,⟨ba,t.board,ua m.prov,o,m,rfl,(B0.tm (stx W1.kp)).same s2,?_,wt.me m hmm,s2 _ _ (stx W1.kp _ _ tm_tup hO),rfl⟩,λv H3 s3 ⟨t',e1,e2⟩=>⟨t',e1,by rw[ekey];exact e2⟩⟩) λv H2 s2 ⟨t',ev,ht'⟩=>?_)
   ·obtain⟨dxu,e⟩:=hU.tm (stx W1.kp)
    exact⟨dxu,s2 _ _ e⟩
   subst ev
   have W2:=W1.same s2
   obtain⟨hx2,hod2,hos2,⟨kvs,hby2,hlk,hval⟩,hls2,hinj2,hkp2,_,_⟩:=W2
   refine bcons (dput (a:=od) (Pk:=λy _=>y=.int m.prov) hu (var 6) (λH3 s3=>fld (var 0) (s3 _ _ hx2) T.clP T.pOrd rfl) (λH3 s3=>Ev.p (var 4) λ_ _=>rfl) λH3 y s3 hy=>?_)
   subst hy
   refine⟨_,DPut.k (k:=Sum.inl (m.prov:Int)) (s3 _ _ hod2) (by unfold ukv;rw[List.length_map];exact small1000 (by omega)),?_⟩
   have eput:putK (ukv ((eff t).take i) oa) (Sum.inl (m.prov:Int)) (.ref t')=ukv ((eff t).take (i+1)) (λq=>if q=em.prov then t' else oa q):=by
    rw[etake,<-ukv_snoc hnew,eprov]
   rw[eput]
   generalize hH4:upd H3 od (.dK (ukv ((eff t).take (i+1)) (λq=>if q=em.prov then t' else oa q)))=H4
   have s4:∀{c o},(∀kvs,o≠ .dK kvs)->H2 c=some o->H4 c=some o:=λ{c o} d e=>by rw[<-hH4,upd_ne (ne_of (s3 _ _ e) (s3 _ _ hod2) (d _))];exact s3 _ _ e
   have od4:H4 od=some (.dK (ukv ((eff t).take (i+1)) (λq=>if q=em.prov then t' else oa q))):=by rw[<-hH4,upd_same]
   have s4':∀{c o},H2 c=some o->(∀kvs,o≠ .dK kvs)->H4 c=some o:=λe d=>s4 d e
   have x4:=s4' hx2 (λ_ z=>nomatch z)
   have t4:=s4' ht' (λ_ z=>nomatch z)
   have by4:=s4' hby2 (λ_ z=>nomatch z)
   have kp4:Keep [x] H0 H4:=λc o n e=>by
    rw[<-hH4,upd_ne (λz=>by rw[z,fo0]at e;cases e)]
    exact s3 _ _ (hkp2 c o n e)
   have os4:∀y∈(eff t).take (i+1),H4 ((λq=>if q=em.prov then t' else oa q) y.prov)=some (.tup ((key (kof y.order)).map kV)):=λy hy=>by
    rw[etake]at hy
    rcases List.mem_append.mp hy with h|h
    ·show H4 (if y.prov=em.prov then t' else oa y.prov)=_
     rw[if_neg (hnew y h)]
     exact s4 (λ_ z=>nomatch z) (hos2 y h)
    ·rw[List.mem_singleton.mp h]
     show H4 (if em.prov=em.prov then t' else oa em.prov)=_
     rw[if_pos rfl];exact t4
   have ls4:∀o,hav ((eff t).take i) o≠[]->H4 (la o)=some (.lst (nv (hav ((eff t).take i) o))):=λo ho=>s4 (λ_ z=>nomatch z) (hls2 o ho).1
   have hsn:∀o,hav ((eff t).take (i+1)) o=if kof em.order=o then hav ((eff t).take i) o++[em.prov]else hav ((eff t).take i) o:=λo=>by rw[etake];exact hav_snoc _ _ _
   have nvs:∀l:List Nat,nv l++[V.int (m.prov:Nat)]=nv (l++[em.prov]):=λl=>by unfold nv;rw[List.map_append,eprov];rfl
   refine bone (drop (setdAppend (v:=.int m.prov) (k:=key (kof em.order)) hu (fld (var 0) x4 T.clP T.pByo rfl) by4 (λ_ _=>var 6) t4 (by omega) (λ_ _=>var 4) (λl xs hv hl=>?_) (λu hv=>?_) (λhn l H5 nl k5 b5 l5=>?_) ⟨rfl,rfl,rfl,rfl⟩))
   · --there is a list already
    rw[hval]at hv
    by_cases hh:hav ((eff t).take i) (kof em.order)=[]
    ·rw[if_pos hh]at hv;cases hv
    ·rw[if_neg hh]at hv
     have el:l=la (kof em.order):=by injection hv with hv;injection hv with hv;exact hv.symm
     subst el
     have e2:=ls4 _ hh
     rw[hl]at e2
     have exs:xs=nv (hav ((eff t).take i) (kof em.order)):=by injection e2 with e2;injection e2
     subst exs
     have hlen:(hav ((eff t).take i) (kof em.order)).length<=24:=by unfold hav;rw[List.length_map];exact Nat.le_trans (List.length_filter_le _ _) lent
     refine⟨by rw[nv_len];omega,λH5 s5=>⟨hlt,_,_,_,(λq=>if q=em.prov then t' else oa q),la,rfl,?_⟩⟩
     have k6:∀{c o},(∀l,o≠ .lst l)->H4 c=some o->upd H5 (la (kof em.order)) (.lst (nv (hav ((eff t).take i) (kof em.order))++[.int m.prov])) c=some o:=λ{c o} d e=>by rw[upd_ne (ne_of (s5 _ _ e) (s5 _ _ hl) (d _))];exact s5 _ _ e
     refine⟨k6 (λ_ z=>nomatch z) x4,k6 (λ_ z=>nomatch z) od4,λy hy=>k6 (λ_ z=>nomatch z) (os4 y hy),⟨kvs,k6 (λ_ z=>nomatch z) by4,?_,λo=>?_⟩,λo ho=>?_,λo o' ho ho' e=>?_,λc o n e=>?_,fo0,fb0⟩
     ·rw[etake,List.length_append];exact Nat.le_trans hlk (Nat.le_add_right _ _)
     ·rw[hval,hsn]
      by_cases c:kof em.order=o
      ·rw[if_pos c,<-c,if_neg hh,if_neg (by simp)]
      ·rw[if_neg c]
     ·rw[hsn]at ho⊢
      by_cases c:kof em.order=o
      ·rw[if_pos c,<-c]
       refine⟨?_,(hls2 _ hh).2⟩
       rw[upd_same,nvs]
      ·rw[if_neg c]at ho⊢
       refine⟨?_,(hls2 o ho).2⟩
       rw[upd_ne (λz=>c (hinj2 _ _ hh ho z.symm))]
       exact s5 _ _ (ls4 o ho)
     ·rw[hsn]at ho ho'
      refine hinj2 o o' ?_ ?_ e
      ·intro z;rw[z]at ho
       by_cases c:kof em.order=o
       ·rw[c]at hh;exact hh z
       ·rw[if_neg c]at ho;exact ho rfl
      ·intro z;rw[z]at ho'
       by_cases c:kof em.order=o'
       ·rw[c]at hh;exact hh z
       ·rw[if_neg c]at ho';exact ho' rfl
     ·rw[upd_ne (λz=>by rw[z,(hls2 _ hh).2]at e;cases e)]
      exact s5 _ _ (kp4 c o n e)
   ·rw[hval]at hv
    by_cases hh:hav ((eff t).take i) (kof em.order)=[]
    ·rw[if_pos hh]at hv;cases hv
    ·rw[if_neg hh]at hv
     exact⟨_,_,(Option.some.inj hv).symm,ls4 _ hh⟩
   · --a new list
    have hh:hav ((eff t).take i) (kof em.order)=[]:=by
     rw[hval]at hn
     by_cases hh:hav ((eff t).take i) (kof em.order)=[]
     ·exact hh
     ·rw[if_neg hh]at hn;cases hn
    have k6:∀{c o},(∀kvs,o≠ .dT kvs)->H4 c=some o->H5 c=some o:=λ{c o} d e=>k5 _ _ (ne_of e by4 (d _)) e
    have fl0:H0 l=none:=by
     cases q:H0 l with
     |none=>rfl
     |some o=>
      by_cases hlx:l=x
      ·rw[hlx,x4]at nl;cases nl
      ·rw[kp4 l o (by simpa using hlx) q]at nl;cases nl
    refine⟨hlt,_,_,_,(λq=>if q=em.prov then t' else oa q),λo=>if o=kof em.order then l else la o,rfl,?_⟩
    have nel:∀o,hav ((eff t).take i) o≠[]->la o≠l:=λo ho z=>by have:=ls4 o ho;rw[z,nl]at this;cases this
    refine⟨k6 (λ_ z=>nomatch z) x4,k6 (λ_ z=>nomatch z) od4,λy hy=>k6 (λ_ z=>nomatch z) (os4 y hy),⟨_,b5,?_,λo=>?_⟩,λo ho=>?_,λo o' ho ho' e=>?_,λc o n e=>?_,fo0,fb0⟩
    ·rw[etake,List.length_append,List.length_append];exact Nat.add_le_add_right hlk 1
    ·rw[valV_snoc hn,hsn]
     by_cases c:o=kof em.order
     ·subst c
      rw[if_pos rfl,if_pos rfl,if_neg (by simp),if_pos rfl]
     ·rw[if_neg (λz=>c (key_inj z)),hval]
      have e1:(if kof em.order=o then hav ((eff t).take i) o++[em.prov]else hav ((eff t).take i) o)=hav ((eff t).take i) o:=if_neg (λz=>c z.symm)
      have e2:(if o=kof em.order then l else la o)=la o:=if_neg c
      rw[e1,e2]
    ·rw[hsn]at ho⊢
     by_cases c:o=kof em.order
     ·subst c
      rw[if_pos rfl,if_pos rfl,hh]
      refine⟨?_,fl0⟩
      rw[l5,<-nvs];rfl
     ·have e1:(if kof em.order=o then hav ((eff t).take i) o++[em.prov]else hav ((eff t).take i) o)=hav ((eff t).take i) o:=if_neg (λz=>c z.symm)
      rw[e1]at ho⊢
      rw[if_neg c]
      exact⟨k6 (λ_ z=>nomatch z) (ls4 o ho),(hls2 o ho).2⟩
    ·rw[hsn]at ho ho'
     by_cases c:o=kof em.order
     ·by_cases c':o'=kof em.order
      ·rw[c,c']
      ·rw[if_neg (λz=>c' z.symm)]at ho'
       have e:(if o=kof em.order then l else la o)=(if o'=kof em.order then l else la o'):=e
       rw[if_pos c,if_neg c']at e
       exact absurd e.symm (nel o' ho')
     ·rw[if_neg (λz=>c z.symm)]at ho
      by_cases c':o'=kof em.order
      ·have e:(if o=kof em.order then l else la o)=(if o'=kof em.order then l else la o'):=e
       rw[if_neg c,if_pos c']at e
       exact absurd e (nel o ho)
      ·rw[if_neg (λz=>c' z.symm)]at ho'
       have e:(if o=kof em.order then l else la o)=(if o'=kof em.order then l else la o'):=e
       rw[if_neg c,if_neg c']at e
       exact hinj2 o o' ho ho' e
    ·exact k5 _ _ (λz=>by rw[z,fb0]at e;cases e) (kp4 c o n e)
  ·rintro Z H' ⟨hi,v4,v5,v6,oa,la,rfl,W⟩
   have lenU:(ukv t.men ua).length=t.men.length:=List.length_map ..
   rw[lenU,<-lenE,List.take_length]at W
   obtain⟨hx2,hod2,hos2,⟨kvs,hby2,hlk,hval⟩,hls2,hinj2,hkp2,_,_⟩:=W
   have un':H' un=some (.frz odj (.dK (ukv t.men ua))):=hkp2 _ _ (by simpa using unx) u0
   have stf:∀c o,Tm o->H0 c=some o->upd H' un (.dK (ukv t.men ua)) c=some o:=λc o tm e=>by
    rw[upd_ne (λz=>by rw[z,u0]at e;exact tm.z _ _ (Option.some.inj e).symm)]
    exact stx hkp2 c o tm e
   have nf:∀{c o},(∀oo u,o≠ .frz oo u)->H' c=some o->upd H' un (.dK (ukv t.men ua)) c=some o:=λ{c o} d e=>by
    rw[upd_ne (ne_of e un' (d _ _))];exact e
   refine kk _ ⟨x,ba,un,ua,ka,od,oa,by_,la⟩ rfl rfl rfl rfl rfl ⟨⟨dx,nf (λ_ _ z=>nomatch z) hx2⟩,B0.tm stf,.inl (by rw[ukv_eff,upd_same]),λm hm=>?_,K0.tm stf λd hd o e=>?_,nf (λ_ _ z=>nomatch z) hod2,λm hm=>nf (λ_ _ z=>nomatch z) (hos2 m hm),⟨kvs,nf (λ_ _ z=>nomatch z) hby2,hval⟩,λo ho=>nf (λ_ _ z=>nomatch z) (hls2 o ho).1,Kn.settled_nd wt.md,by rw[lenE];exact wt.mn,λm hm=>?_,λd hd=>⟨λz=>nds (by have z:d=un:=z;rw[<-z];exact hd),λz=>?_⟩,odn⟩ upd_same ?_
   ·unfold Vbsoaa.eff Vbsoaa.settled at hm
    obtain⟨m',hm',rfl⟩:=List.mem_map.mp hm
    obtain⟨o,h1,_⟩:=U0 m' hm'
    exact⟨o,h1.tm stf⟩
   ·have hdx:d≠un:=λz=>nds (z▸hd)
    have hdd:d∉[x]:=λz=>by
     have z:=List.mem_singleton.mp z
     rw[z,x0]at e
     have hdk:∃kvs,H0 d=some (.dK kvs):=by
      have hd':d∈[ka.go,ka.fa,ka.wa,ka.no,ka.cu,ka.uc]:=hd
      simp only[List.mem_cons,List.not_mem_nil,or_false]at hd'
      rcases hd' with q|q|q|q|q|q
      ·obtain⟨L,h,_⟩:=K0.go;exact⟨_,q▸h⟩
      ·obtain⟨L,h,_⟩:=K0.fa;exact⟨_,q▸h⟩
      ·obtain⟨L,h,_⟩:=K0.wa;exact⟨_,q▸h⟩
      ·obtain⟨L,h,_⟩:=K0.no;exact⟨_,q▸h⟩
      ·obtain⟨L,h,_⟩:=K0.cu;exact⟨_,q▸h⟩
      ·obtain⟨L,h,_⟩:=K0.uc;exact⟨_,q▸h⟩
     obtain⟨kvs,hk⟩:=hdk
     rw[z,x0]at hk;cases hk
    rw[upd_ne hdx]
    exact hkp2 _ _ hdd e
   ·unfold Vbsoaa.eff Vbsoaa.settled at hm
    obtain⟨m',hm',rfl⟩:=List.mem_map.mp hm
    exact(wt.me m' hm').sh
   ·have hd':d∈[ka.go,ka.fa,ka.wa,ka.no,ka.cu,ka.uc]:=hd
    have hdk:∃kvs,H0 d=some (.dK kvs):=by
     simp only[List.mem_cons,List.not_mem_nil,or_false]at hd'
     rcases hd' with q|q|q|q|q|q
     ·obtain⟨L,h,_⟩:=K0.go;exact⟨_,q▸h⟩
     ·obtain⟨L,h,_⟩:=K0.fa;exact⟨_,q▸h⟩
     ·obtain⟨L,h,_⟩:=K0.wa;exact⟨_,q▸h⟩
     ·obtain⟨L,h,_⟩:=K0.no;exact⟨_,q▸h⟩
     ·obtain⟨L,h,_⟩:=K0.cu;exact⟨_,q▸h⟩
     ·obtain⟨L,h,_⟩:=K0.uc;exact⟨_,q▸h⟩
    obtain⟨kvs,hk⟩:=hdk
    have z:d=od:=z
    rw[z,fo0]at hk;cases hk
   ·intro c o n e
    by_cases hc:c=un
    ·rw[hc]at e⊢
     rw[upd_same,<-U.un];exact e
    ·rw[upd_ne hc]
     exact hkp2 c o n (h0 hc e)
end
end OK
namespace Vm
open PySem PySem.Spec PyProof.Rows L2 RR
section
variable {X:Cx}{Z:Sg}{H:Hp}{pos p:Pos}{es:List Expr}{e:Expr}{x:Str}
structure Ck (P:Program)(w:World)(K:Fg)(mg:Str->Option Value)(base:Heap)(k:Nat)(C:Addr)(x:Str)(ps:List Str)(sp:Sp):Prop where
 ex:∃f fd,mg x=some (.ref C)/\Mk K C f/\FnOk P w K mg base CX0 k f fd ps sp/\Binds K fd ps []
theorem make0 {k n:Nat}{C:Addr}{ps:List Str}{sp:Sp}{Q:VK}(G:Ck X.prog X.w X.K X.mg X.base k C x ps sp)(hr:Room n X.A)(h:∀o dx,H o=none->H dx=none->dx≠o->sp [.ref o] (upd (upd H dx (.own o)) o (.ins C dx [])) (λv H2=>v=.non/\Q (.ref o) H2) E0)(hn:k+1<=n:=by decide)(hg:Gl X x:=by rfl)(hdb:(x==("__debug__":Str))=false:=by decide):tE X (.Call (.Name x p) [] [] pos) Z H Q:=by
 obtain⟨f,fd,hm,M,F,b⟩:=G.ex
 exact goE (pe_make0 (dvs:=[]) (ds:=[]) (E:=E0) M F (hr.mono hn) hg hm b .nil pass0 hdb) (λo dx h1 h2 h3=>h o dx h1 h2 h3)
theorem makeE {k n:Nat}{C:Addr}{ps:List Str}{sp:Sp}{Q:VK}(G:Ck X.prog X.w X.K X.mg X.base k C x ps sp)(hr:Room n X.A)(h:tA X (e::es) Z H λvs H1=>∀o dx,H1 o=none->H1 dx=none->dx≠o->sp (.ref o::vs) (upd (upd H1 dx (.own o)) o (.ins C dx [])) (λv H2=>v=.non/\Q (.ref o) H2) E0)(hn:k+1<=n:=by decide)(hg:Gl X x:=by rfl)(hdb:(x==("__debug__":Str))=false:=by decide)
  (he:starEach (e::es) X.env=(false,eval e X.env)::starEach es X.env:=by rfl) (hpl:(backTo pos (starEach es X.env)).any (·.1)=false:=by rfl):tE X (.Call (.Name x p) (e::es) [] pos) Z H Q:=by
 obtain⟨f,fd,hm,M,F,b⟩:=G.ex
 refine goE (pe_make (dvs:=[]) (ds:=[]) (E:=E0) M F (hr.mono hn) hg hm b .nil pass0 (okA (e::es)) hdb he hpl) (λpos pins s I=>thn (h pos pins s I) λus s' ⟨vs,H',I',r,q⟩=>⟨vs,H',I',r,λo dx h1 h2 h3=>?_⟩)
 show sp (.ref o::(vs++[])) _ _ E0
 rw[List.append_nil];exact q o dx h1 h2 h3
theorem lstE {Q:VK}(h:tA X es Z H λvs H1=>vs.length<=1000/\∀p,H1 p=none->Q (.ref p) (upd H1 p (.lst vs))):tE X (.List es pos) Z H Q:=goE (pe_lst (okA es)) (λpos pins s I=>thn (h pos pins s I) λus s' ⟨vs,H',I',r,q1,q2⟩=>⟨vs,H',I',r,Nat.le_of_lt (small1000 q1),q2⟩)
theorem consE {Q:List V->Hp->Prop}(h:tE X e Z H λv H1=>tA X es Z H1 λvs H2=>Q (v::vs) H2)(hs:starEach (e::es) X.env=(false,eval e X.env)::starEach es X.env:=by rfl):tA X (e::es) Z H Q:=goA (pa_cons (okE e) (okA es) hs) h
theorem nilE {Q:List V->Hp->Prop}(h:Q [] H):tA X [] Z H Q:=goA pa_nil h
end
end Vm
namespace OK
open PySem PySem.Spec PyProof.Rows L2 RR Vm Lk
open Vw (Ok kof hav minto Kl mvs rch)
open Vbsoaa (Men Man manAt goal byWater Board putIn Table eff counts linked place kind Order)
open Vbsoae (Known sizes learn)
structure Ta where
 tb:Addr
 b:Ba
 un:Addr
 ua:Nat->Addr
 k:Ka
def tf (a:Ta):List (Str×V):=[("board",.ref a.b.bo),("units",.ref a.un),("known",.ref a.k.ob)]
structure TabAt (P:Program)(w:World)(cs:Cs)(H:Hp)(a:Ta)(t:Table)(k:Known):Prop where
 o:∃dx,H a.tb=some (.ins cs.T dx (tf a))
 b:BoardAt P w cs.B H a.b t.board
 u:UnAt cs H a.un a.ua t.men
 k:KnownAt cs.K H a.k k
 nd:a.un∉a.k.ds
def LsO (o:HO):Prop:=∃xs,o=.lst xs\/∃oo,o=.frz oo (.lst xs)
def LK (a:Ta)(H H':Hp):Prop:=∀c o,LsO o->c≠a.b.ki->H c=some o->H' c=some o
section
variable {P:Program}{w:World}{K:Fg}{mg:Str->Option Value}{base:Heap}{cs:Cs}
section
variable {H H' H'':Hp}{a a':Ta}{t t':Table}{k k':Known}
theorem LK.of (s:Same H H'):LK a H H':=λc o _ _ e=>s c o e
theorem LK.trans (h1:LK a H H')(h2:LK a H' H''):LK a H H'':=λc o l n e=>h2 c o l n (h1 c o l n e)
theorem LK.keep {ws:List Addr}(kp:Keep ws H H')(hw:∀c∈ws,c≠a.b.ki->∀o,H c=some o->¬LsO o):LK a H H':=λc o l n e=>kp c o (λm=>hw c m n o e l) e
theorem UnAt.same {un:Addr}{ua:Nat->Addr}{men:Men}(U:UnAt cs H un ua men)(s:Same H H'):UnAt cs H' un ua men:=by
 refine⟨s _ _ U.un,λm hm=>?_,U.inj⟩
 obtain⟨o,⟨dx,h1⟩,h2⟩:=U.us m hm
 exact⟨o,⟨dx,s _ _ h1⟩,s _ _ h2⟩
theorem TabAt.same (A:TabAt P w cs H a t k)(s:Same H H'):TabAt P w cs H' a t k:=by
 obtain⟨⟨dx,o⟩,h1,h2,h3,h4⟩:=A
 exact⟨⟨dx,s _ _ o⟩,h1.same s,h2.same s,h3.same s,h4⟩
theorem KnownAt.isD {C:Addr}{a:Ka}(A:KnownAt C H a k){d:Addr}(hd:d∈a.ds):∃kvs,H d=some (.dK kvs):=by
 have hd:d∈[a.go,a.fa,a.wa,a.no,a.cu,a.uc]:=hd
 simp only[List.mem_cons,List.not_mem_nil,or_false]at hd
 rcases hd with rfl|rfl|rfl|rfl|rfl|rfl
 ·obtain⟨L,h,_⟩:=A.go;exact⟨_,h⟩
 ·obtain⟨L,h,_⟩:=A.fa;exact⟨_,h⟩
 ·obtain⟨L,h,_⟩:=A.wa;exact⟨_,h⟩
 ·obtain⟨L,h,_⟩:=A.no;exact⟨_,h⟩
 ·obtain⟨L,h,_⟩:=A.cu;exact⟨_,h⟩
 ·obtain⟨L,h,_⟩:=A.uc;exact⟨_,h⟩
structure Nb (o:HO):Prop where
 l:∀xs,o≠ .lst xs
 d:∀kvs,o≠ .dT kvs
 e:∀f,o≠ .ext f
theorem UnAt.st {un:Addr}{ua:Nat->Addr}{men:Men}(U:UnAt cs H un ua men)(s:∀c o,Nb o->H c=some o->H' c=some o):UnAt cs H' un ua men:=by
 refine⟨s _ _ ⟨(λ_ z=>nomatch z),(λ_ z=>nomatch z),(λ_ z=>nomatch z)⟩ U.un,λm hm=>?_,U.inj⟩
 obtain⟨o,⟨dx,h1⟩,h2⟩:=U.us m hm
 exact⟨o,⟨dx,s _ _ ⟨(λ_ z=>nomatch z),(λ_ z=>nomatch z),(λ_ z=>nomatch z)⟩ h1⟩,s _ _ ⟨(λ_ z=>nomatch z),(λ_ z=>nomatch z),(λ_ z=>nomatch z)⟩ h2⟩
theorem KnownAt.st {C:Addr}{a:Ka}(A:KnownAt C H a k)(s:∀c o,Nb o->H c=some o->H' c=some o):KnownAt C H' a k:=by
 obtain⟨⟨dxk,ok⟩,k1,k2,k3,k4,k5,k6,knd⟩:=A
 have dk:∀{d l},DAt H d l->DAt H' d l:=λ{d l} ⟨L,e1,e2⟩=>⟨L,s _ _ ⟨(λ_ z=>nomatch z),(λ_ z=>nomatch z),(λ_ z=>nomatch z)⟩ e1,e2⟩
 exact⟨⟨dxk,s _ _ ⟨(λ_ z=>nomatch z),(λ_ z=>nomatch z),(λ_ z=>nomatch z)⟩ ok⟩,dk k1,dk k2,dk k3,dk k4,dk k5,dk k6,knd⟩
theorem TabAt.brd (A:TabAt P w cs H a t k){b':Board}{c:Addr}{u:HO}(hb:BoardAt P w cs.B H' a.b b')(kp:Keep [c] H H')(hc:H c=some u)(nu:¬Nb u):TabAt P w cs H' a {t with board:=b'} k:=by
 have s:∀d o,Nb o->H d=some o->H' d=some o:=λd o nb e=>kp d o (λm=>by rw[List.mem_singleton.mp m,hc]at e;exact nu (Option.some.inj e▸nb)) e
 obtain⟨⟨dx,o⟩,h1,h2,h3,h4⟩:=A
 exact⟨⟨dx,s _ _ ⟨(λ_ z=>nomatch z),(λ_ z=>nomatch z),(λ_ z=>nomatch z)⟩ o⟩,hb,h2.st s,h3.st s,h4⟩
theorem TabAt.upk (A:TabAt P w cs H a t k)(hK:KnownAt cs.K H' a.k k')(kp:Keep a.k.ds H H'):TabAt P w cs H' a t k':=by
 have isD:=λd hd=>A.k.isD (d:=d) hd
 have st:∀c o,(∀kvs,o≠ .dK kvs)->H c=some o->H' c=some o:=λc o d e=>kp c o (λm=>by obtain⟨kvs,z⟩:=isD c m;rw[e]at z;exact d kvs (Option.some.inj z)) e
 obtain⟨⟨dx,o⟩,h1,h2,h3,h4⟩:=A
 refine⟨⟨dx,st _ _ (λ_ z=>nomatch z) o⟩,h1.tm λc o tm e=>st c o tm.d e,⟨kp _ _ h4 h2.un,λm hm=>?_,h2.inj⟩,hK,h4⟩
 obtain⟨o,⟨dxu,e1⟩,e2⟩:=h2.us m hm
 exact⟨o,⟨dxu,st _ _ (λ_ z=>nomatch z) e1⟩,st _ _ (λ_ z=>nomatch z) e2⟩
theorem lk_ds (A:TabAt P w cs H a t k)(kp:Keep a.k.ds H H'):LK a H H':=LK.keep kp λc hc _ o e l=>by
 obtain⟨kvs,z⟩:=A.k.isD hc
 rw[e]at z
 cases Option.some.inj z
 obtain⟨xs,q|⟨oo,q⟩⟩:=l<;>cases q
end
section
variable {X:Cx}{Z:Sg}{H:Hp}{pos:Pos}{e:Expr}{a:Ta}{t:Table}{k:Known}
theorem tBoard (T:Tx X.K X.mg cs)(A:TabAt X.prog X.w cs H a t k)(h:Ev X e Z H (.ref a.tb))(hb:attributeBase e "board" X.env (eval e X.env)=eval e X.env:=by rfl):Ev X (.Attribute e "board" pos) Z H (.ref a.b.bo):=by
 obtain⟨dx,o⟩:=A.o;exact fld h o T.clT T.tBoa rfl hb
theorem tUnits (T:Tx X.K X.mg cs)(A:TabAt X.prog X.w cs H a t k)(h:Ev X e Z H (.ref a.tb))(hb:attributeBase e "units" X.env (eval e X.env)=eval e X.env:=by rfl):Ev X (.Attribute e "units" pos) Z H (.ref a.un):=by
 obtain⟨dx,o⟩:=A.o;exact fld h o T.clT T.tUni rfl hb
theorem tKnown (T:Tx X.K X.mg cs)(A:TabAt X.prog X.w cs H a t k)(h:Ev X e Z H (.ref a.tb))(hb:attributeBase e "known" X.env (eval e X.env)=eval e X.env:=by rfl):Ev X (.Attribute e "known" pos) Z H (.ref a.k.ob):=by
 obtain⟨dx,o⟩:=A.o;exact fld h o T.clT T.tKno rfl hb
theorem TabAt.getU {P:Program}{w:World}(A:TabAt P w cs H a t k)(p:Nat):DGet H a.un (.int p) ((manAt t.men p).map λ_=>V.ref (a.ua p)):=by
 refine .inl ⟨_,Sum.inl (p:Int),.inl A.u.un,rfl,?_⟩
 rw[val_ukv]
end
theorem same_new {H:Hp}{o dx C:Addr}(ho:H o=none)(hd:H dx=none):Same H (upd (upd H dx (.own o)) o (.ins C dx [])):=λc u e=>by
 rw[upd_ne (ne_of_none e ho),upd_ne (ne_of_none e hd)];exact e
theorem same_keep {H H':Hp}{o dx C:Addr}(ho:H o=none)(hd:H dx=none)(kp:Keep [o] (upd (upd H dx (.own o)) o (.ins C dx [])) H'):Same H H':=λc u e=>kp c u (by simpa using ne_of_none e ho) (same_new ho hd c u e)
theorem free_new {H:Hp}{o dx C c:Addr}(h:upd (upd H dx (.own o)) o (.ins C dx []) c=none):H c=none:=by
 by_cases h1:c=o
 ·rw[h1,upd_same]at h;cases h
 ·rw[upd_ne h1]at h
  by_cases h2:c=dx
  ·rw[h2,upd_same]at h;cases h
  ·rw[upd_ne h2]at h;exact h
abbrev CkB (P:Program)(w:World)(K:Fg)(mg:Str->Option Value)(base:Heap)(cs:Cs):Prop:=Ck P w K mg base 1 cs.B "Board" ["self"] (spBInit P w cs.B)
abbrev CkK (P:Program)(w:World)(K:Fg)(mg:Str->Option Value)(base:Heap)(cs:Cs):Prop:=Ck P w K mg base 1 cs.K "Known" ["self"] (spKInit cs.K)
abbrev CkU (P:Program)(w:World)(K:Fg)(mg:Str->Option Value)(base:Heap)(cs:Cs):Prop:=Ck P w K mg base 1 cs.U "Unit" ["self","power","fleet","province","shore"] (spUInit cs.U)
abbrev CkP (P:Program)(w:World)(K:Fg)(mg:Str->Option Value)(base:Heap)(cs:Cs):Prop:=Ck P w K mg base 7 cs.P "Position" ["self","board","units","known"] (spPInit P w cs)
def Ba.own (a:Ba):List Addr:=[a.bo,a.ki,a.la,a.se]
theorem newBoard {X:Cx}{Z:Sg}{H:Hp}{pos p:Pos}{n:Nat}(G:CkB X.prog X.w X.K X.mg X.base cs)(hr:Room n X.A)(hn:2<=n:=by decide)(hg:Gl X "Board":=by rfl):EvP X (.Call (.Name "Board" p) [] [] pos) Z H (λv H'=>∃a:Ba,v=.ref a.bo/\BoardAt X.prog X.w cs.B H' a {}/\∀c∈a.own,H c=none):=λQ q=>by
 refine make0 G hr (λo dx ho hd hne=>⟨o,dx,rfl,upd_same,λH' a ea B kp fr=>⟨rfl,?_⟩⟩) hn hg
 refine q _ H' (same_keep ho hd kp) ⟨a,by rw[ea],B,λc hc=>?_⟩
 have hc:c=a.bo\/c∈[a.ki,a.la,a.se]:=by unfold Ba.own at hc;simpa using hc
 rcases hc with rfl|hc
 ·rw[ea];exact ho
 ·exact free_new (fr c hc)
theorem newKnown {X:Cx}{Z:Sg}{H:Hp}{pos p:Pos}{n:Nat}(G:CkK X.prog X.w X.K X.mg X.base cs)(hr:Room n X.A)(hn:2<=n:=by decide)(hg:Gl X "Known":=by rfl):EvP X (.Call (.Name "Known" p) [] [] pos) Z H (λv H'=>∃a:Ka,v=.ref a.ob/\KnownAt cs.K H' a {}/\∀c∈a.ds,H c=none):=λQ q=>by
 refine make0 G hr (λo dx ho hd hne=>⟨o,dx,rfl,upd_same,λH' a ea B kp fr=>⟨rfl,?_⟩⟩) hn hg
 exact q _ H' (same_keep ho hd kp) ⟨a,by rw[ea],B,λc hc=>free_new (fr c hc)⟩
def spD (P:Program)(w:World)(cs:Cs)(n:Nat)(Pre:Table->Known->List Int->Prop)(f:Table->Known->List Int->Table×Known×List Int):Sp:=λvs H Q _=>∃(a:Ta) (t:Table) (k:Known) (ns:List Int),vs=.ref a.tb::ns.map V.int/\ns.length=n/\TabAt P w cs H a t k/\Kn.WT t/\Pre t k ns/\
 ∀(H':Hp) (a':Ta) (r:Addr),TabAt P w cs H' a' (f t k ns).1 (f t k ns).2.1->a'.tb=a.tb->LK a H H'->(a'.b.ki=a.b.ki\/H a'.b.ki=none)->H r=none->H' r=some (.lst ((f t k ns).2.2.map V.int))->Q (.ref r) H'
end
abbrev sTInit:Stmt:=inClass (top 83) 0
abbrev sClr:Stmt:=top 84
abbrev sPrv:Stmt:=top 85
abbrev sLnd:Stmt:=top 86
abbrev sSea:Stmt:=top 87
abbrev sMst:Stmt:=top 88
abbrev sUnt:Stmt:=top 89
abbrev sGon:Stmt:=top 90
abbrev sGiv:Stmt:=top 91
abbrev sOho:Stmt:=top 92
abbrev sOmv:Stmt:=top 93
abbrev sOst:Stmt:=top 94
abbrev sOai:Stmt:=top 95
abbrev sOca:Stmt:=top 96
section
variable {P:Program}{w:World}{K:Fg}{mg:Str->Option Value}{base:Heap}{cs:Cs}
theorem Ev.go {X:Cx}{Z:Sg}{H:Hp}{e:Expr}{v:V}{Q:VK}(h:Ev X e Z H v)(q:∀H',Same H H'->Q v H'):tE X e Z H Q:=h Q q
theorem keep_free {ws:List Addr}{H H':Hp}{x:Addr}(kp:Keep ws H H')(hw:∀c∈ws,∃o,H' c=some o)(h:H' x=none):H x=none:=by
 cases q:H x with
 |none=>rfl
 |some o=>
  by_cases m:x∈ws
  ·obtain⟨u,e⟩:=hw x m;rw[e]at h;cases h
  ·rw[kp x o m q]at h;cases h
theorem ansK {X:Cx}{Z:Sg}{H H0:Hp}{D:Ends}{pos pos2:Pos}{es:List Expr}{a a':Ta}{t':Table}{k':Known}{row:List Int}(A:TabAt P w cs H a' t' k')(etb:a'.tb=a.tb)(lk:LK a H0 H)(ki:a'.b.ki=a.b.ki\/H0 a'.b.ki=none)(fr:∀c,H c=none->H0 c=none)(h:Av X es Z H (row.map V.int))(hl:row.length<=1000)
  (kk:∀(H':Hp) (a':Ta) (r:Addr),TabAt P w cs H' a' t' k'->a'.tb=a.tb->LK a H0 H'->(a'.b.ki=a.b.ki\/H0 a'.b.ki=none)->H0 r=none->H' r=some (.lst (row.map V.int))->D.rt (.ref r) H'):tS X (.Return (some (.List es pos2)) pos) D Z H:=
 retP (lst h (by rw[List.length_map];exact hl)) λv H' s' ⟨r,ev,hr,hx⟩=>ev▸kk H' a' r (A.same s') etb (lk.trans (LK.of s')) ki (fr r hr) hx
theorem ansS {X:Cx}{Z:Sg}{H H0:Hp}{D:Ends}{pos pos2:Pos}{es:List Expr}{a:Ta}{t:Table}{k:Known}{row:List Int}(A:TabAt P w cs H0 a t k)(s:Same H0 H)(h:Av X es Z H (row.map V.int))(hl:row.length<=1000)
  (kk:∀(H':Hp) (a':Ta) (r:Addr),TabAt P w cs H' a' t k->a'.tb=a.tb->LK a H0 H'->(a'.b.ki=a.b.ki\/H0 a'.b.ki=none)->H0 r=none->H' r=some (.lst (row.map V.int))->D.rt (.ref r) H'):tS X (.Return (some (.List es pos2)) pos) D Z H:=
 ansK (A.same s) rfl (LK.of s) (.inl rfl) (λc e=>s.free e) h hl kk
abbrev FD (P:Program)(w:World)(K:Fg)(mg:Str->Option Value)(base:Heap)(cs:Cs)(j:Nat)(f:Addr)(fd:FuncData)(ps:List Str)(n:Nat)(Pre:Table->Known->List Int->Prop)(g:Table->Known->List Int->Table×Known×List Int):Prop:=FnOk P w K mg base CX0 j f fd ps (spD P w cs n Pre g)
def bf (c:List Int->Vbsoaa.Call):Table->Known->List Int->Table×Known×List Int:=λt k ns=>((Vbsoaa.step t (c ns)).1,k,(Vbsoaa.step t (c ns)).2)
theorem isProv_nat {t:Table}{p:Nat}(h:p<t.board.kinds.length):Vbsoaa.isProv t (p:Int)=true:=Kn.isProv_iff.mpr ⟨p,rfl,h⟩
theorem within_nat {p m:Nat}(h:p<=m):Vbsoaa.within (p:Int) 0 (m:Int)=true:=Kn.within_iff.mpr ⟨by omega,by omega⟩
def fst1:HO->Option Str
 |.ins _ _ ((f,_)::_)=>some f
 |_=>none
theorem ne_fst {H:Hp}{a b:Addr}{o u:HO}(h1:H a=some o)(h2:H b=some u)(d:fst1 o≠fst1 u):a≠b:=ne_of h1 h2 λz=>d (by rw[z])
section
variable {H H':Hp}{x:Addr}{u:HO}{t:Table}{k:Known}{a:Ta}
theorem BoardAt.kx {CB C dx:Addr}{fs:List (Str×V)}{ba:Ba}{b:Board}(B:BoardAt P w CB H ba b)(kp:Keep [x] H H')(hx:H x=some (.ins C dx fs))(hn:ba.bo≠x):BoardAt P w CB H' ba b:=by
 obtain⟨⟨dxb,ob⟩,ki,lb,⟨⟨xs,e1,e2,e3⟩,nd,sm,ln⟩⟩:=B
 have st:∀c o,H c=some o->(∀C dx fs,o≠ .ins C dx fs)->H' c=some o:=λc o e d=>kp c o (λm=>by rw[List.mem_singleton.mp m,hx]at e;exact d _ _ _ (Option.some.inj e).symm) e
 exact⟨⟨dxb,kp _ _ (by simpa using hn) ob⟩,st _ _ ki (λ_ _ _ z=>nomatch z),st _ _ lb (λ_ _ _ z=>nomatch z),⟨⟨xs,e1,λy hy=>(e2 y hy).same λc l q=>st _ _ q (λ_ _ _ z=>nomatch z),st _ _ e3 (λ_ _ _ z=>nomatch z)⟩,nd,sm,ln⟩⟩
theorem KnownAt.kx {CK C dx:Addr}{fs:List (Str×V)}{ka:Ka}(A:KnownAt CK H ka k)(kp:Keep [x] H H')(hx:H x=some (.ins C dx fs))(hn:ka.ob≠x):KnownAt CK H' ka k:=by
 obtain⟨⟨dxk,ok⟩,k1,k2,k3,k4,k5,k6,knd⟩:=A
 have dk:∀{d l},DAt H d l->DAt H' d l:=λ{d l} ⟨L,e1,e2⟩=>⟨L,kp _ _ (λm=>by rw[List.mem_singleton.mp m,hx]at e1;cases e1) e1,e2⟩
 exact⟨⟨dxk,kp _ _ (by simpa using hn) ok⟩,dk k1,dk k2,dk k3,dk k4,dk k5,dk k6,knd⟩
theorem UnAt.kx {C dx:Addr}{fs:List (Str×V)}{un:Addr}{ua:Nat->Addr}{men:Men}(U:UnAt cs H un ua men)(kp:Keep [x] H H')(hx:H x=some (.ins C dx fs))(hn:∀m∈men,ua m.prov≠x):UnAt cs H' un ua men:=by
 refine⟨kp _ _ (λm=>by have:=U.un;rw[List.mem_singleton.mp m,hx]at this;cases this) U.un,λm hm=>?_,U.inj⟩
 obtain⟨o,⟨dxu,h1⟩,h2⟩:=U.us m hm
 exact⟨o,⟨dxu,kp _ _ (by simpa using hn m hm) h1⟩,kp _ _ (λm=>by rw[List.mem_singleton.mp m,hx]at h2;cases h2) h2⟩
theorem TabAt.ntb (A:TabAt P w cs H a t k):a.b.bo≠a.tb/\a.k.ob≠a.tb/\(∀m∈t.men,a.ua m.prov≠a.tb)/\(∀m∈t.men,a.ua m.prov≠a.b.bo)/\∀m∈t.men,a.ua m.prov≠a.k.ob:=by
 obtain⟨dx,o⟩:=A.o
 obtain⟨dxb,ob⟩:=A.b.o
 obtain⟨dxk,ok⟩:=A.k.o
 refine⟨ne_fst ob o (show(some ("kinds":Str))≠some "board" from by decide),ne_fst ok o (show(some ("goes":Str))≠some "board" from by decide),λm hm=>?_,λm hm=>?_,λm hm=>?_⟩
 all_goals obtain⟨oo,⟨dxu,e⟩,_⟩:=A.u.us m hm
 ·exact ne_fst e o (show(some ("power":Str))≠some "board" from by decide)
 ·exact ne_fst e ob (show(some ("power":Str))≠some "kinds" from by decide)
 ·exact ne_fst e ok (show(some ("power":Str))≠some "goes" from by decide)
theorem lk_x (A:TabAt P w cs H a t k){C dx:Addr}{fs:List (Str×V)}(kp:Keep [x] H H')(hx:H x=some (.ins C dx fs)):LK a H H':=LK.keep kp λc hc _ o e l=>by
 rw[List.mem_singleton.mp hc,hx]at e
 cases Option.some.inj e
 obtain⟨xs,q|⟨oo,q⟩⟩:=l<;>cases q
end
def spTInit (P:Program)(w:World)(cs:Cs):Sp:=λvs H Q _=>∃(x dx:Addr),vs=[.ref x]/\H x=some (.ins cs.T dx [])/\∀(H':Hp) (a:Ta),a.tb=x->TabAt P w cs H' a {} {}->Keep [x] H H'->H a.b.ki=none->Q .non H'
theorem scTInit:FnScope ["self"] ["self"] (defScope sTInit):=fs
theorem ok_TInit {f:Addr}{fd:FuncData}(F:Fun K "__init__" "Table.__init__" sTInit f fd)(T:Tx K mg cs)(GB:CkB P w K mg base cs)(GK:CkK P w K mg base cs):FnOk P w K mg base CX0 3 f fd ["self"] (spTInit P w cs):=by
 refine def_ F scTInit (λvs H Q E h=>?_) (λcdv A outer s H vs Q E hr h=>?_)
 ·obtain⟨_,_,rfl,_⟩:=h;rfl
 ·obtain⟨x,dx,rfl,hx,kk⟩:=h
  refine bcons (put (newBoard GB hr) (λ_ _=>var 0) hx T.clT T.tBoa (lt1000 rfl) λv H1 H2 s1 ⟨ba,ev,B,fr⟩ s2=>?_)
  subst ev
  have x2:=s2 _ _ (s1 _ _ hx)
  have bne:ba.bo≠x:=λz=>by have:=fr ba.bo (by unfold Ba.own;simp);rw[z,hx]at this;cases this
  have kq:Keep [x] H2 (upd H2 x (.ins cs.T dx (putF "board" (.ref ba.bo) []))):=λc o n e=>by rw[upd_ne (by simpa using n)];exact e
  have B2:=(B.same s2).kx kq x2 bne
  have k2:Keep [x] H (upd H2 x (.ins cs.T dx (putF "board" (.ref ba.bo) []))):=(Keep.of (s1.trans s2)).trans kq
  generalize hG:upd H2 x (.ins cs.T dx (putF "board" (.ref ba.bo) []))=G at B2 k2⊢
  have g1:G x=some (.ins cs.T dx [("board",.ref ba.bo)]):=by rw[<-hG,upd_same];rfl
  refine bcons (putNewK (λ_ _=>var 0) g1 T.clT T.tUni (lt1000 rfl) λun G2 n2 g2 d2 k3=>?_)
  have B3:=B2.kx k3 g1 bne
  have g2':G2 x=some (.ins cs.T dx [("board",.ref ba.bo),("units",.ref un)]):=g2
  refine bone (put (newKnown GK hr) (λ_ _=>var 0) g2' T.clT T.tKno (lt1000 rfl) λv H5 H6 s5 ⟨ka,ev,A5,fr5⟩ s6=>?_)
  subst ev
  have x6:=s6 _ _ (s5 _ _ g2')
  have kq6:Keep [x] H6 (upd H6 x (.ins cs.T dx (putF "known" (.ref ka.ob) [("board",.ref ba.bo),("units",.ref un)]))):=λc o n e=>by rw[upd_ne (by simpa using n)];exact e
  have kne:ka.ob≠x:=by
   obtain⟨dxk,ok⟩:=A5.same s6|>.o
   exact ne_fst ok x6 (show(some ("goes":Str))≠some "board" from by decide)
  refine kk _ ⟨x,ba,un,λ_=>0,ka⟩ rfl ⟨⟨dx,by rw[upd_same];rfl⟩,(B3.same (s5.trans s6)).kx kq6 x6 bne,⟨?_,(λm hm=>nomatch hm),(λm hm=>nomatch hm)⟩,(A5.same s6).kx kq6 x6 kne,?_⟩ (k2.trans (k3.trans ((Keep.of (s5.trans s6)).trans kq6))) (fr _ (by unfold Ba.own;simp))
  ·have e:=s6 _ _ (s5 _ _ d2)
   rw[upd_ne (ne_of e x6 (λz=>nomatch z))];exact e
  ·intro m
   have m:un∈ka.ds:=m
   rw[fr5 un m]at d2;cases d2
abbrev cClr:List Int->Vbsoaa.Call:=λ_=>.clear
theorem scClr:FnScope ["table"] ["table"] (defScope sClr):=fs
theorem ok_clr {f:Addr}{fd:FuncData}(F:Fun K "clear_table" "clear_table" sClr f fd)(T:Tx K mg cs)(GB:CkB P w K mg base cs):FD P w K mg base cs 3 f fd ["table"] 0 (λ_ _ _=>True) (bf cClr):=by
 refine def_ F scClr (λvs H Q E h=>?_) (λcdv A outer s H vs Q E hr h=>?_)
 ·obtain⟨_,_,_,ns,rfl,hl,_⟩:=h;simp[hl]
 ·obtain⟨a,t,k,ns,rfl,hl,A',wt,_,kk⟩:=h
  obtain rfl:ns=[]:=List.length_eq_zero_iff.mp hl
  obtain⟨n1,n2,n3,n4,n5⟩:=A'.ntb
  obtain⟨dx,o⟩:=A'.o
  refine bcons (put (newBoard GB hr) (λ_ _=>var 0) o T.clT T.tBoa (lt1000 rfl) λv H1 H2 s1 ⟨ba,ev,B,fr⟩ s2=>?_)
  subst ev
  have s12:=s1.trans s2
  have x2:=s12 _ _ o
  have bne:ba.bo≠a.tb:=λz=>by have:=fr ba.bo (by unfold Ba.own;simp);rw[z,o]at this;cases this
  have kq:Keep [a.tb] H2 (upd H2 a.tb (.ins cs.T dx (putF "board" (.ref ba.bo) (tf a)))):=λc o n e=>by rw[upd_ne (by simpa using n)];exact e
  have B2:=(B.same s2).kx kq x2 bne
  have K2:=((A'.k.same s12).kx kq x2 n2)
  generalize hG:upd H2 a.tb (.ins cs.T dx (putF "board" (.ref ba.bo) (tf a)))=G at B2 K2 kq⊢
  have g1:G a.tb=some (.ins cs.T dx [("board",.ref ba.bo),("units",.ref a.un),("known",.ref a.k.ob)]):=by rw[<-hG,upd_same];rfl
  have kG:Keep [a.tb] H G:=(Keep.of s12).trans kq
  refine bcons (putNewK (λ_ _=>var 0) g1 T.clT T.tUni (lt1000 rfl) λun G2 m2 g2 d2 k3=>?_)
  have k2:Keep [a.tb] H G2:=kG.trans k3
  refine bone (ansK (a:=a) (a':=⟨a.tb,ba,un,λ_=>0,a.k⟩) (t':={}) (k':=k) (row:=[0]) ⟨⟨dx,g2⟩,B2.kx k3 g1 bne,⟨d2,(λm hm=>nomatch hm),(λm hm=>nomatch hm)⟩,K2.kx k3 g1 n2,?_⟩ rfl (lk_x A' k2 o) (.inr (fr _ (by unfold Ba.own;simp))) (λc e=>keep_free k2 (λc hc=>by rw[List.mem_singleton.mp hc];exact⟨_,g2⟩) e) (one (glob T.gDONE)) (by decide) kk)
  intro m
  have m:un∈a.k.ds:=m
  obtain⟨kvs,e⟩:=K2.isD m
  rw[e]at m2;cases m2
abbrev cPrv:List Int->Vbsoaa.Call:=λns=>.province (ns.getD 0 0)
abbrev MtL (P:Program)(w:World)(K:Fg)(mg:Str->Option Value)(base:Heap)(cs:Cs):Prop:=Mt P w K mg base 1 cs.B "lay_province" ["self","kind"] (spLay P w cs.B)
theorem scPrv:FnScope ["table","kind"] ["table","kind"] (defScope sPrv):=fs
theorem ok_prv {f:Addr}{fd:FuncData}(F:Fun K "new_province" "new_province" sPrv f fd)(T:Tx K mg cs)(ML:MtL P w K mg base cs):FD P w K mg base cs 3 f fd ["table","kind"] 1 (λ_ _ ns=>∃kd:Nat,ns=[(kd:Int)]/\kd<=2) (bf cPrv):=by
 refine def_ F scPrv (λvs H Q E h=>?_) (λcdv A outer s H vs Q E hr h=>?_)
 ·obtain⟨_,_,_,ns,rfl,hl,_⟩:=h;simp[hl]
 ·obtain⟨a,t,k,ns,rfl,hl,A',wt,⟨kd,rfl,hk⟩,kk⟩:=h
  have hs0:Vbsoaa.step t (.province (kd:Int))=if 40<=t.board.kinds.length then(t,[-2])else({t with board:={t.board with kinds:=t.board.kinds++[kd]}},[0,(t.board.kinds.length:Int)]):=by
   have w1:Vbsoaa.within (kd:Int) 0 2=true:=within_nat (m:=2) hk
   unfold Vbsoaa.step
   simp only[w1,Bool.true_eq_false,if_false,Vbsoaa.PROVINCES,Int.toNat_natCast]
   first|rfl|exact if_congr Iff.rfl rfl rfl|exact if_congr Iff.rfl rfl (if_congr Iff.rfl rfl rfl)|exact if_congr Iff.rfl rfl (if_congr Iff.rfl rfl (if_congr Iff.rfl rfl rfl))
  have kk:∀(H':Hp) (a':Ta) (r:Addr),TabAt P w cs H' a' (Vbsoaa.step t (.province (kd:Int))).1 k->a'.tb=a.tb->LK a H H'->(a'.b.ki=a.b.ki\/H a'.b.ki=none)->H r=none->H' r=some (.lst ((Vbsoaa.step t (.province (kd:Int))).2.map V.int))->Q (.ref r) H':=kk
  rw[hs0]at kk
  obtain⟨dxb,ob⟩:=A'.b.o
  refine bcons (ifR (tge (lenL T.mlen (fld (tBoard T A' (var 0)) ob T.clB T.nK rfl) (SqL.of A'.b.ki)) λ_ _=>glob T.gMOST_PROVINCES) (λhc H1 s1=>?_) λhc H1 s1=>?_)
  ·have hc:=of_decide_eq_true hc
   rw[List.length_map]at hc
   rw[if_pos (by omega)]at kk
   exact bone (ansS (row:=[-2]) A' s1 (one (glob T.gFULL)) (by decide) kk)
  ·have hc:=of_decide_eq_false hc
   rw[List.length_map]at hc
   rw[if_neg (by omega)]at kk
   have A1:=A'.same s1
   obtain⟨dxb1,ob1⟩:=A1.b.o
   refine bone (retE (lstE (consE (Ev.go (glob T.gDONE) λH2 s2=>consE (methE ML (hr.mono (by decide)) (tBoard T (A1.same s2) (var 0)) (s2 _ _ ob1) rfl (λH3 s3=>(one (var 1)) _ λH4 s4=>⟨a.b,t.board,kd,rfl,A1.b.same (s2.trans (s3.trans s4)),by omega,λH5 B5 kp5=>nilE ⟨Nat.le_of_ble_eq_true rfl,λr hr=>?_⟩⟩))))))
   have s14:=s1.trans (s2.trans (s3.trans s4))
   have A4:=A'.same s14
   have nl:¬Nb (.lst (t.board.kinds.map λk:Nat=>V.int (k:Int))):=λz=>z.l _ rfl
   have A5:=A4.brd B5 kp5 A4.b.ki nl
   have hr0:H r=none:=s14.free (keep_free kp5 (λc hc=>by rw[List.mem_singleton.mp hc];exact⟨_,B5.ki⟩) hr)
   refine kk _ a r (A5.same λc o e=>by rw[upd_ne (ne_of_none e hr)];exact e) rfl ((LK.of s14).trans (λc o l n e=>?_)) (.inl rfl) hr0 (by rw[upd_same];rfl)
   have e5:=kp5 c o (by simpa using n) e
   rw[upd_ne (ne_of_none e5 hr)];exact e5
abbrev cLnd:List Int->Vbsoaa.Call:=λns=>.land (ns.getD 0 0) (ns.getD 1 0)
theorem scLnd:FnScope ["table","p","q","board"] ["table","p","q"] (defScope sLnd):=fs
theorem ok_lnd {f:Addr}{fd:FuncData}(F:Fun K "new_land_link" "new_land_link" sLnd f fd)(T:Tx K mg cs)(M1:Mt P w K mg base 2 cs.B "joined_by_land" ["self","p","q"] (spv (rJdL P w cs.B)))(M2:Mt P w K mg base 2 cs.B "join_by_land" ["self","p","q"] (spJL P w cs.B)):FD P w K mg base cs 3 f fd ["table","p","q"] 2 (λt _ ns=>∃p q:Nat,ns=[(p:Int),(q:Int)]/\p<t.board.kinds.length/\q<t.board.kinds.length) (bf cLnd):=by
 refine def_ F scLnd (λvs H Q E h=>?_) (λcdv A outer s H vs Q E hr h=>?_)
 ·obtain⟨_,_,_,ns,rfl,hl,_⟩:=h;simp[hl]
 ·obtain⟨a,t,k,ns,rfl,hl,A',wt,⟨p,q,rfl,hp,hq⟩,kk⟩:=h
  have hs0:Vbsoaa.step t (.land (p:Int) (q:Int))=if p=q\/kind t.board p=1\/kind t.board q=1 then(t,[-3])else if linked t.board.land p q=true then(t,[-4])else if 300<=t.board.land.length then(t,[-2])else({t with board:={t.board with land:=t.board.land++[(p,q)]}},[0]):=by
   unfold Vbsoaa.step
   simp only[isProv_nat hp,isProv_nat hq,Bool.and_self,Bool.true_eq_false,if_false,Vbsoaa.LINKS,Int.toNat_natCast,Int.ofNat_inj]
   first|rfl|exact if_congr Iff.rfl rfl rfl|exact if_congr Iff.rfl rfl (if_congr Iff.rfl rfl rfl)|exact if_congr Iff.rfl rfl (if_congr Iff.rfl rfl (if_congr Iff.rfl rfl rfl))
  have kk:∀(H':Hp) (a':Ta) (r:Addr),TabAt P w cs H' a' (Vbsoaa.step t (.land (p:Int) (q:Int))).1 k->a'.tb=a.tb->LK a H H'->(a'.b.ki=a.b.ki\/H a'.b.ki=none)->H r=none->H' r=some (.lst ((Vbsoaa.step t (.land (p:Int) (q:Int))).2.map V.int))->Q (.ref r) H':=kk
  rw[hs0]at kk
  refine bcons (set 3 scLnd.nd (tBoard T A' (var 0)) λH1 s1=>?_)
  have A1:=A'.same s1
  obtain⟨dxb,ob⟩:=A1.b.o
  refine bcons (ifR (wor (teqI (var 1) λ_ _=>var 2) λ_ H2 s2=>wor (teqI (ixL (fld (var 3) (s2 _ _ ob) T.clB T.nK rfl) (λ_ _=>var 1) (SqL.of (s2 _ _ A1.b.ki)) (kind_at hp)) λ_ _=>glob T.gSEA) λ_ H3 s3=>wor1 (teqI (ixL (fld (var 3) ((s2.trans s3) _ _ ob) T.clB T.nK rfl) (λ_ _=>var 2) (SqL.of ((s2.trans s3) _ _ A1.b.ki)) (kind_at hq)) λ_ _=>glob T.gSEA)).tv (λhc H2 s2=>?_) λhc H2 s2=>?_)
  ·simp only[Bool.or_eq_true,decide_eq_true_eq]at hc
   rw[if_pos (by omega)]at kk
   exact bone (ansS (row:=[-3]) A' (s1.trans s2) (one (glob T.gUNFIT)) (by decide) kk)
  ·simp only[Bool.or_eq_false_iff,decide_eq_false_iff_not]at hc
   rw[if_neg (by omega)]at kk
   have A2:=A1.same s2
   refine bcons (ifR (tv (meth M1 hr (var 3) (s2 _ _ ob) rfl (λ_ _=>cons (var 1) λ_ _=>one (var 2)) λH3 s3=>⟨a.b,t.board,p,q,rfl,A2.b.same s3,rfl⟩)) (λhd H3 s3=>?_) λhd H3 s3=>?_)
   ·rw[if_pos hd]at kk
    exact bone (ansS (row:=[-4]) A' (s1.trans (s2.trans s3)) (one (glob T.gTHERE_ALREADY)) (by decide) kk)
   ·rw[if_neg (by rw[hd];exact Bool.false_ne_true)]at kk
    have A3:=A2.same s3
    have ob3:=(s2.trans s3) _ _ ob
    refine bcons (ifR (tge (lenDT T.mlen (fld (var 3) ob3 T.clB T.nL rfl) A3.b.la) λ_ _=>glob T.gMOST_LINKS) (λhe H4 s4=>?_) λhe H4 s4=>?_)
    ·have he:=of_decide_eq_true he
     rw[List.length_map]at he
     rw[if_pos (by omega)]at kk
     exact bone (ansS (row:=[-2]) A' (s1.trans (s2.trans (s3.trans s4))) (one (glob T.gFULL)) (by decide) kk)
    ·have he:=of_decide_eq_false he
     rw[List.length_map]at he
     rw[if_neg (by omega)]at kk
     have s14:=s1.trans (s2.trans (s3.trans s4))
     refine bcons (drop (methE M2 (hr.mono (by decide)) (var 3) (s4 _ _ ob3) rfl λH5 s5=>(cons (var 1) λ_ _=>one (var 2)) _ λH6 s6=>⟨a.b,t.board,p,q,rfl,A3.b.same (s4.trans (s5.trans s6)),hd,by omega,λH7 B7 kp7=>?_⟩))
     have s16:=s14.trans (s5.trans s6)
     have A6:=A'.same s16
     have A7:=A6.brd B7 kp7 A6.b.la (λz=>z.d _ rfl)
     refine bone (ansK (a':=a) (row:=[0]) A7 rfl ((LK.of s16).trans (LK.keep kp7 λc hc _ o e l=>?_)) (.inl rfl) (λc e=>s16.free (keep_free kp7 (λc hc=>by rw[List.mem_singleton.mp hc];exact⟨_,B7.la⟩) e)) (one (glob T.gDONE)) (by decide) kk)
     rw[List.mem_singleton.mp hc,A6.b.la]at e
     cases Option.some.inj e
     obtain⟨xs,q|⟨oo,q⟩⟩:=l<;>cases q
abbrev cSea:List Int->Vbsoaa.Call:=λns=>.sea (ns.getD 0 0) (ns.getD 1 0) (ns.getD 2 0) (ns.getD 3 0)
theorem scSea:FnScope ["table","p","s","q","t","board"] ["table","p","s","q","t"] (defScope sSea):=fs
theorem ok_sea {f:Addr}{fd:FuncData}(F:Fun K "new_sea_link" "new_sea_link" sSea f fd)(T:Tx K mg cs)(M1:Mt P w K mg base 2 cs.B "joined_by_sea" ["self","place","other"] (spv (rJdS P w cs.B)))(M2:Mt P w K mg base 2 cs.B "join_by_sea" ["self","place","other"] (spJS P w cs.B)):FD P w K mg base cs 3 f fd ["table","p","s","q","t"] 4 (λt _ ns=>∃p s q u:Nat,ns=[(p:Int),(s:Int),(q:Int),(u:Int)]/\p<t.board.kinds.length/\s<=3/\q<t.board.kinds.length/\u<=3) (bf cSea):=by
 refine def_ F scSea (λvs H Q E h=>?_) (λcdv A outer s H vs Q E hr h=>?_)
 ·obtain⟨_,_,_,ns,rfl,hl,_⟩:=h;simp[hl]
 ·obtain⟨a,t,k,ns,rfl,hl,A',wt,⟨p,sh,q,u,rfl,hp,hs,hq,hu'⟩,kk⟩:=h
  have hs0:Vbsoaa.step t (.sea (p:Int) (sh:Int) (q:Int) (u:Int))=if p=q\/kind t.board p=0\/kind t.board q=0 then(t,[-3])else if linked t.board.sea (place p sh) (place q u)=true then(t,[-4])else if 300<=t.board.sea.length then(t,[-2])else({t with board:={t.board with sea:=t.board.sea++[(place p sh,place q u)]}},[0]):=by
   have w1:Vbsoaa.within (sh:Int) 0 3=true:=within_nat (m:=3) hs
   have w2:Vbsoaa.within (u:Int) 0 3=true:=within_nat (m:=3) hu'
   unfold Vbsoaa.step
   simp only[isProv_nat hp,isProv_nat hq,w1,w2,Bool.and_self,Bool.true_eq_false,if_false,Vbsoaa.LINKS,Int.toNat_natCast,Int.ofNat_inj]
   first|rfl|exact if_congr Iff.rfl rfl rfl|exact if_congr Iff.rfl rfl (if_congr Iff.rfl rfl rfl)|exact if_congr Iff.rfl rfl (if_congr Iff.rfl rfl (if_congr Iff.rfl rfl rfl))
  have kk:∀(H':Hp) (a':Ta) (r:Addr),TabAt P w cs H' a' (Vbsoaa.step t (.sea (p:Int) (sh:Int) (q:Int) (u:Int))).1 k->a'.tb=a.tb->LK a H H'->(a'.b.ki=a.b.ki\/H a'.b.ki=none)->H r=none->H' r=some (.lst ((Vbsoaa.step t (.sea (p:Int) (sh:Int) (q:Int) (u:Int))).2.map V.int))->Q (.ref r) H':=kk
  rw[hs0]at kk
  refine bcons (set 5 scSea.nd (tBoard T A' (var 0)) λH1 s1=>?_)
  have A1:=A'.same s1
  obtain⟨dxb,ob⟩:=A1.b.o
  refine bcons (ifR (wor (teqI (var 1) λ_ _=>var 3) λ_ H2 s2=>wor (teqI (ixL (fld (var 5) (s2 _ _ ob) T.clB T.nK rfl) (λ_ _=>var 1) (SqL.of (s2 _ _ A1.b.ki)) (kind_at hp)) λ_ _=>glob T.gLAND) λ_ H3 s3=>wor1 (teqI (ixL (fld (var 5) ((s2.trans s3) _ _ ob) T.clB T.nK rfl) (λ_ _=>var 3) (SqL.of ((s2.trans s3) _ _ A1.b.ki)) (kind_at hq)) λ_ _=>glob T.gLAND)).tv (λhc H2 s2=>?_) λhc H2 s2=>?_)
  ·simp only[Bool.or_eq_true,decide_eq_true_eq]at hc
   rw[if_pos (by omega)]at kk
   exact bone (ansS (row:=[-3]) A' (s1.trans s2) (one (glob T.gUNFIT)) (by decide) kk)
  ·simp only[Bool.or_eq_false_iff,decide_eq_false_iff_not]at hc
   rw[if_neg (by omega)]at kk
   have A2:=A1.same s2
   refine bcons (ifR (tv (methA (v:=.bl (linked t.board.sea (place p sh) (place q u))) M1 hr (var 5) (s2 _ _ ob) rfl (λH3 s3=>consA (tupA (vs:=[.int p,.int sh]) (cons (var 1) λ_ _=>one (var 2))) λH4 s4=>one' (tupA (vs:=[.int q,.int u]) (cons (var 3) λ_ _=>one (var 4)))) ?_)) (λhd H3 s3=>?_) λhd H3 s3=>?_)
   ·rintro vs H3 s3 ⟨v,ws,H4,rfl,⟨c1,rfl,h1⟩,s4,v2,rfl,c2,rfl,h2⟩
    exact⟨a.b,t.board,c1,c2,_,_,rfl,A2.b.same s3,plAt_of (by omega) (s4 _ _ h1),plAt_of (by omega) h2,rfl⟩
   ·rw[if_pos hd]at kk
    exact bone (ansS (row:=[-4]) A' (s1.trans (s2.trans s3)) (one (glob T.gTHERE_ALREADY)) (by decide) kk)
   ·rw[if_neg (by rw[hd];exact Bool.false_ne_true)]at kk
    have A3:=A2.same s3
    have ob3:=(s2.trans s3) _ _ ob
    refine bcons (ifR (tge (lenDN T.mlen (fld (var 5) ob3 T.clB T.nS rfl) A3.b.se) λ_ _=>glob T.gMOST_LINKS) (λhe H4 s4=>?_) λhe H4 s4=>?_)
    ·have he:=of_decide_eq_true he
     rw[List.length_map]at he
     rw[if_pos (by omega)]at kk
     exact bone (ansS (row:=[-2]) A' (s1.trans (s2.trans (s3.trans s4))) (one (glob T.gFULL)) (by decide) kk)
    ·have he:=of_decide_eq_false he
     rw[List.length_map]at he
     rw[if_neg (by omega)]at kk
     have s14:=s1.trans (s2.trans (s3.trans s4))
     refine bcons (drop (methE M2 (hr.mono (by decide)) (var 5) (s4 _ _ ob3) rfl λH5 s5=>(consA (tupA (vs:=[.int p,.int sh]) (cons (var 1) λ_ _=>one (var 2))) λH6 s6=>one' (tupA (vs:=[.int q,.int u]) (cons (var 3) λ_ _=>one (var 4)))) _ λvs H6 s6 hv=>?_))
     obtain⟨v,ws,H7,rfl,⟨c1,rfl,h1⟩,s7,v2,rfl,c2,rfl,h2⟩:=hv
     have s16:=s14.trans (s5.trans s6)
     have A6:=A'.same s16
     refine⟨a.b,t.board,c1,c2,_,_,rfl,A6.b,plAt_of (by omega) (s7 _ _ h1),plAt_of (by omega) h2,hd,by omega,λH8 B8 kp8=>?_⟩
     obtain⟨⟨xs,z1,z2,z3⟩,_⟩:=A6.b.se
     have A8:=A6.brd B8 kp8 z3 (λz=>z.e _ rfl)
     refine bone (ansK (a':=a) (row:=[0]) A8 rfl ((LK.of s16).trans (LK.keep kp8 λc hc _ o e l=>?_)) (.inl rfl) (λc e=>s16.free (keep_free kp8 (λc hc=>by obtain⟨⟨ys,_,_,y3⟩,_⟩:=B8.se;rw[List.mem_singleton.mp hc];exact⟨_,y3⟩) e)) (one (glob T.gDONE)) (by decide) kk)
     rw[List.mem_singleton.mp hc,z3]at e
     cases Option.some.inj e
     obtain⟨xs,q|⟨oo,q⟩⟩:=l<;>cases q
end
open Vbsoaa (ordered)
section
variable {P:Program}{w:World}{K:Fg}{mg:Str->Option Value}{base:Heap}{cs:Cs}
def rMst (P:Program)(w:World)(cs:Cs)(vs:List V)(H:Hp)(v:V):Prop:=∃(ba:Ba) (b:Board) (f p s:Nat),vs=[.ref ba.bo,.int f,.int p,.int s]/\BoardAt P w cs.B H ba b/\p<b.kinds.length/\v=.bl (if f=1 then !decide (kind b p=0)else(!decide (kind b p=1)&&decide (s=0)))
theorem scMst:FnScope ["board","fleet","p","s"] ["board","fleet","p","s"] (defScope sMst):=fs
theorem decN (i j:Nat):decide ((i:Int)=(j:Int))=decide (i=j):=by
 rw[Bool.eq_iff_iff,decide_eq_true_eq,decide_eq_true_eq];omega
theorem ok_mst {f:Addr}{fd:FuncData}(F:Fun K "may_stand" "may_stand" sMst f fd)(T:Tx K mg cs):FnOk P w K mg base CX0 1 f fd ["board","fleet","p","s"] (spv (rMst P w cs)):=by
 refine def_ F scMst (λvs H Q E h=>?_) (λcdv A outer s H vs Q E hr h=>?_)
 ·obtain⟨_,⟨_,_,_,_,_,rfl,_⟩,_⟩:=h;rfl
 ·obtain⟨_,⟨ba,b,fl,p,sh,rfl,B,hp,rfl⟩,kk⟩:=h
  obtain⟨dxb,ob⟩:=B.o
  refine bcons (ifR (teqI (var 1) λ_ _=>int_) (λhc H1 s1=>?_) λhc H1 s1=>?_)
  ·have hc:=of_decide_eq_true hc
   refine bone (ret ((neI (ixL (fld (var 0) (s1 _ _ ob) T.clB T.nK rfl) (λ_ _=>var 2) (SqL.of (s1 _ _ B.ki)) (kind_at hp)) λ_ _=>glob T.gLAND).to ?_) λH' s'=>kk _ (s1.trans s'))
   rw[if_pos (by omega)]
   exact congrArg (λx=>V.bl (!x)) (decN _ 0)
  ·have hc:=of_decide_eq_false hc
   refine bone (ret ((vand2 (neI (ixL (fld (var 0) (s1 _ _ ob) T.clB T.nK rfl) (λ_ _=>var 2) (SqL.of (s1 _ _ B.ki)) (kind_at hp)) λ_ _=>glob T.gSEA) λ_ H2 s2=>eqI (var 3) λ_ _=>int_).to ?_) λH' s'=>kk _ (s1.trans s'))
   rw[if_neg (by omega)]
   have e1:=decN (kind b p) 1
   have e2:=decN sh 0
   show V.bl (!decide ((kind b p:Int)=((1:Nat):Int))&&decide ((sh:Int)=((0:Nat):Int)))=_
   rw[e1,e2]
abbrev cUnt:List Int->Vbsoaa.Call:=λns=>.man (ns.getD 0 0) (ns.getD 1 0) (ns.getD 2 0) (ns.getD 3 0)
theorem scUnt:FnScope ["table","power","fleet","p","s"] ["table","power","fleet","p","s"] (defScope sUnt):=fs
theorem ok_unt {f:Addr}{fd:FuncData}(F:Fun K "new_unit" "new_unit" sUnt f fd)(T:Tx K mg cs)(FM:Fn P w K mg base 1 "may_stand" ["board","fleet","p","s"] (spv (rMst P w cs)))(GU:CkU P w K mg base cs):FD P w K mg base cs 3 f fd ["table","power","fleet","p","s"] 4 (λt _ ns=>∃pw fl p s:Nat,ns=[(pw:Int),(fl:Int),(p:Int),(s:Int)]/\pw<=6/\fl<=1/\p<t.board.kinds.length/\s<=3) (bf cUnt):=by
 refine def_ F scUnt (λvs H Q E h=>?_) (λcdv A outer s H vs Q E hr h=>?_)
 ·obtain⟨_,_,_,ns,rfl,hl,_⟩:=h;simp[hl]
 ·obtain⟨a,t,k,ns,rfl,hl,A',wt,⟨pw,fl,p,sh,rfl,hpw,hfl,hp,hsh⟩,kk⟩:=h
  have hu:=hu_of hr
  have hs0:Vbsoaa.step t (.man (pw:Int) (fl:Int) (p:Int) (sh:Int))=if((fl=0/\(kind t.board p=1\/¬sh=0))\/(fl=1/\kind t.board p=0))then(t,[-3])else if(manAt t.men p).isSome=true then(t,[-4])else if 24<=t.men.length then(t,[-2])else({t with men:=t.men++[{power:=pw,fleet:=(fl:Int)==1,prov:=p,shore:=sh}]},[0]):=by
   have w1:Vbsoaa.within (pw:Int) 0 6=true:=within_nat (m:=6) hpw
   have w2:Vbsoaa.within (fl:Int) 0 1=true:=within_nat (m:=1) hfl
   have w3:Vbsoaa.within (sh:Int) 0 3=true:=within_nat (m:=3) hsh
   unfold Vbsoaa.step
   simp only[w1,w2,w3,isProv_nat hp,Bool.and_self,Bool.true_eq_false,if_false,Vbsoaa.MEN,Int.toNat_natCast]
   exact ite_congr (propext (by omega)) (λ_=>rfl) λ_=>ite_congr rfl (λ_=>rfl) λ_=>ite_congr rfl (λ_=>rfl) λ_=>rfl
  have kk:∀(H':Hp) (a':Ta) (r:Addr),TabAt P w cs H' a' (Vbsoaa.step t (.man (pw:Int) (fl:Int) (p:Int) (sh:Int))).1 k->a'.tb=a.tb->LK a H H'->(a'.b.ki=a.b.ki\/H a'.b.ki=none)->H r=none->H' r=some (.lst ((Vbsoaa.step t (.man (pw:Int) (fl:Int) (p:Int) (sh:Int))).2.map V.int))->Q (.ref r) H':=kk
  rw[hs0]at kk
  refine bcons (ifR (tnot (tv (callU FM hr (cons (tBoard T A' (var 0)) λ_ _=>cons (var 2) λ_ _=>cons (var 3) λ_ _=>one (var 4)) λH1 s1=>⟨a.b,t.board,fl,p,sh,rfl,A'.b.same s1,hp,rfl⟩))) (λhc H1 s1=>?_) λhc H1 s1=>?_)
  ·have hcond:(fl=0/\(kind t.board p=1\/¬sh=0))\/(fl=1/\kind t.board p=0):=by
    by_cases h1:fl=1
    ·rw[if_pos h1]at hc
     simp at hc
     exact .inr ⟨h1,hc⟩
    ·rw[if_neg h1]at hc
     refine .inl ⟨by omega,?_⟩
     by_cases h2:kind t.board p=1
     ·exact .inl h2
     ·refine .inr λh3=>?_
      rw[decide_eq_false h2,decide_eq_true h3]at hc;cases hc
   rw[if_pos hcond]at kk
   exact bone (ansS (row:=[-3]) A' s1 (one (glob T.gUNFIT)) (by decide) kk)
  ·have hcond:¬((fl=0/\(kind t.board p=1\/¬sh=0))\/(fl=1/\kind t.board p=0)):=by
    rintro(⟨h1,h2⟩|⟨h1,h2⟩)
    ·rw[if_neg (by omega)]at hc
     rcases h2 with h2|h2
     ·rw[decide_eq_true h2]at hc;cases hc
     ·rw[decide_eq_false h2,Bool.and_false]at hc;cases hc
    ·rw[if_pos h1,decide_eq_true h2]at hc;cases hc
   rw[if_neg hcond]at kk
   have A1:=A'.same s1
   refine bcons (ifR ((tinD hu (var 3) (λH2 s2=>tUnits T (A1.same s2) (var 0)) λH2 s2=>(A1.same s2).getU p).to (Option.isSome_map ..)) (λhd H2 s2=>?_) λhd H2 s2=>?_)
   ·rw[if_pos hd]at kk
    exact bone (ansS (row:=[-4]) A' (s1.trans s2) (one (glob T.gTHERE_ALREADY)) (by decide) kk)
   ·rw[if_neg (by rw[hd];exact Bool.false_ne_true)]at kk
    have A2:=A1.same s2
    have hnone:manAt t.men p=none:=by cases q:manAt t.men p with|none=>rfl|some y=>rw[q]at hd;cases hd
    have lenU:(ukv t.men a.ua).length=t.men.length:=List.length_map ..
    refine bcons (ifR (tge (lenD T.mlen (tUnits T A2 (var 0)) A2.u.un) λ_ _=>glob T.gMOST_UNITS) (λhe H3 s3=>?_) λhe H3 s3=>?_)
    ·have he:=of_decide_eq_true he
     rw[lenU]at he
     rw[if_pos (by omega)]at kk
     exact bone (ansS (row:=[-2]) A' (s1.trans (s2.trans s3)) (one (glob T.gFULL)) (by decide) kk)
    ·have he:=of_decide_eq_false he
     rw[lenU]at he
     rw[if_neg (by omega)]at kk
     have s13:=s1.trans (s2.trans s3)
     generalize hmd:({power:=pw,fleet:=(fl:Int)==1,prov:=p,shore:=sh}:Man)=m at kk
     have em:m.prov=p:=by rw[<-hmd]
     have eo:m.order=.hold:=by rw[<-hmd]
     have ebit:Vbsoaa.bit m.fleet=(fl:Int):=by
      rw[<-hmd]
      have:fl=0\/fl=1:=by omega
      rcases this with rfl|rfl<;>rfl
     refine bcons (goS (ps_dput hu (okE _) (okE _) (okE _) rfl) (makeE GU hr ((cons (var 1) λ_ _=>cons (var 2) λ_ _=>cons (var 3) λ_ _=>one (var 4)) _ λH4 s4 x dx hx hdx hne=>⟨x,dx,m,?_,upd_same,λH5 o U5 o5 fo5 kp5=>⟨rfl,?_⟩⟩)))
     ·rw[ebit,em,<-hmd]
     have s14:=s13.trans s4
     have s45:Same H4 H5:=same_keep hx hdx kp5
     have s15:=s14.trans s45
     have A5:=A'.same s15
     refine Ev.go (tUnits T A5 (var 0)) λH6 s6=>Ev.go (var 3) λH7 s7=>?_
     have s17:=s15.trans (s6.trans s7)
     have A7:=A'.same s17
     refine⟨a.un,_,rfl,DPut.k (k:=Sum.inl (p:Int)) A7.u.un (by rw[lenU];exact small1000 (by omega)),?_⟩
     have hn:∀y∈t.men,y.prov≠m.prov:=λy hy=>by rw[em];exact Kn.manAt_none.mp hnone y hy
     have eput:putK (ukv t.men a.ua) (Sum.inl (p:Int)) (.ref x)=ukv (t.men++[m]) (λq=>if q=m.prov then x else a.ua q):=by rw[<-ukv_snoc hn,em]
     rw[eput]
     have nd:∀{c o},(∀kvs,o≠ .dK kvs)->H7 c=some o->upd H7 a.un (.dK (ukv (t.men++[m]) (λq=>if q=m.prov then x else a.ua q))) c=some o:=λ{c o} d e=>by rw[upd_ne (ne_of e A7.u.un (d _))];exact e
     have nx:∀y∈t.men,a.ua y.prov≠x:=λy hy z=>by
      obtain⟨oo,⟨dxu,e⟩,_⟩:=A'.u.us y hy
      have e4:=s14 _ _ e
      rw[z,hx]at e4;cases e4
     have A8:TabAt P w cs (upd H7 a.un (.dK (ukv (t.men++[m]) (λq=>if q=m.prov then x else a.ua q)))) {a with ua:=λq=>if q=m.prov then x else a.ua q} {t with men:=t.men++[m]} k:=by
      obtain⟨dxt,ot⟩:=A7.o
      refine⟨⟨dxt,nd (λ_ z=>nomatch z) ot⟩,A7.b.tm λc o tm e=>nd tm.d e,⟨upd_same,λy hy=>?_,λy hy y' hy' e=>?_⟩,?_,A7.nd⟩
      ·rcases List.mem_append.mp hy with h|h
       ·show∃o,UnitAt cs.U _ (if y.prov=m.prov then x else a.ua y.prov) y o/\_
        rw[if_neg (hn y h)]
        obtain⟨oo,⟨dxu,e1⟩,e2⟩:=A7.u.us y h
        exact⟨oo,⟨dxu,nd (λ_ z=>nomatch z) e1⟩,nd (λ_ z=>nomatch z) e2⟩
       ·rw[List.mem_singleton.mp h]
        show∃o,UnitAt cs.U _ (if m.prov=m.prov then x else a.ua m.prov) m o/\_
        rw[if_pos rfl]
        obtain⟨dxu,e1⟩:=U5
        refine⟨o,⟨dxu,nd (λ_ z=>nomatch z) ((s6.trans s7) _ _ e1)⟩,?_⟩
        rw[eo]
        exact nd (λ_ z=>nomatch z) ((s6.trans s7) _ _ o5)
      ·have e:(if y.prov=m.prov then x else a.ua y.prov)=(if y'.prov=m.prov then x else a.ua y'.prov):=e
       rcases List.mem_append.mp hy with h|h
       ·rcases List.mem_append.mp hy' with h'|h'
        ·rw[if_neg (hn y h),if_neg (hn y' h')]at e
         exact A7.u.inj y h y' h' e
        ·rw[List.mem_singleton.mp h',if_neg (hn y h),if_pos rfl]at e
         exact absurd e (nx y h)
       ·rcases List.mem_append.mp hy' with h'|h'
        ·rw[List.mem_singleton.mp h,if_neg (hn y' h'),if_pos rfl]at e
         exact absurd e.symm (nx y' h')
        ·rw[List.mem_singleton.mp h,List.mem_singleton.mp h']
      ·refine A7.k.tm (λc o tm e=>nd tm.d e) λd hd o e=>?_
       rw[upd_ne (λz=>A7.nd (by rw[<-z];exact hd))];exact e
     have kp8:Keep [a.un] H7 (upd H7 a.un (.dK (ukv (t.men++[m]) (λq=>if q=m.prov then x else a.ua q)))):=λc o n e=>by rw[upd_ne (by simpa using n)];exact e
     refine bone (ansK (a:=a) (row:=[0]) A8 rfl ((LK.of s17).trans (LK.keep kp8 λc hc _ o e l=>?_)) (.inl rfl) (λc e=>s17.free (keep_free kp8 (λc hc=>by rw[List.mem_singleton.mp hc];exact⟨_,upd_same⟩) e)) (one (glob T.gDONE)) (by decide) kk)
     rw[List.mem_singleton.mp hc,A7.u.un]at e
     cases Option.some.inj e
     obtain⟨xs,q|⟨oo,q⟩⟩:=l<;>cases q
abbrev cGon:List Int->Vbsoaa.Call:=λns=>.gone (ns.getD 0 0)
theorem scGon:FnScope ["table","p"] ["table","p"] (defScope sGon):=fs
theorem drop_ukv (men:Men)(ua:Nat->Addr)(p:Nat):dropK (ukv men ua) (Sum.inl (p:Int))=ukv (men.filter λm=>m.prov !=p) ua:=by
 unfold dropK ukv
 rw[List.filter_map]
 congr 1
 refine List.filter_congr λm _=>?_
 show decide ((Sum.inl (m.prov:Int):Key)≠Sum.inl (p:Int))=(m.prov !=p)
 rw[Bool.eq_iff_iff,decide_eq_true_eq,bne_iff_ne]
 constructor
 ·intro h z;exact h (by rw[z])
 ·intro h z;injection z with z;exact h (by omega)
theorem isMan_nat {t:Table}{p:Nat}(h:p<t.board.kinds.length):Vbsoaa.isMan t (p:Int)=(manAt t.men p).isSome:=Kn.isMan_iff h
theorem ok_gon {f:Addr}{fd:FuncData}(F:Fun K "take_unit_away" "take_unit_away" sGon f fd)(T:Tx K mg cs):FD P w K mg base cs 3 f fd ["table","p"] 1 (λt _ ns=>∃p:Nat,ns=[(p:Int)]/\p<t.board.kinds.length) (bf cGon):=by
 refine def_ F scGon (λvs H Q E h=>?_) (λcdv A outer s H vs Q E hr h=>?_)
 ·obtain⟨_,_,_,ns,rfl,hl,_⟩:=h;simp[hl]
 ·obtain⟨a,t,k,ns,rfl,hl,A',wt,⟨p,rfl,hp⟩,kk⟩:=h
  have hu:=hu_of hr
  have hs0:Vbsoaa.step t (.gone (p:Int))=if(manAt t.men p).isSome=false then(t,[-5])else({t with men:=t.men.filter (λm=>m.prov !=p),water:=t.water.filter λx=>x !=p},[0]):=by
   unfold Vbsoaa.step
   simp only[isProv_nat hp,isMan_nat hp,Bool.true_eq_false,if_false,Int.toNat_natCast]
  have kk:∀(H':Hp) (a':Ta) (r:Addr),TabAt P w cs H' a' (Vbsoaa.step t (.gone (p:Int))).1 k->a'.tb=a.tb->LK a H H'->(a'.b.ki=a.b.ki\/H a'.b.ki=none)->H r=none->H' r=some (.lst ((Vbsoaa.step t (.gone (p:Int))).2.map V.int))->Q (.ref r) H':=kk
  rw[hs0]at kk
  refine bcons (ifR (bb:= !(manAt t.men p).isSome) ((tnotInD hu (var 1) (λH2 s2=>tUnits T (A'.same s2) (var 0)) λH2 s2=>(A'.same s2).getU p).to (by rw[Option.isSome_map])) (λhc H1 s1=>?_) λhc H1 s1=>?_)
  ·rw[if_pos (by simpa using hc)]at kk
   exact bone (ansS (row:=[-5]) A' s1 (one (glob T.gNO_UNIT)) (by decide) kk)
  ·rw[if_neg (by intro z;rw[z]at hc;cases hc)]at kk
   have A1:=A'.same s1
   obtain⟨m,hm⟩:∃m,manAt t.men p=some m:=Option.isSome_iff_exists.mp (by simpa using hc)
   refine bcons (drop (goE (pe_dpop1 (okE _) (okE _) ⟨rfl,rfl,rfl,rfl⟩) (Ev.go (tUnits T A1 (var 0)) λH2 s2=>⟨a.un,rfl,.inl ⟨_,.inl (s2 _ _ A1.u.un)⟩,Ev.go (var 1) λH3 s3=>⟨_,Sum.inl (p:Int),.ref (a.ua p),(s2.trans s3) _ _ A1.u.un,rfl,by rw[val_ukv,hm];rfl,?_⟩⟩)))
   have s13:=s1.trans (s2.trans s3)
   have A3:=A'.same s13
   rw[drop_ukv]
   have nd:∀{c o},(∀kvs,o≠ .dK kvs)->H3 c=some o->upd H3 a.un (.dK (ukv (t.men.filter λm=>m.prov !=p) a.ua)) c=some o:=λ{c o} d e=>by rw[upd_ne (ne_of e A3.u.un (d _))];exact e
   have A4:TabAt P w cs (upd H3 a.un (.dK (ukv (t.men.filter λm=>m.prov !=p) a.ua))) a {t with men:=t.men.filter (λm=>m.prov !=p),water:=t.water.filter λx=>x !=p} k:=by
    obtain⟨dxt,ot⟩:=A3.o
    refine⟨⟨dxt,nd (λ_ z=>nomatch z) ot⟩,A3.b.tm λc o tm e=>nd tm.d e,⟨upd_same,λy hy=>?_,λy hy y' hy' e=>A3.u.inj y (List.mem_filter.mp hy).1 y' (List.mem_filter.mp hy').1 e⟩,?_,A3.nd⟩
    ·obtain⟨oo,⟨dxu,e1⟩,e2⟩:=A3.u.us y (List.mem_filter.mp hy).1
     exact⟨oo,⟨dxu,nd (λ_ z=>nomatch z) e1⟩,nd (λ_ z=>nomatch z) e2⟩
    ·refine A3.k.tm (λc o tm e=>nd tm.d e) λd hd o e=>?_
     rw[upd_ne (λz=>A3.nd (by rw[<-z];exact hd))];exact e
   have kp4:Keep [a.un] H3 (upd H3 a.un (.dK (ukv (t.men.filter λm=>m.prov !=p) a.ua))):=λc o n e=>by rw[upd_ne (by simpa using n)];exact e
   refine bone (ansK (a:=a) (row:=[0]) A4 rfl ((LK.of s13).trans (LK.keep kp4 λc hc _ o e l=>?_)) (.inl rfl) (λc e=>s13.free (keep_free kp4 (λc hc=>by rw[List.mem_singleton.mp hc];exact⟨_,upd_same⟩) e)) (one (glob T.gDONE)) (by decide) kk)
   rw[List.mem_singleton.mp hc,A3.u.un]at e
   cases Option.some.inj e
   obtain⟨xs,q|⟨oo,q⟩⟩:=l<;>cases q
theorem bit1 {wa:Nat}(h:wa<=1):Vbsoaa.bit ((wa:Int)==1)=(wa:Int):=by
 have h2:wa=0\/wa=1:=by omega
 rcases h2 with rfl|rfl<;>rfl
def gv (t:Table)(p:Nat)(od:Order):Table×List Int:=if(manAt t.men p).isSome=false then(t,[-5])else(ordered t p od,[0])
def spGiv (P:Program)(w:World)(cs:Cs):Sp:=λvs H Q _=>∃(a:Ta) (t:Table) (k:Known) (p:Nat) (o:Addr) (od:Order),vs=[.ref a.tb,.int p,.ref o]/\TabAt P w cs H a t k/\Kn.PNd t.men/\H o=some (.tup (given od))/\
 ∀(H':Hp) (a':Ta) (r:Addr),TabAt P w cs H' a' (gv t p od).1 k->a'.tb=a.tb->LK a H H'->(a'.b.ki=a.b.ki\/H a'.b.ki=none)->H r=none->H' r=some (.lst ((gv t p od).2.map V.int))->Q (.ref r) H'
theorem scGiv:FnScope ["table","p","order","unit"] ["table","p","order"] (defScope sGiv):=fs
theorem ukv_ord (t:Table)(p:Nat)(od:Order)(ua:Nat->Addr):ukv (ordered t p od).men ua=ukv t.men ua:=by
 unfold ukv Vbsoaa.ordered
 rw[List.map_map]
 refine List.map_congr_left λm _=>?_
 show(Sum.inl ((if m.prov=p then {m with order:=od}else m).prov:Int),V.ref (ua (if m.prov=p then {m with order:=od}else m).prov))=_
 split<;>rfl
theorem ok_giv {f:Addr}{fd:FuncData}(F:Fun K "give_order" "give_order" sGiv f fd)(T:Tx K mg cs):FnOk P w K mg base CX0 1 f fd ["table","p","order"] (spGiv P w cs):=by
 refine def_ F scGiv (λvs H Q E h=>?_) (λcdv A outer s H vs Q E hr h=>?_)
 ·obtain⟨_,_,_,_,_,_,rfl,_⟩:=h;rfl
 ·obtain⟨a,t,k,p,o,od,rfl,A',pnd,ho,kk⟩:=h
  have hu:=hu_of hr
  refine bcons (ifR (bb:= !(manAt t.men p).isSome) ((tnotInD hu (var 1) (λH2 s2=>tUnits T (A'.same s2) (var 0)) λH2 s2=>(A'.same s2).getU p).to (by rw[Option.isSome_map])) (λhc H1 s1=>?_) λhc H1 s1=>?_)
  ·have e0:gv t p od=(t,[-5]):=if_pos (by simpa using hc)
   rw[e0]at kk
   exact bone (ansS (row:=[-5]) A' s1 (one (glob T.gNO_UNIT)) (by decide) kk)
  ·have e0:gv t p od=(ordered t p od,[0]):=if_neg (by intro z;rw[z]at hc;cases hc)
   rw[e0]at kk
   have A1:=A'.same s1
   obtain⟨m,hm⟩:∃m,manAt t.men p=some m:=Option.isSome_iff_exists.mp (by simpa using hc)
   have hmem:=Vw.mem_of hm
   have hprov:=Vw.prov_of hm
   refine bcons (set 3 scGiv.nd (ixG hu (tUnits T A1 (var 0)) (λ_ _=>var 1) λH2 s2=>by have:=(A1.same s2).getU p;rw[hm]at this;exact this) λH2 s2=>?_)
   have A2:=A1.same s2
   obtain⟨oo,⟨dxu,hU⟩,hoo⟩:=A2.u.us m hmem
   rw[hprov]at hU
   have ho2:=(s1.trans s2) _ _ ho
   refine bcons (putV (var 2) (λ_ _=>var 3) hU T.clU T.uOrd (lt1000 rfl) λH3 g3 k3=>?_)
   have g3':H3 (a.ua p)=some (.ins cs.U dxu (uf m o)):=g3
   obtain⟨n1,n2,n3,n4,n5⟩:=A2.ntb
   have ntb:a.tb≠a.ua p:=λz=>n3 m hmem (by rw[hprov];exact z.symm)
   have nbo:a.b.bo≠a.ua p:=λz=>n4 m hmem (by rw[hprov];exact z.symm)
   have nko:a.k.ob≠a.ua p:=λz=>n5 m hmem (by rw[hprov];exact z.symm)
   have A3:TabAt P w cs H3 a (ordered t p od) k:=by
    obtain⟨dxt,ot⟩:=A2.o
    refine⟨⟨dxt,k3 _ _ (by simpa using ntb) ot⟩,A2.b.kx k3 hU nbo,⟨?_,λy hy=>?_,λy hy y' hy' e=>?_⟩,A2.k.kx k3 hU nko,A2.nd⟩
    ·rw[ukv_ord]
     exact k3 _ _ (λz=>by have:=A2.u.un;rw[List.mem_singleton.mp z,hU]at this;cases this) A2.u.un
    ·obtain⟨y0,hy0,rfl⟩:=List.mem_map.mp hy
     by_cases c:y0.prov=p
     ·rw[if_pos c]
      have:y0=m:=Kn.prov_inj pnd hy0 hmem (c.trans hprov.symm)
      ·subst this
       show∃o',UnitAt cs.U H3 (a.ua y0.prov) {y0 with order:=od} o'/\_
       refine⟨o,⟨dxu,by rw[show a.ua y0.prov=a.ua p from by rw[hprov]];exact g3'⟩,k3 _ _ (λz=>by rw[List.mem_singleton.mp z,hU]at ho2;cases ho2) ho2⟩
     ·rw[if_neg c]
      obtain⟨o',⟨dx',e1⟩,e2⟩:=A2.u.us y0 hy0
      refine⟨o',⟨dx',k3 _ _ (λz=>c ?_) e1⟩,k3 _ _ (λz=>by rw[List.mem_singleton.mp z,hU]at e2;cases e2) e2⟩
      have z:=List.mem_singleton.mp z
      rw[<-hprov]
      exact A2.u.inj y0 hy0 m hmem (by rw[hprov];exact z)
    ·obtain⟨y0,hy0,rfl⟩:=List.mem_map.mp hy
     obtain⟨y1,hy1,rfl⟩:=List.mem_map.mp hy'
     have q0:∀z:Man,(if z.prov=p then {z with order:=od}else z).prov=z.prov:=λz=>by split<;>rfl
     rw[q0,q0]at e⊢
     exact A2.u.inj y0 hy0 y1 hy1 e
   exact bone (ansK (a:=a) (a':=a) (row:=[0]) A3 rfl ((LK.of (s1.trans s2)).trans (lk_x A2 k3 hU)) (.inl rfl) (λc e=>(s1.trans s2).free (keep_free k3 (λc hc=>by rw[List.mem_singleton.mp hc];exact⟨_,g3⟩) e)) (one (glob T.gDONE)) (by decide) kk)
abbrev cOho:List Int->Vbsoaa.Call:=λns=>.hold (ns.getD 0 0)
theorem scOho:FnScope ["table","p"] ["table","p"] (defScope sOho):=fs
theorem ok_oho {f:Addr}{fd:FuncData}(F:Fun K "order_hold" "order_hold" sOho f fd)(T:Tx K mg cs)(FG:Fn P w K mg base 1 "give_order" ["table","p","order"] (spGiv P w cs)):FD P w K mg base cs 3 f fd ["table","p"] 1 (λt _ ns=>∃p:Nat,ns=[(p:Int)]/\p<t.board.kinds.length) (bf cOho):=by
 refine def_ F scOho (λvs H Q E h=>?_) (λcdv A outer s H vs Q E hr h=>?_)
 ·obtain⟨_,_,_,ns,rfl,hl,_⟩:=h;simp[hl]
 ·obtain⟨a,t,k,ns,rfl,hl,A',wt,⟨p,rfl,hp⟩,kk⟩:=h
  have hs0:Vbsoaa.step t (.hold (p:Int))=gv t p (.hold):=by
   unfold Vbsoaa.step
   simp only[isProv_nat hp,isMan_nat hp,Bool.and_self,Bool.true_eq_false,if_false,Int.toNat_natCast]
   rfl
  have kk:∀(H':Hp) (a':Ta) (r:Addr),TabAt P w cs H' a' (Vbsoaa.step t (.hold (p:Int))).1 k->a'.tb=a.tb->LK a H H'->(a'.b.ki=a.b.ki\/H a'.b.ki=none)->H r=none->H' r=some (.lst ((Vbsoaa.step t (.hold (p:Int))).2.map V.int))->Q (.ref r) H':=kk
  rw[hs0]at kk
  refine bone (retE (callE FG (hr.mono (by decide)) ((cons' (var 0) λ_ _=>cons' (var 1) λ_ _=>one' (tupA (vs:=[.str "hold"]) (one (glob T.gHOLD)))) _ λvs H1 s1 hv=>?_)))
  obtain⟨_,rfl,_,rfl,v,rfl,o,rfl,ho⟩:=hv
  refine⟨a,t,k,p,o,.hold,rfl,A'.same s1,wt.md,ho,λH' a' r h1 h2 h3 h4 h5 h6=>kk H' a' r h1 h2 ((LK.of s1).trans h3) (h4.imp id λz=>s1.free z) (s1.free h5) h6⟩
abbrev cOmv:List Int->Vbsoaa.Call:=λns=>.move (ns.getD 0 0) (ns.getD 1 0) (ns.getD 2 0) (ns.getD 3 0)
theorem scOmv:FnScope ["table","p","q","t","water"] ["table","p","q","t","water"] (defScope sOmv):=fs
theorem ok_omv {f:Addr}{fd:FuncData}(F:Fun K "order_move" "order_move" sOmv f fd)(T:Tx K mg cs)(FG:Fn P w K mg base 1 "give_order" ["table","p","order"] (spGiv P w cs)):FD P w K mg base cs 3 f fd ["table","p","q","t","water"] 4 (λt _ ns=>∃p q u wt:Nat,ns=[(p:Int),(q:Int),(u:Int),(wt:Int)]/\p<t.board.kinds.length/\q<t.board.kinds.length/\u<=3/\wt<=1) (bf cOmv):=by
 refine def_ F scOmv (λvs H Q E h=>?_) (λcdv A outer s H vs Q E hr h=>?_)
 ·obtain⟨_,_,_,ns,rfl,hl,_⟩:=h;simp[hl]
 ·obtain⟨a,t,k,ns,rfl,hl,A',wt,⟨p,q,u,wa,rfl,hp,hq,hu3,hw1⟩,kk⟩:=h
  have hs0:Vbsoaa.step t (.move (p:Int) (q:Int) (u:Int) (wa:Int))=gv t p (.move q u ((wa:Int)==1)):=by
   have w1:Vbsoaa.within (u:Int) 0 3=true:=within_nat (m:=3) hu3
   have w2:Vbsoaa.within (wa:Int) 0 1=true:=within_nat (m:=1) hw1
   unfold Vbsoaa.step
   simp only[isProv_nat hp,isProv_nat hq,w1,w2,isMan_nat hp,Bool.and_self,Bool.true_eq_false,if_false,Int.toNat_natCast]
   rfl
  have kk:∀(H':Hp) (a':Ta) (r:Addr),TabAt P w cs H' a' (Vbsoaa.step t (.move (p:Int) (q:Int) (u:Int) (wa:Int))).1 k->a'.tb=a.tb->LK a H H'->(a'.b.ki=a.b.ki\/H a'.b.ki=none)->H r=none->H' r=some (.lst ((Vbsoaa.step t (.move (p:Int) (q:Int) (u:Int) (wa:Int))).2.map V.int))->Q (.ref r) H':=kk
  rw[hs0]at kk
  refine bone (retE (callE FG (hr.mono (by decide)) ((cons' (var 0) λ_ _=>cons' (var 1) λ_ _=>one' (tupA (vs:=[.str "move",.int q,.int u,.int wa]) (cons (glob T.gMOVE) λ_ _=>cons (var 2) λ_ _=>cons (var 3) λ_ _=>one (var 4)))) _ λvs H1 s1 hv=>?_)))
  obtain⟨_,rfl,_,rfl,v,rfl,o,rfl,ho⟩:=hv
  refine⟨a,t,k,p,o,.move q u ((wa:Int)==1),rfl,A'.same s1,wt.md,by rw[ho];show _=some (HO.tup [V.str "move",V.int q,V.int u,V.int (Vbsoaa.bit ((wa:Int)==1))]);rw[bit1 hw1],λH' a' r h1 h2 h3 h4 h5 h6=>kk H' a' r h1 h2 ((LK.of s1).trans h3) (h4.imp id λz=>s1.free z) (s1.free h5) h6⟩
abbrev cOst:List Int->Vbsoaa.Call:=λns=>.stay (ns.getD 0 0) (ns.getD 1 0)
theorem scOst:FnScope ["table","p","q"] ["table","p","q"] (defScope sOst):=fs
theorem ok_ost {f:Addr}{fd:FuncData}(F:Fun K "order_stay" "order_stay" sOst f fd)(T:Tx K mg cs)(FG:Fn P w K mg base 1 "give_order" ["table","p","order"] (spGiv P w cs)):FD P w K mg base cs 3 f fd ["table","p","q"] 2 (λt _ ns=>∃p q:Nat,ns=[(p:Int),(q:Int)]/\p<t.board.kinds.length/\q<t.board.kinds.length) (bf cOst):=by
 refine def_ F scOst (λvs H Q E h=>?_) (λcdv A outer s H vs Q E hr h=>?_)
 ·obtain⟨_,_,_,ns,rfl,hl,_⟩:=h;simp[hl]
 ·obtain⟨a,t,k,ns,rfl,hl,A',wt,⟨p,q,rfl,hp,hq⟩,kk⟩:=h
  have hs0:Vbsoaa.step t (.stay (p:Int) (q:Int))=gv t p (.stay q):=by
   unfold Vbsoaa.step
   simp only[isProv_nat hp,isProv_nat hq,isMan_nat hp,Bool.and_self,Bool.true_eq_false,if_false,Int.toNat_natCast]
   rfl
  have kk:∀(H':Hp) (a':Ta) (r:Addr),TabAt P w cs H' a' (Vbsoaa.step t (.stay (p:Int) (q:Int))).1 k->a'.tb=a.tb->LK a H H'->(a'.b.ki=a.b.ki\/H a'.b.ki=none)->H r=none->H' r=some (.lst ((Vbsoaa.step t (.stay (p:Int) (q:Int))).2.map V.int))->Q (.ref r) H':=kk
  rw[hs0]at kk
  refine bone (retE (callE FG (hr.mono (by decide)) ((cons' (var 0) λ_ _=>cons' (var 1) λ_ _=>one' (tupA (vs:=[.str "stay",.int q]) (cons (glob T.gSTAY) λ_ _=>one (var 2)))) _ λvs H1 s1 hv=>?_)))
  obtain⟨_,rfl,_,rfl,v,rfl,o,rfl,ho⟩:=hv
  refine⟨a,t,k,p,o,.stay q,rfl,A'.same s1,wt.md,ho,λH' a' r h1 h2 h3 h4 h5 h6=>kk H' a' r h1 h2 ((LK.of s1).trans h3) (h4.imp id λz=>s1.free z) (s1.free h5) h6⟩
abbrev cOai:List Int->Vbsoaa.Call:=λns=>.aid (ns.getD 0 0) (ns.getD 1 0) (ns.getD 2 0)
theorem scOai:FnScope ["table","p","a","q"] ["table","p","a","q"] (defScope sOai):=fs
theorem ok_oai {f:Addr}{fd:FuncData}(F:Fun K "order_aid" "order_aid" sOai f fd)(T:Tx K mg cs)(FG:Fn P w K mg base 1 "give_order" ["table","p","order"] (spGiv P w cs)):FD P w K mg base cs 3 f fd ["table","p","a","q"] 3 (λt _ ns=>∃p x q:Nat,ns=[(p:Int),(x:Int),(q:Int)]/\p<t.board.kinds.length/\x<t.board.kinds.length/\q<t.board.kinds.length) (bf cOai):=by
 refine def_ F scOai (λvs H Q E h=>?_) (λcdv A outer s H vs Q E hr h=>?_)
 ·obtain⟨_,_,_,ns,rfl,hl,_⟩:=h;simp[hl]
 ·obtain⟨a,t,k,ns,rfl,hl,A',wt,⟨p,x,q,rfl,hp,hx,hq⟩,kk⟩:=h
  have hs0:Vbsoaa.step t (.aid (p:Int) (x:Int) (q:Int))=gv t p (.aid x q):=by
   unfold Vbsoaa.step
   simp only[isProv_nat hp,isProv_nat hx,isProv_nat hq,isMan_nat hp,Bool.and_self,Bool.true_eq_false,if_false,Int.toNat_natCast]
   rfl
  have kk:∀(H':Hp) (a':Ta) (r:Addr),TabAt P w cs H' a' (Vbsoaa.step t (.aid (p:Int) (x:Int) (q:Int))).1 k->a'.tb=a.tb->LK a H H'->(a'.b.ki=a.b.ki\/H a'.b.ki=none)->H r=none->H' r=some (.lst ((Vbsoaa.step t (.aid (p:Int) (x:Int) (q:Int))).2.map V.int))->Q (.ref r) H':=kk
  rw[hs0]at kk
  refine bone (retE (callE FG (hr.mono (by decide)) ((cons' (var 0) λ_ _=>cons' (var 1) λ_ _=>one' (tupA (vs:=[.str "aid",.int x,.int q]) (cons (glob T.gAID) λ_ _=>cons (var 2) λ_ _=>one (var 3)))) _ λvs H1 s1 hv=>?_)))
  obtain⟨_,rfl,_,rfl,v,rfl,o,rfl,ho⟩:=hv
  refine⟨a,t,k,p,o,.aid x q,rfl,A'.same s1,wt.md,ho,λH' a' r h1 h2 h3 h4 h5 h6=>kk H' a' r h1 h2 ((LK.of s1).trans h3) (h4.imp id λz=>s1.free z) (s1.free h5) h6⟩
abbrev cOca:List Int->Vbsoaa.Call:=λns=>.carry (ns.getD 0 0) (ns.getD 1 0) (ns.getD 2 0)
theorem scOca:FnScope ["table","p","a","q"] ["table","p","a","q"] (defScope sOca):=fs
theorem ok_oca {f:Addr}{fd:FuncData}(F:Fun K "order_carry" "order_carry" sOca f fd)(T:Tx K mg cs)(FG:Fn P w K mg base 1 "give_order" ["table","p","order"] (spGiv P w cs)):FD P w K mg base cs 3 f fd ["table","p","a","q"] 3 (λt _ ns=>∃p x q:Nat,ns=[(p:Int),(x:Int),(q:Int)]/\p<t.board.kinds.length/\x<t.board.kinds.length/\q<t.board.kinds.length) (bf cOca):=by
 refine def_ F scOca (λvs H Q E h=>?_) (λcdv A outer s H vs Q E hr h=>?_)
 ·obtain⟨_,_,_,ns,rfl,hl,_⟩:=h;simp[hl]
 ·obtain⟨a,t,k,ns,rfl,hl,A',wt,⟨p,x,q,rfl,hp,hx,hq⟩,kk⟩:=h
  have hs0:Vbsoaa.step t (.carry (p:Int) (x:Int) (q:Int))=gv t p (.carry x q):=by
   unfold Vbsoaa.step
   simp only[isProv_nat hp,isProv_nat hx,isProv_nat hq,isMan_nat hp,Bool.and_self,Bool.true_eq_false,if_false,Int.toNat_natCast]
   rfl
  have kk:∀(H':Hp) (a':Ta) (r:Addr),TabAt P w cs H' a' (Vbsoaa.step t (.carry (p:Int) (x:Int) (q:Int))).1 k->a'.tb=a.tb->LK a H H'->(a'.b.ki=a.b.ki\/H a'.b.ki=none)->H r=none->H' r=some (.lst ((Vbsoaa.step t (.carry (p:Int) (x:Int) (q:Int))).2.map V.int))->Q (.ref r) H':=kk
  rw[hs0]at kk
  refine bone (retE (callE FG (hr.mono (by decide)) ((cons' (var 0) λ_ _=>cons' (var 1) λ_ _=>one' (tupA (vs:=[.str "carry",.int x,.int q]) (cons (glob T.gCARRY) λ_ _=>cons (var 2) λ_ _=>one (var 3)))) _ λvs H1 s1 hv=>?_)))
  obtain⟨_,rfl,_,rfl,v,rfl,o,rfl,ho⟩:=hv
  refine⟨a,t,k,p,o,.carry x q,rfl,A'.same s1,wt.md,ho,λH' a' r h1 h2 h3 h4 h5 h6=>kk H' a' r h1 h2 ((LK.of s1).trans h3) (h4.imp id λz=>s1.free z) (s1.free h5) h6⟩
end
open Vbsoaa (nums)
abbrev sPos:Stmt:=top 97
abbrev sFor:Stmt:=top 98
abbrev sLoo:Stmt:=top 99
abbrev sM1p:Stmt:=top 100
abbrev sMap:Stmt:=top 101
abbrev sTkn:Stmt:=top 102
abbrev sTbo:Stmt:=top 103
abbrev sTun:Stmt:=top 104
abbrev sTsu:Stmt:=top 105
abbrev sTco:Stmt:=top 106
section
variable {P:Program}{w:World}{K:Fg}{mg:Str->Option Value}{base:Heap}{cs:Cs}
def spPos (P:Program)(w:World)(cs:Cs):Sp:=λvs H Q _=>∃(a:Ta) (t:Table) (k:Known),vs=[.ref a.tb]/\TabAt P w cs H a t k/\Kn.WT t/\
 ∀(H':Hp) (pa:Pa),pa.un=a.un->pa.ua=a.ua->pa.k=a.k->PosAt P w cs H' pa t.board (eff t) k->H' a.un=some (.dK (ukv t.men a.ua))->Same H H'->Q (.ref pa.po) H'
theorem scPos:FnScope ["table"] ["table"] (defScope sPos):=fs
theorem ok_pos {f:Addr}{fd:FuncData}(F:Fun K "position_on" "position_on" sPos f fd)(T:Tx K mg cs)(GP:CkP P w K mg base cs):FnOk P w K mg base CX0 9 f fd ["table"] (spPos P w cs):=by
 refine def_ F scPos (λvs H Q E h=>?_) (λcdv A outer s H vs Q E hr h=>?_)
 ·obtain⟨_,_,_,rfl,_⟩:=h;rfl
 ·obtain⟨a,t,k,rfl,A',wt,kk⟩:=h
  refine bone (retE (makeE GP hr ((cons (tBoard T A' (var 0)) λH1 s1=>cons (tUnits T (A'.same s1) (var 0)) λH2 s2=>one (tKnown T (A'.same (s1.trans s2)) (var 0))) _ λH1 s1 x dx hx hdx hne=>⟨x,dx,a.b,a.un,a.ua,a.k,t,k,rfl,upd_same,?_,?_,?_,wt,A'.nd,λH' pa e1 e2 e3 e4 e5 PA un' kp=>⟨rfl,?_⟩⟩)))
  ·exact A'.b.same (s1.trans (same_new hx hdx))
  ·exact A'.u.same (s1.trans (same_new hx hdx))
  ·exact A'.k.same (s1.trans (same_new hx hdx))
  ·rw[<-e1]
   exact kk H' pa e3 e4 e5 PA un' (s1.trans (same_keep hx hdx kp))
abbrev FnPos (P:Program)(w:World)(K:Fg)(mg:Str->Option Value)(base:Heap)(cs:Cs):Prop:=Fn P w K mg base 9 "position_on" ["table"] (spPos P w cs)
theorem posE {X:Cx}{Z:Sg}{H:Hp}{a:Ta}{t:Table}{k:Known}{n:Nat}{pos fp:Pos}{x:Expr}{Q:VK}(G:FnPos X.prog X.w X.K X.mg X.base cs)(hr:Room n X.A)(A:TabAt X.prog X.w cs H a t k)(wt:Kn.WT t)(h1:Ev X x Z H (.ref a.tb))
  (q:∀(H':Hp) (pa:Pa),pa.un=a.un->pa.ua=a.ua->pa.k=a.k->PosAt X.prog X.w cs H' pa t.board (eff t) k->H' a.un=some (.dK (ukv t.men a.ua))->Same H H'->Q (.ref pa.po) H') (hn:9<=n:=by decide) (gl:Gl X "position_on":=by rfl) (he:starEach [x] X.env=(false,eval x X.env)::starEach [] X.env:=by rfl) (hpl:(backTo pos (starEach [] X.env)).any (·.1)=false:=by rfl):tE X (.Call (.Name "position_on" fp) [x] [] pos) Z H Q:=
 callE G (hr.mono hn) ((one h1 he) _ λH1 s1=>⟨a,t,k,rfl,A.same s1,wt,λH' pa e1 e2 e3 PA un' s'=>q H' pa e1 e2 e3 PA un' (s1.trans s')⟩) gl (by decide) he hpl
def nf (c:List Int->Vbsoae.Call):Table->Known->List Int->Table×Known×List Int:=λt k ns=>((Vbsoae.step ⟨t,k⟩ (c ns)).1.table,(Vbsoae.step ⟨t,k⟩ (c ns)).1.known,(Vbsoae.step ⟨t,k⟩ (c ns)).2)
abbrev Gd (t:Table)(k:Known):Prop:=Kn.Good t.board (eff t) k
theorem scFor:FnScope ["table"] ["table"] (defScope sFor):=fs
theorem putKnown {X:Cx}{Z:Sg}{H:Hp}{D:Ends}{a:Ta}{t:Table}{k:Known}{n:Nat}{pos pos' p1 p2:Pos}{x:Expr}(T:Tx X.K X.mg cs)(G:CkK X.prog X.w X.K X.mg X.base cs)(hr:Room n X.A)(A:TabAt X.prog X.w cs H a t k)(h1:∀H1,Same H H1->Ev X x Z H1 (.ref a.tb))
  (q:∀(H':Hp) (ka:Ka),TabAt X.prog X.w cs H' {a with k:=ka} t {}->Keep [a.tb] H H'->(∃o,H' a.tb=some o)->D.nx Z H') (hn:2<=n:=by decide) (hg:Gl X "Known":=by rfl) (hs:swapsWith (.Call (.Name "Known" p1) [] [] p2) (some (.Attribute x "known" pos')) pos.line X.env=pure false:=by rfl):tS X (.Assign [.Attribute x "known" pos'] (.Call (.Name "Known" p1) [] [] p2) pos) D Z H:=by
 obtain⟨dx,o⟩:=A.o
 obtain⟨n1,n2,n3,n4,n5⟩:=A.ntb
 refine put (newKnown G hr hn hg) h1 o T.clT T.tKno (lt1000 rfl) (λv H1 H2 s1 ⟨ka,ev,A1,fr⟩ s2=>?_) hs
 subst ev
 have s12:=s1.trans s2
 have x2:=s12 _ _ o
 have kq:Keep [a.tb] H2 (upd H2 a.tb (.ins cs.T dx (putF "known" (.ref ka.ob) (tf a)))):=λc o n e=>by rw[upd_ne (by simpa using n)];exact e
 have kne:ka.ob≠a.tb:=by
  obtain⟨dxk,ok⟩:=(A1.same s2).o
  exact ne_fst ok x2 (show(some ("goes":Str))≠some "board" from by decide)
 refine q _ ka ⟨⟨dx,by rw[upd_same];rfl⟩,(A.b.same s12).kx kq x2 n1,(A.u.same s12).kx kq x2 n3,(A1.same s2).kx kq x2 kne,?_⟩ ((Keep.of s12).trans kq) ⟨_,upd_same⟩
 intro m
 have m:a.un∈ka.ds:=m
 have:=A.u.un
 rw[fr _ m]at this;cases this
theorem ok_for {f:Addr}{fd:FuncData}(F:Fun K "forget_all" "forget_all" sFor f fd)(T:Tx K mg cs)(GK:CkK P w K mg base cs):FD P w K mg base cs 3 f fd ["table"] 0 (λ_ _ _=>True) (nf λ_=>.forget):=by
 refine def_ F scFor (λvs H Q E h=>?_) (λcdv A outer s H vs Q E hr h=>?_)
 ·obtain⟨_,_,_,ns,rfl,hl,_⟩:=h;simp[hl]
 ·obtain⟨a,t,k,ns,rfl,hl,A',wt,_,kk⟩:=h
  obtain rfl:ns=[]:=List.length_eq_zero_iff.mp hl
  obtain⟨dx,o⟩:=A'.o
  refine bcons (putKnown T GK hr A' (λ_ _=>var 0) λH1 ka A1 kp ht=>?_)
  exact bone (ansK (a:=a) (a':={a with k:=ka}) (t':=t) (k':={}) (row:=[0]) A1 rfl (lk_x A' kp o) (.inl rfl) (λc e=>keep_free kp (λc hc=>by rw[List.mem_singleton.mp hc];exact ht) e) (one (glob T.gDONE)) (by decide) kk)
theorem manE {t:Table}{p:Nat}:(manAt (eff t) p).isSome=(manAt t.men p).isSome:=by rw[Vw.manAt_eff,Option.isSome_map]
theorem doneE {X:Cx}{Z:Sg}{H:Hp}{pos gp:Pos}{e:Expr}{Q:VK}(T:Tx X.K X.mg cs)(h:∀H1,Same H H1->tE X e Z H1 λv H2=>∃i:Int,v=.int i/\∀r,H2 r=none->Q (.ref r) (upd H2 r (.lst [.int 0,.int i])))(hg:Gl X "DONE":=by rfl)
  (he:starEach [.Name "DONE" gp,e] X.env=(false,eval (.Name "DONE" gp) X.env)::starEach [e] X.env:=by rfl) (he2:starEach [e] X.env=(false,eval e X.env)::starEach [] X.env:=by rfl):tE X (.List [.Name "DONE" gp,e] pos) Z H Q:=
 lstE (consE (Ev.go (glob T.gDONE hg) λH1 s1=>consE ((h H1 s1).mono λv H2 ⟨i,ev,q⟩=>nilE (by subst ev;exact⟨Nat.le_of_ble_eq_true rfl,q⟩)) he2) he)
theorem after_look {H H1 H2:Hp}{a:Ta}{t:Table}{k k':Known}{pa:Pa}{r:Addr}{row:List V}(A:TabAt P w cs H a t k)(s1:Same H H1)(ek:pa.k=a.k)(PA:PosAt P w cs H2 pa t.board (eff t) k')(kp:Keep pa.k.ds H1 H2)(hr:H2 r=none):
  TabAt P w cs (upd H2 r (.lst row)) a t k'/\LK a H (upd H2 r (.lst row))/\H r=none:=by
 have A1:=A.same s1
 rw[ek]at kp
 have hK:KnownAt cs.K H2 a.k k':=by rw[<-ek];exact PA.k
 have A2:=A1.upk hK kp
 have sr:Same H2 (upd H2 r (.lst row)):=λc o e=>by rw[upd_ne (ne_of_none e hr)];exact e
 refine⟨A2.same sr,((LK.of s1).trans (lk_ds A1 kp)).trans (LK.of sr),s1.free (keep_free kp (λd hd=>?_) hr)⟩
 obtain⟨kvs,e⟩:=hK.isD hd
 exact⟨_,e⟩
abbrev cLoo:List Int->Vbsoae.Call:=λns=>.look (ns.getD 0 0) (ns.getD 1 0)
theorem scLoo:FnScope ["table","what","p"] ["table","what","p"] (defScope sLoo):=fs
theorem told_eq (s:Vbsoae.State)(k:Known):Vbsoae.told s k=({s with known:=k},[0,((sizes k:Nat):Int)-((sizes s.known:Nat):Int)]):=rfl
theorem ok_loo {f:Addr}{fd:FuncData}(F:Fun K "look_at_one" "look_at_one" sLoo f fd)(T:Tx K mg cs)(FP:FnPos P w K mg base cs)(FL:Fn P w K mg base 8 "look_at_unit" ["position","what","p"] (spLu P w cs)):FD P w K mg base cs 12 f fd ["table","what","p"] 2 (λt k ns=>Gd t k/\∃wt p:Nat,ns=[(wt:Int),(p:Int)]/\wt<=2/\p<t.board.kinds.length) (nf cLoo):=by
 refine def_ F scLoo (λvs H Q E h=>?_) (λcdv A outer s H vs Q E hr h=>?_)
 ·obtain⟨_,_,_,ns,rfl,hl,_⟩:=h;simp[hl]
 ·obtain⟨a,t,k,ns,rfl,hl,A',wt,⟨gd,wh,p,rfl,hw,hp⟩,kk⟩:=h
  have hu:=hu_of hr
  have hs0:Vbsoae.step ⟨t,k⟩ (.look (wh:Int) (p:Int))=if(manAt t.men p).isSome=false then(⟨t,k⟩,[-5])else(⟨t,learn t.board (eff t) k wh p⟩,[0,((sizes (learn t.board (eff t) k wh p):Nat):Int)-((sizes k:Nat):Int)]):=by
   have w1:Vbsoaa.within (wh:Int) 0 2=true:=within_nat (m:=2) hw
   unfold Vbsoae.step
   simp only[w1,isProv_nat hp,isMan_nat hp,Bool.and_self,Bool.true_eq_false,if_false,Int.toNat_natCast,told_eq]
  have kk:∀(H':Hp) (a':Ta) (r:Addr),TabAt P w cs H' a' (Vbsoae.step ⟨t,k⟩ (.look (wh:Int) (p:Int))).1.table (Vbsoae.step ⟨t,k⟩ (.look (wh:Int) (p:Int))).1.known->a'.tb=a.tb->LK a H H'->(a'.b.ki=a.b.ki\/H a'.b.ki=none)->H r=none->H' r=some (.lst ((Vbsoae.step ⟨t,k⟩ (.look (wh:Int) (p:Int))).2.map V.int))->Q (.ref r) H':=kk
  rw[hs0]at kk
  refine bcons (ifR (bb:= !(manAt t.men p).isSome) ((tnotInD hu (var 2) (λH2 s2=>tUnits T (A'.same s2) (var 0)) λH2 s2=>(A'.same s2).getU p).to (by rw[Option.isSome_map])) (λhc H1 s1=>?_) λhc H1 s1=>?_)
  ·rw[if_pos (by simpa using hc)]at kk
   exact bone (ansS (row:=[-5]) A' s1 (one (glob T.gNO_UNIT)) (by decide) kk)
  ·rw[if_neg (by intro z;rw[z]at hc;cases hc)]at kk
   obtain⟨m,hm⟩:∃m,manAt (eff t) p=some m:=Option.isSome_iff_exists.mp (by rw[manE];simpa using hc)
   have zb:=Kn.sizes_bound gd
   have ln:(eff t).length<=24:=by unfold Vbsoaa.eff Vbsoaa.settled;rw[List.length_map];exact wt.mn
   refine bone (retE (doneE T λH2 s2=>callE FL (hr.mono (by decide)) (consE (posE FP hr (A'.same (s1.trans s2)) wt (var 0) λH3 pa e1 e2 e3 PA un' s3=>(cons (var 1) λ_ _=>one (var 2)) _ λH4 s4=>⟨pa,t.board,eff t,k,wh,p,m,rfl,PA.same s4,hw,hm,by omega,λH5 PA5 kp5=>⟨_,rfl,λr hr=>?_⟩⟩))))
   obtain⟨h1,h2,h3⟩:=after_look (row:=[.int 0,.int (((sizes (learn t.board (eff t) k wh p):Nat):Int)-((sizes k:Nat):Int))]) A' (s1.trans (s2.trans (s3.trans s4))) e3 PA5 kp5 hr
   exact kk _ a r h1 rfl h2 (.inl rfl) h3 upd_same
theorem scM1p:FnScope ["table"] ["table"] (defScope sM1p):=fs
theorem ok_m1p {f:Addr}{fd:FuncData}(F:Fun K "make_one_pass" "make_one_pass" sM1p f fd)(T:Tx K mg cs)(FP:FnPos P w K mg base cs)(FO:Fn P w K mg base 9 "one_pass" ["position"] (spOp P w cs)):FD P w K mg base cs 12 f fd ["table"] 0 (λt k _=>Gd t k) (nf λ_=>.pass):=by
 refine def_ F scM1p (λvs H Q E h=>?_) (λcdv A outer s H vs Q E hr h=>?_)
 ·obtain⟨_,_,_,ns,rfl,hl,_⟩:=h;simp[hl]
 ·obtain⟨a,t,k,ns,rfl,hl,A',wt,gd,kk⟩:=h
  obtain rfl:ns=[]:=List.length_eq_zero_iff.mp hl
  refine bone (retE (doneE T λH2 s2=>callE FO (hr.mono (by decide)) (consE (posE FP hr (A'.same s2) wt (var 0) λH3 pa e1 e2 e3 PA un' s3=>nilE ⟨pa,t.board,eff t,k,rfl,PA,?_,gd,λH5 PA5 un5 kp5=>⟨_,rfl,λr hr=>?_⟩⟩))))
  ·rw[ukv_eff,e1,e2];exact un'
  ·obtain⟨h1,h2,h3⟩:=after_look (row:=[.int 0,.int (((sizes (Vbsoae.pass t.board (eff t) k):Nat):Int)-((sizes k:Nat):Int))]) A' (s2.trans s3) e3 PA5 kp5 hr
   exact kk _ a r h1 rfl h2 (.inl rfl) h3 upd_same
theorem scMap:FnScope ["table"] ["table"] (defScope sMap):=fs
theorem ok_map {f:Addr}{fd:FuncData}(F:Fun K "make_all_passes" "make_all_passes" sMap f fd)(T:Tx K mg cs)(FP:FnPos P w K mg base cs)(FO:Fn P w K mg base 10 "all_passes" ["position"] (spAp P w cs)):FD P w K mg base cs 12 f fd ["table"] 0 (λt k _=>Gd t k) (nf λ_=>.all_):=by
 refine def_ F scMap (λvs H Q E h=>?_) (λcdv A outer s H vs Q E hr h=>?_)
 ·obtain⟨_,_,_,ns,rfl,hl,_⟩:=h;simp[hl]
 ·obtain⟨a,t,k,ns,rfl,hl,A',wt,gd,kk⟩:=h
  obtain rfl:ns=[]:=List.length_eq_zero_iff.mp hl
  refine bone (retE (doneE T λH2 s2=>callE FO (hr.mono (by decide)) (consE (posE FP hr (A'.same s2) wt (var 0) λH3 pa e1 e2 e3 PA un' s3=>nilE ⟨pa,t.board,eff t,k,rfl,PA,?_,gd,λH5 PA5 un5 kp5=>⟨_,rfl,λr hr=>?_⟩⟩))))
  ·rw[ukv_eff,e1,e2];exact un'
  ·obtain⟨h1,h2,h3⟩:=after_look (row:=[.int 0,.int (((sizes (Vbsoae.all_ t.board (eff t) k):Nat):Int)-((sizes k:Nat):Int))]) A' (s2.trans s3) e3 PA5 kp5 hr
   exact kk _ a r h1 rfl h2 (.inl rfl) h3 upd_same
theorem scTco:FnScope ["table"] ["table"] (defScope sTco):=fs
theorem ok_tco {f:Addr}{fd:FuncData}(F:Fun K "tell_count" "tell_count" sTco f fd)(T:Tx K mg cs)(MW:MtW P w K mg base cs):FD P w K mg base cs 3 f fd ["table"] 0 (λ_ _ _=>True) (nf λ_=>.count):=by
 refine def_ F scTco (λvs H Q E h=>?_) (λcdv A outer s H vs Q E hr h=>?_)
 ·obtain⟨_,_,_,ns,rfl,hl,_⟩:=h;simp[hl]
 ·obtain⟨a,t,k,ns,rfl,hl,A',wt,_,kk⟩:=h
  obtain rfl:ns=[]:=List.length_eq_zero_iff.mp hl
  exact bone (ansS (row:=[0,((sizes k:Nat):Int)]) A' (Same.refl _) (cons (glob T.gDONE) λH1 s1=>one (howE MW hr (A'.same s1).k (tKnown T (A'.same s1) (var 0)))) (Nat.le_of_ble_eq_true rfl) kk)
abbrev cTsu:List Int->Vbsoae.Call:=λns=>.support (ns.getD 0 0)
theorem scTsu:FnScope ["table","p","position"] ["table","p"] (defScope sTsu):=fs
theorem ok_tsu {f:Addr}{fd:FuncData}(F:Fun K "tell_support" "tell_support" sTsu f fd)(T:Tx K mg cs)(FP:FnPos P w K mg base cs)(F1:FnP P w K mg base cs 4 "surely_cut" fSc)(F2:FnP P w K mg base cs 4 "may_be_cut" fMc):FD P w K mg base cs 12 f fd ["table","p"] 1 (λt _ ns=>∃p:Nat,ns=[(p:Int)]/\p<t.board.kinds.length) (nf cTsu):=by
 refine def_ F scTsu (λvs H Q E h=>?_) (λcdv A outer s H vs Q E hr h=>?_)
 ·obtain⟨_,_,_,ns,rfl,hl,_⟩:=h;simp[hl]
 ·obtain⟨a,t,k,ns,rfl,hl,A',wt,⟨p,rfl,hp⟩,kk⟩:=h
  have hu:=hu_of hr
  have hs0:Vbsoae.step ⟨t,k⟩ (.support (p:Int))=match manAt (eff t) p with|none=>(⟨t,k⟩,[-5])|some m=>(⟨t,k⟩,[0,Vbsoaa.bit (Vbsoae.sureCut (eff t) k m),Vbsoaa.bit (Vbsoae.mayCut (eff t) k m)]):=by
   unfold Vbsoae.step
   simp only[isProv_nat hp,Bool.true_eq_false,if_false,Int.toNat_natCast]
   cases manAt (eff t) p<;>rfl
  have kk:∀(H':Hp) (a':Ta) (r:Addr),TabAt P w cs H' a' (Vbsoae.step ⟨t,k⟩ (.support (p:Int))).1.table (Vbsoae.step ⟨t,k⟩ (.support (p:Int))).1.known->a'.tb=a.tb->LK a H H'->(a'.b.ki=a.b.ki\/H a'.b.ki=none)->H r=none->H' r=some (.lst ((Vbsoae.step ⟨t,k⟩ (.support (p:Int))).2.map V.int))->Q (.ref r) H':=kk
  rw[hs0]at kk
  refine bcons (ifR (bb:= !(manAt t.men p).isSome) ((tnotInD hu (var 1) (λH2 s2=>tUnits T (A'.same s2) (var 0)) λH2 s2=>(A'.same s2).getU p).to (by rw[Option.isSome_map])) (λhc H1 s1=>?_) λhc H1 s1=>?_)
  ·have hm:manAt (eff t) p=none:=by
    have:(manAt (eff t) p).isSome=false:=by rw[manE];simpa using hc
    cases q:manAt (eff t) p with|none=>rfl|some y=>rw[q]at this;cases this
   rw[hm]at kk
   exact bone (ansS (row:=[-5]) A' s1 (one (glob T.gNO_UNIT)) (by decide) kk)
  ·obtain⟨m,hm⟩:∃m,manAt (eff t) p=some m:=Option.isSome_iff_exists.mp (by rw[manE];simpa using hc)
   rw[hm]at kk
   refine bcons (setE 2 (posE FP hr (A'.same s1) wt (var 0) λH3 pa e1 e2 e3 PA un' s3=>?_) scTsu.nd)
   have bitE:∀(b:Bool),V.int (if b then 1 else 0)=V.int (Vbsoaa.bit b):=λb=>by cases b<;>rfl
   refine bone (ansS (row:=[0,Vbsoaa.bit (Vbsoae.sureCut (eff t) k m),Vbsoaa.bit (Vbsoae.mayCut (eff t) k m)]) A' (s1.trans s3) (cons (glob T.gDONE) λH4 s4=>cons (ifx (tv (callPos F1 hr (PA.same s4) (var 2) (λ_ _=>var 1) ⟨m,hm,rfl⟩)) (λhb H5 s5=>int_.to ?_) λhb H5 s5=>int_.to ?_) λH5 s5=>one (ifx (tv (callPos F2 hr (PA.same (s4.trans s5)) (var 2) (λ_ _=>var 1) ⟨m,hm,rfl⟩)) (λhb H5 s5=>int_.to ?_) λhb H5 s5=>int_.to ?_)) (Nat.le_of_ble_eq_true rfl) kk)
   all_goals (try dsimp only at hb);rw[hb];rfl
abbrev cTbo:List Int->Vbsoae.Call:=λns=>.bounds (ns.getD 0 0)
theorem scTbo:FnScope ["table","p","position"] ["table","p"] (defScope sTbo):=fs
theorem ok_tbo {f:Addr}{fd:FuncData}(F:Fun K "tell_bounds" "tell_bounds" sTbo f fd)(T:Tx K mg cs)(FP:FnPos P w K mg base cs)(MV:MtP P w K mg base cs 1 "moves" fMvs)(F1:FnP P w K mg base cs 3 "holds_lower" fHol)(F2:FnP P w K mg base cs 3 "holds_upper" fHou)(F3:FnP P w K mg base cs 3 "attack_lower" fAtl)(F4:FnP P w K mg base cs 3 "attack_upper" fAtu)
  (F5:FnP P w K mg base cs 4 "wall_lower" fWal) (F6:FnP P w K mg base cs 4 "wall_upper" fWau) (F7:FnP P w K mg base cs 3 "keeps_out_lower" fKol) (F8:FnP P w K mg base cs 3 "keeps_out_upper" fKou):FD P w K mg base cs 12 f fd ["table","p"] 1 (λt _ ns=>∃p:Nat,ns=[(p:Int)]/\p<t.board.kinds.length) (nf cTbo):=by
 refine def_ F scTbo (λvs H Q E h=>?_) (λcdv A outer s H vs Q E hr h=>?_)
 ·obtain⟨_,_,_,ns,rfl,hl,_⟩:=h;simp[hl]
 ·obtain⟨a,t,k,ns,rfl,hl,A',wt,⟨p,rfl,hp⟩,kk⟩:=h
  have hu:=hu_of hr
  have hs0:Vbsoae.step ⟨t,k⟩ (.bounds (p:Int))=match manAt (eff t) p with|none=>(⟨t,k⟩,[-5])|some m=>match goal m with
    |none=>(⟨t,k⟩,0::nums [Vbsoae.holdLow (eff t) k m.prov,Vbsoae.holdHigh (eff t) k m.prov])
    |some q=>(⟨t,k⟩,0::nums [Vbsoae.attackLow (eff t) k m q,Vbsoae.attackHigh (eff t) k m q,Vbsoae.wallLow (eff t) k m q,Vbsoae.wallHigh (eff t) k m q,Vbsoae.preventLow (eff t) k m q,Vbsoae.preventHigh (eff t) k m q]):=by
   unfold Vbsoae.step
   simp only[isProv_nat hp,Bool.true_eq_false,if_false,Int.toNat_natCast]
   cases manAt (eff t) p with
   |none=>rfl
   |some m=>cases hgm:goal m<;>simp only[hgm]
  have kk:∀(H':Hp) (a':Ta) (r:Addr),TabAt P w cs H' a' (Vbsoae.step ⟨t,k⟩ (.bounds (p:Int))).1.table (Vbsoae.step ⟨t,k⟩ (.bounds (p:Int))).1.known->a'.tb=a.tb->LK a H H'->(a'.b.ki=a.b.ki\/H a'.b.ki=none)->H r=none->H' r=some (.lst ((Vbsoae.step ⟨t,k⟩ (.bounds (p:Int))).2.map V.int))->Q (.ref r) H':=kk
  rw[hs0]at kk
  refine bcons (ifR (bb:= !(manAt t.men p).isSome) ((tnotInD hu (var 1) (λH2 s2=>tUnits T (A'.same s2) (var 0)) λH2 s2=>(A'.same s2).getU p).to (by rw[Option.isSome_map])) (λhc H1 s1=>?_) λhc H1 s1=>?_)
  ·have hm:manAt (eff t) p=none:=by
    have:(manAt (eff t) p).isSome=false:=by rw[manE];simpa using hc
    cases q:manAt (eff t) p with|none=>rfl|some y=>rw[q]at this;cases this
   rw[hm]at kk
   exact bone (ansS (row:=[-5]) A' s1 (one (glob T.gNO_UNIT)) (by decide) kk)
  ·obtain⟨m,hm⟩:∃m,manAt (eff t) p=some m:=Option.isSome_iff_exists.mp (by rw[manE];simpa using hc)
   rw[hm]at kk
   have hpr:=Vw.prov_of hm
   refine bcons (setE 2 (posE FP hr (A'.same s1) wt (var 0) λH3 pa e1 e2 e3 PA un' s3=>?_) scTbo.nd)
   refine bcons (ifR (tnot (tv (methPos MV hr PA (var 2) (λ_ _=>var 1) rfl))) (λhb H4 s4=>?_) λhb H4 s4=>?_)
   ·have hg:goal m=none:=by
     unfold Vw.mvs at hb
     rw[hm]at hb
     cases q:goal m with|none=>rfl|some y=>rw[Option.any_some,q]at hb;cases hb
    simp only[hg]at kk
    rw[hpr]at kk
    exact bone (ansS (row:=0::nums [Vbsoae.holdLow (eff t) k p,Vbsoae.holdHigh (eff t) k p]) A' (s1.trans (s3.trans s4)) (cons (glob T.gDONE) λH5 s5=>cons (callPos F1 hr (PA.same (s4.trans s5)) (var 2) (λ_ _=>var 1) rfl) λH6 s6=>one (callPos F2 hr (PA.same (s4.trans (s5.trans s6))) (var 2) (λ_ _=>var 1) rfl)) (Nat.le_of_ble_eq_true rfl) kk)
   ·obtain⟨q,hg⟩:∃q,goal m=some q:=by
     unfold Vw.mvs at hb
     rw[hm]at hb
     cases q:goal m with|none=>rw[Option.any_some,q]at hb;cases hb|some y=>exact⟨y,rfl⟩
    simp only[hg]at kk
    have P4:=PA.same s4
    refine bone (ansS (row:=0::nums [Vbsoae.attackLow (eff t) k m q,Vbsoae.attackHigh (eff t) k m q,Vbsoae.wallLow (eff t) k m q,Vbsoae.wallHigh (eff t) k m q,Vbsoae.preventLow (eff t) k m q,Vbsoae.preventHigh (eff t) k m q]) A' (s1.trans (s3.trans s4)) (cons (glob T.gDONE) λH5 s5=>cons (callPos F3 hr (P4.same s5) (var 2) (λ_ _=>var 1) ⟨m,q,hm,hg,rfl⟩) λH6 s6=>cons (callPos F4 hr (P4.same (s5.trans s6)) (var 2) (λ_ _=>var 1) ⟨m,q,hm,hg,rfl⟩) λH7 s7=>cons (callPos F5 hr (P4.same (s5.trans (s6.trans s7))) (var 2) (λ_ _=>var 1) ⟨m,q,hm,hg,rfl⟩) λH8 s8=>cons (callPos F6 hr (P4.same (s5.trans (s6.trans (s7.trans s8)))) (var 2) (λ_ _=>var 1) ⟨m,q,hm,hg,rfl⟩) λH9 s9=>cons (callPos F7 hr (P4.same (s5.trans (s6.trans (s7.trans (s8.trans s9))))) (var 2) (λ_ _=>var 1) ⟨m,q,hm,hg,rfl⟩) λH10 s10=>one (callPos F8 hr (P4.same (s5.trans (s6.trans (s7.trans (s8.trans (s9.trans s10)))))) (var 2) (λ_ _=>var 1) ⟨m,q,hm,hg,rfl⟩)) (Nat.le_of_ble_eq_true rfl) kk)
def segs (k:Known):List (List Nat):=[k.goes,k.stuck,k.way,k.noway,k.cut,k.uncut]
def seg (l:List Nat):List Int:=(l.length:Int)::nums l
def pre (k:Known)(i:Nat):List Int:=0::((segs k).take i).flatMap seg
theorem six_at {H:Hp}{a:Ka}{k:Known}(A:KnownAt cs.K H a k){i:Nat}{v:V}(h:(sixV a)[i]?=some v):∃d l,v=.ref d/\(segs k)[i]?=some l/\DAt H d l:=by
 match i,h with
 |0,h=>cases h;exact⟨_,_,rfl,rfl,A.go⟩
 |1,h=>cases h;exact⟨_,_,rfl,rfl,A.fa⟩
 |2,h=>cases h;exact⟨_,_,rfl,rfl,A.wa⟩
 |3,h=>cases h;exact⟨_,_,rfl,rfl,A.no⟩
 |4,h=>cases h;exact⟨_,_,rfl,rfl,A.cu⟩
 |5,h=>cases h;exact⟨_,_,rfl,rfl,A.uc⟩
 |i+6,h=>simp[sixV]at h
theorem good_len {b:Board}{ms:Men}{k:Known}(g:Kn.Good b ms k):∀l∈segs k,l.length<=ms.length/\Kn.Ris l:=by
 have key:∀l,Kn.Ris l->(∀p∈l,∃m,manAt ms p=some m)->l.length<=ms.length:=λl r h=>by
  have:=Kn.ris_le (m:=ms.map (·.prov)) (Kn.ris_nodup r) λp hp=>by
   obtain⟨m,hm⟩:=h p hp
   exact List.mem_map.mpr ⟨m,Vw.mem_of hm,Vw.prov_of hm⟩
  rw[List.length_map]at this;exact this
 intro l hl
 unfold segs at hl
 simp only[List.mem_cons,List.not_mem_nil,or_false]at hl
 rcases hl with rfl|rfl|rfl|rfl|rfl|rfl
 ·exact⟨key _ g.ris.goes λp hp=>by obtain⟨m,h,_⟩:=g.told.goes p hp;exact⟨m,h⟩,g.ris.goes⟩
 ·exact⟨key _ g.ris.stuck λp hp=>by obtain⟨m,h,_⟩:=g.told.stuck p hp;exact⟨m,h⟩,g.ris.stuck⟩
 ·exact⟨key _ g.ris.way λp hp=>by obtain⟨m,h,_⟩:=g.told.way p hp;exact⟨m,h⟩,g.ris.way⟩
 ·exact⟨key _ g.ris.noway λp hp=>by obtain⟨m,h,_⟩:=g.told.noway p hp;exact⟨m,h⟩,g.ris.noway⟩
 ·exact⟨key _ g.ris.cut λp hp=>by obtain⟨m,h,_⟩:=g.told.cut p hp;exact⟨m,h⟩,g.ris.cut⟩
 ·exact⟨key _ g.ris.uncut λp hp=>by obtain⟨m,h,_⟩:=g.told.uncut p hp;exact⟨m,h⟩,g.ris.uncut⟩
theorem pre_len {b:Board}{ms:Men}{k:Known}(g:Kn.Good b ms k)(hm:ms.length<=24)(i:Nat):(pre k i).length<=200:=by
 have h:=λl hl=>(good_len g l hl).1
 unfold segs at h
 have h1:=h k.goes (by simp)
 have h2:=h k.stuck (by simp)
 have h3:=h k.way (by simp)
 have h4:=h k.noway (by simp)
 have h5:=h k.cut (by simp)
 have h6:=h k.uncut (by simp)
 have full:(((segs k).take i).flatMap seg).length<=((segs k).flatMap seg).length:=by
  conv=>rhs;rw[<-List.take_append_drop i (segs k)]
  rw[List.flatMap_append,List.length_append];omega
 have e:((segs k).flatMap seg).length=k.goes.length+k.stuck.length+k.way.length+k.noway.length+k.cut.length+k.uncut.length+6:=by
  unfold segs seg nums
  simp
  omega
 unfold pre
 rw[List.length_cons]
 omega
theorem known_row {b:Board}{ms:Men}{t:Table}{k:Known}(g:Kn.Good b ms k):(Vbsoae.step ⟨t,k⟩ .known)=(⟨t,k⟩,pre k 6):=by
 have e:∀l,Kn.Ris l->Vbsoaa.row l=seg l:=λl h=>Kn.row_ris h
 show((⟨t,k⟩:Vbsoae.State),0::(Vbsoaa.row k.goes++(Vbsoaa.row k.stuck++(Vbsoaa.row k.way++(Vbsoaa.row k.noway++(Vbsoaa.row k.cut++Vbsoaa.row k.uncut))))))=_
 rw[e _ g.ris.goes,e _ g.ris.stuck,e _ g.ris.way,e _ g.ris.noway,e _ g.ris.cut,e _ g.ris.uncut]
 unfold pre segs
 simp
theorem permNat {ns':List Int}{L0:List Nat}(h:ns'.Perm (L0.map λn:Nat=>(n:Int)))(hs:ns'.Pairwise (·<=·)):∃L:List Nat,ns'=L.map (λn:Nat=>(n:Int))/\L.Perm L0/\L.Pairwise (·<=·):=by
 have hn:∀z∈ns',0<=z:=λz hz=>by
  obtain⟨n,_,rfl⟩:=List.mem_map.mp (h.mem_iff.mp hz)
  omega
 have e:ns'=(ns'.map Int.toNat).map (λn:Nat=>(n:Int)):=by
  rw[List.map_map]
  conv=>lhs;rw[<-List.map_id ns']
  refine List.map_congr_left λz hz=>?_
  have:=hn z hz
  show z=((z.toNat:Nat):Int)
  omega
 refine⟨ns'.map Int.toNat,e,?_,?_⟩
 ·have:=h.map Int.toNat
  rw[List.map_map]at this
  have q:L0.map (Int.toNat∘λn:Nat=>(n:Int))=L0:=by
   conv=>rhs;rw[<-List.map_id L0]
   exact List.map_congr_left λn _=>Int.toNat_natCast n
  rw[q]at this;exact this
 ·rw[e]at hs
  rw[List.pairwise_map]at hs
  exact hs.imp λh=>by omega
theorem sortedL {X:Cx}{Z:Sg}{H:Hp}{pos p:Pos}{e:Expr}{d:Addr}{kvs:List (Key×V)}{L s:List Nat}(hm:X.mg "sorted"=none)(h:Ev X e Z H (.ref d))(hd:H d=some (.dK kvs))(hk:kvs.map (·.1)=L.map λn:Nat=>(Sum.inl (n:Int):Key))(kl:Kl L s)(h64:L.length<64)(hst:starEach [e] X.env=(false,eval e X.env)::starEach [] X.env:=by rfl)(hg:Gl X "sorted":=by rfl)(hpl:(backTo pos (starEach [] X.env)).any (·.1)=false:=by rfl)(hc:X.calm=true:=by rfl):
  EvP X (.Call (.Name "sorted" p) [e] [] pos) Z H (NewL H (nv s)):=
 (sortedD (ns:=L.map λn:Nat=>(n:Int)) hm h hd (by rw[hk,List.map_map];rfl) (by rw[List.length_map];exact h64) hst hg hpl hc).mono λv H' s' ⟨q,ns',ev,fr,hq,hp,hs⟩=>by
  obtain⟨L',e1,e2,e3⟩:=permNat hp hs
  have:=kl.sorted e2 e3
  subst this
  refine⟨q,ev,fr,?_⟩
  rw[hq,e1,List.map_map];rfl
theorem scTkn:FnScope ["table","row","kind"] ["table"] (defScope sTkn):=fs
theorem ok_tkn {f:Addr}{fd:FuncData}(F:Fun K "tell_known" "tell_known" sTkn f fd)(T:Tx K mg cs)(MS:MtS P w K mg base cs):FD P w K mg base cs 3 f fd ["table"] 0 (λt k _=>Gd t k) (nf λ_=>.known):=by
 refine def_ F scTkn (λvs H Q E h=>?_) (λcdv A outer s H vs Q E hr h=>?_)
 ·obtain⟨_,_,_,ns,rfl,hl,_⟩:=h;simp[hl]
 ·obtain⟨a,t,k,ns,rfl,hl,A',wt,gd,kk⟩:=h
  obtain rfl:ns=[]:=List.length_eq_zero_iff.mp hl
  have kk:∀(H':Hp) (a':Ta) (r:Addr),TabAt P w cs H' a' (Vbsoae.step ⟨t,k⟩ .known).1.table (Vbsoae.step ⟨t,k⟩ .known).1.known->a'.tb=a.tb->LK a H H'->(a'.b.ki=a.b.ki\/H a'.b.ki=none)->H r=none->H' r=some (.lst ((Vbsoae.step ⟨t,k⟩ .known).2.map V.int))->Q (.ref r) H':=kk
  rw[known_row gd]at kk
  have ln:(eff t).length<=24:=by unfold Vbsoaa.eff Vbsoaa.settled;rw[List.length_map];exact wt.mn
  refine bcons (setP 1 scTkn.nd (lst (vs:=[.int 0]) (one (glob T.gDONE))) λv H1 s1 ⟨r,ev,fr,hr1⟩=>?_)
  subst ev
  have A1:=A'.same s1
  refine bcons (forList 2 scTkn.nd (sixP MS hr A1.k (tKnown T A1 (var 0))) λl H2 s2 fl hl2=>?_)
  have hrl:r≠l:=ne_of_none hr1 fl
  refine⟨λi Z H'=>∃v,Z=[some (.ref a.tb),some (.ref r),v]/\Same H H'/\H' l=some (.lst (sixV a.k))/\H' r=some (.lst ((pre k i).map V.int)),⟨none,rfl,s1.trans s2,hl2,by rw[s2 _ _ hr1];rfl⟩,λi Z H' ⟨_,_,_,z,_⟩=>z,?_,?_⟩
  ·rintro i y Z H3 hy ⟨v,rfl,s3,hl3,hr3⟩
   obtain⟨d,sg,rfl,hsg,L,hd,kl⟩:=six_at (A'.k.same s3) hy
   have hsm:=pre_len gd ln i
   have hsm':=pre_len gd ln (i+1)
   have hsl:sg.length<=24:=Nat.le_trans (good_len gd sg (List.mem_of_getElem? hsg)).1 ln
   have hkl:(kkv L).length=sg.length:=by unfold kkv;rw[List.length_map,kl.len]
   have upk:∀{G G':Hp},Same H G->(∀c o,c≠r->G c=some o->G' c=some o)->Same H G':=λs k c o e=>k c o (ne_of_none e fr) (s c o e)
   refine bcons (drop (append (ad:=r) (var 1) hr3 (λH4 s4=>lenD T.mlen (var 2) (s4 _ _ hd)) (by rw[List.length_map];exact small1000 (by omega)) λH4 s4=>?_))
   have k5:∀c o,c≠r->H3 c=some o->upd H4 r (.lst ((pre k i).map V.int++[.int (kkv L).length])) c=some o:=λc o n e=>by rw[upd_ne n];exact s4 _ _ e
   have hdr:d≠r:=ne_of hd hr3 (λz=>nomatch z)
   generalize hG:upd H4 r (.lst ((pre k i).map V.int++[.int (kkv L).length]))=G at k5⊢
   have gr:G r=some (.lst ((pre k i).map V.int++[.int (kkv L).length])):=by rw[<-hG,upd_same]
   refine bone (drop (extendP (ad:=r) (zs:=nv sg) (var 1) gr (λH5 s5=>sortedL T.msorted (var 2) (s5 _ _ (k5 _ _ hdr hd)) (by unfold kkv;rw[List.map_map];rfl) kl (by rw[kl.len];omega)) (by rw[List.length_append,List.length_map,nv_len];exact Nat.le_of_lt (small1000 (by simp only[List.length_cons,List.length_nil];omega))) λH5 s5=>⟨_,rfl,?_,?_,?_⟩))
   ·exact upk (upk s3 k5) λc o n e=>by rw[upd_ne n];exact s5 _ _ e
   ·rw[upd_ne (Ne.symm hrl)];exact s5 _ _ (k5 _ _ (Ne.symm hrl) hl3)
   ·rw[upd_same]
    unfold pre
    rw[take_snoc' hsg,List.flatMap_append,hkl]
    simp[seg,nv,nums]
  ·rintro Z H3 ⟨v,rfl,s3,hl3,hr3⟩
   exact bone (ret (var 1) λH4 s4=>kk H4 a r (A'.same (s3.trans s4)) rfl (LK.of (s3.trans s4)) (.inl rfl) fr (s4 _ _ hr3))
theorem scTun:FnScope ["table","position","known","moves","undecided","p"] ["table"] (defScope sTun):=fs
theorem ok_tun {f:Addr}{fd:FuncData}(F:Fun K "tell_unknown" "tell_unknown" sTun f fd)(T:Tx K mg cs)(FP:FnPos P w K mg base cs)(MV:MtP P w K mg base cs 1 "moves" fMvs):FD P w K mg base cs 12 f fd ["table"] 0 (λ_ _ _=>True) (nf λ_=>.unknown):=by
 refine def_ F scTun (λvs H Q E h=>?_) (λcdv A outer s H vs Q E hr h=>?_)
 ·obtain⟨_,_,_,ns,rfl,hl,_⟩:=h;simp[hl]
 ·obtain⟨a,t,k,ns,rfl,hl,A',wt,_,kk⟩:=h
  obtain rfl:ns=[]:=List.length_eq_zero_iff.mp hl
  have hu:=hu_of hr
  have nd:=Kn.settled_nd wt.md
  generalize hL:Vbsoaa.sorted (t.men.map (·.prov))=L
  have kl:Kl (t.men.map (·.prov)) L:=by rw[<-hL];exact⟨wt.md,λx=>Kn.mem_sorted.symm,Kn.ris_sorted _⟩
  have pL:L.Perm ((eff t).map (·.prov)):=by
   have e:(eff t).map (·.prov)=t.men.map (·.prov):=by unfold Vbsoaa.eff Vbsoaa.settled;rw[List.map_map];rfl
   rw[e]
   exact(List.perm_ext_iff_of_nodup (Kn.ris_nodup kl.ris) kl.nd).mpr λx=>(kl.mem x).symm
  have sL:L.Pairwise (·<=·):=kl.ris.imp λh=>Nat.le_of_lt h
  have lL:L.length<=24:=by rw[<-kl.len,List.length_map];exact wt.mn
  have eu:=Vw.unknown_eq (k:=k) nd pL sL
  generalize hU:((L.filter λp=>mvs (eff t) p).filter λp=>!k.goes.contains p&& !k.stuck.contains p)=U at eu
  have hl1:(L.filter λp=>mvs (eff t) p).length<=24:=Nat.le_trans (List.length_filter_le _ _) lL
  have lU:U.length<=24:=by rw[<-hU];exact Nat.le_trans (List.length_filter_le _ _) hl1
  have kk:∀(H':Hp) (a':Ta) (r:Addr),TabAt P w cs H' a' t k->a'.tb=a.tb->LK a H H'->(a'.b.ki=a.b.ki\/H a'.b.ki=none)->H r=none->H' r=some (.lst ((0::Vbsoaa.row (Vbsoae.unknown (eff t) k)).map V.int))->Q (.ref r) H':=kk
  rw[Vw.unknown_row,<-eu]at kk
  refine bcons (setE 1 (posE FP hr A' wt (var 0) λH1 pa e1 e2 e3 PA un' s1=>?_) scTun.nd (hx:=Or.inr rfl))
  have A1:=A'.same s1
  refine bcons (set 2 scTun.nd (tKnown T A1 (var 0)) (hx:=Or.inr rfl) λH2 s2=>?_)
  have A2:=A1.same s2
  have P2:=PA.same s2
  refine bcons (setLcT (xs:=nv L) 3 5 (fN λp=>mvs (eff t) p) id scTun.nd (by show BlkOk ["table","position","known","moves","undecided","p"] (defScope sTun) _ [("p",5)];exact⟨rfl,by decide+kernel,by decide+kernel,by decide+kernel,by decide+kernel⟩) (NewL.sq (sortedL T.msorted (tUnits T A2 (var 0)) A2.u.un (by unfold ukv;rw[List.map_map,List.map_map];rfl) kl (by rw[List.length_map];have:=wt.mn;omega))) (by rw[nv_len];omega) (λs1 H0 C cl fp y hy H3 s3=>?_) (λs1 H0 C cl fp y hy _ H3 s3=>var 5) λl1 H3 s3 fr3 hl3=>?_)
  ·obtain⟨n,hn,rfl⟩:=mem_nv hy
   rw[fN_nat]
   exact tv (methPos MV hr (P2.same s3) (var 1) (λ_ _=>var 5) rfl)
  rw[List.map_id,filter_nv]at hl3
  have A3:=A2.same s3
  refine bcons (setLcT (xs:=nv (L.filter λp=>mvs (eff t) p)) 4 5 (fN λp=>!k.goes.contains p&& !k.stuck.contains p) id scTun.nd (by show BlkOk ["table","position","known","moves","undecided","p"] (defScope sTun) _ [("p",5)];exact⟨rfl,by decide+kernel,by decide+kernel,by decide+kernel,by decide+kernel⟩) ((var 3).sq (SqL.of hl3)) (by rw[nv_len];omega) (λs1 H0 C cl fp y hy H4 s4=>?_) (λs1 H0 C cl fp y hy _ H4 s4=>var 5) λl2 H4 s4 fr4 hl4=>?_)
  ·obtain⟨n,hn,rfl⟩:=mem_nv hy
   rw[fN_nat]
   have K4:=(A3.same s4).k
   exact and2 (tnotInDk hu (var 5) (λH5 s5=>kGoes T (K4.same s5) (var 2)) K4.go) λ_ H5 s5=>tnotInDk hu (var 5) (λH6 s6=>kFails T (K4.same (s5.trans s6)) (var 2)) (K4.same s5).fa
  rw[List.map_id,filter_nv,hU]at hl4
  have s14:=s1.trans (s2.trans (s3.trans s4))
  refine bone (retP (catPE (xs:=[.int 0,.int U.length]) (ys:=nv U) (by rw[nv_len];simp only[List.length_cons,List.length_nil];omega) (lst (cons (glob T.gDONE) λH5 s5=>one ((lenL T.mlen (var 4) (SqL.of (s5 _ _ hl4))).to (by rw[nv_len])))) (λ_ _=>var 4) hl4) λv H5 s5 ⟨r,ev,fr,hx⟩=>?_)
  subst ev
  refine kk H5 a r (A'.same (s14.trans s5)) rfl (LK.of (s14.trans s5)) (.inl rfl) (s14.free fr) ?_
  rw[hx]
  simp[nv,nums]
end
end OK
namespace RR
open PySem PySem.Spec PyProof.Rows L2
section
variable {X:Cx}{pos:Pos}{i o:Expr}{ty td:TE}
def tMDIn (P:Program)(w:World)(K:Fg)(ty td:TE):TE:=λZ H Q=>ty Z H λy H1=>td Z H1 λx H2=>∃a f k,x=.ref a/\y=kV k/\MD P w K a f/\Q (.bl (f k).isSome) H2
theorem pc_mdin (hi:PE X i ty)(ho:PE X o td):PC X .In i o (tMDIn X.prog X.w X.K ty td):=by
 intro pins s Z H Q I h
 refine thn (hi pins s Z H _ I h) λiv s1 ⟨y,H1,I1,ry,q1⟩=>thn (ho pins s1 Z H1 _ I1 q1) λu s2 ⟨x,H2,I2,rx,a,f,k,ex,ey,md,q2⟩=>?_
 subst ex ey
 obtain rfl:u=Value.ref a:=rx
 obtain⟨g,m,r⟩:=md.map I2.kIn
 refine wpAny_in_of (kV_is ry) md.sm m ?_
 rw[<-(r k).isSome_eq]
 exact⟨.bl (f k).isSome,H2,I2.tok _,rfl,q2⟩
end
end RR
namespace Vm
open PySem PySem.Spec PyProof.Rows L2 RR
section
variable {X:Cx}{Z:Sg}{H:Hp}{D:Ends}{pos pos' apos tp px py p:Pos}{o i e f a b e1 e2:Expr}{body:List Stmt}{es:List Expr}{v:V}{x y:Str}
theorem inMD {d:Addr}{g:Key->Option V}{k:Key}(ha:Ev X a Z H (kV k))(hb:∀H1,Same H H1->Ev X b Z H1 (.ref d))(m:MD X.prog X.w X.K d g)(hm:behindInMarks .In b=false:=by with_unfolding_all rfl):Ev X (.Compare a [.In] [b] pos) Z H (.bl (g k).isSome):=λQ q=>
 goE (pe_cmp (pc_mdin (okE a) (okE b)) hm) (ha _ λH1 s1=>hb H1 s1 _ λH2 s2=>⟨d,g,k,rfl,rfl,m,q H2 (s1.trans s2)⟩)
theorem ixMD {d:Addr}{g:Key->Option V}{k:Key}(ha:Ev X a Z H (.ref d))(hb:∀H1,Same H H1->Ev X b Z H1 (kV k))(m:MD X.prog X.w X.K d g)(hv:g k=some v)(hp:NoSl b:=by exact λ_ _=>rfl):Ev X (.Subscript a b pos) Z H v:=λQ q=>
 goE (pe_mdget (okE a) (okE b) hp) (ha _ λH1 s1=>hb H1 s1 _ λH2 s2=>⟨d,g,k,v,rfl,rfl,m,hv,q H2 (s1.trans s2)⟩)
theorem getMD {d:Addr}{g:Key->Option V}{k:Key}{Pz:V->Hp->Prop}(ho:Ev X o Z H (.ref d))(he:∀H1,Same H H1->Ev X e Z H1 (kV k))(hf:∀H1,Same H H1->EvP X f Z H1 Pz)(md:MD X.prog X.w X.K d g)(hv:∀z H1,Pz z H1->(g k).getD z=v)(m:M2 X o "get" apos e f pos):Ev X (.Call (.Attribute o "get" apos) [e,f] [] pos) Z H v:=λQ q=>
 goE (pe_mdget2 (okE o) (okE e) (okE f) m) (ho _ λH1 s1=>⟨d,g,rfl,md,he H1 s1 _ λH2 s2=>hf H2 (s1.trans s2) _ λz H3 s3 hz=>⟨k,rfl,by rw[hv z H3 hz];exact q H3 ((s1.trans s2).trans s3)⟩⟩)
theorem forZip (j n:Nat){ta la:Addr}{xs ys:List V}{kk:Nat}(hN:X.N.Nodup)(hm:X.mg "zip"=none)(hit:Av X [e1,e2] Z H [.ref ta,.ref la])(hx1:SqT X.K H ta xs)(hy1:SqL X.K H la ys)
  (W:Nat->Sg->Hp->Prop) (w0:∀H1,Same H H1->W 0 Z H1) (ws:∀i Z' H',W i Z' H'->Same H H')
  (turn:∀i u v Z' H' H2,xs[i]?=some u->ys[i]?=some v->W i Z' H'->Same H' H2->tB X body {D with nx:=W (i+1),ct:=W (i+1),bk:=D.nx} ((Z'.set j (some u)).set n (some v)) H2) (fin:∀i Z' H',(xs.length<=i\/ys.length<=i)->W i Z' H'->D.nx Z' H')
  (hj:X.N[j]?=some x:=by rfl) (hx:Loc X.env.scope x:=by exact Or.inl rfl) (hf:X.fn x=true\/X.env.scope.names.lookup x=some .local:=by first|exact .inl rfl|exact .inr rfl)
  (hn:X.N[n]?=some y:=by rfl) (hy:Loc X.env.scope y:=by exact Or.inl rfl) (hfy:X.fn y=true\/X.env.scope.names.lookup y=some .local:=by first|exact .inl rfl|exact .inr rfl) (hc:X.calm=true:=by rfl) (hg:Gl X "zip":=by rfl)
  (hs:starEach [e1,e2] X.env=(false,eval e1 X.env)::starEach [e2] X.env:=by rfl) (hpl:(backTo pos' (starEach [e2] X.env)).any (·.1)=false:=by rfl) (hfs:∀y,foldedSetIterable (.Call (.Name "zip" p) [e1,e2] [] pos') X.env y=pure y:=by intro _;rfl)
  (hp:PassesOwn (model X.prog X.w) X.A X.env X.xe:=by exact PassesOwn.never):tS X (.For (.Tuple [.Name x px,.Name y py] kk tp) (.Call (.Name "zip" p) [e1,e2] [] pos') body [] pos) D Z H:=by
 refine goS (ps_for hp hc (pi_zipT hg hm (okA [e1,e2]) hs hpl) (pg_tup (n:=2) hc (pgs_cons (pg_name (i:=j) hN hj hx hf) (pgs_cons (pg_name (i:=n) hN hn hy hfy) pgs_nil rfl) rfl) rfl rfl) (okB body) hfs) ?_
 show tA X [e1,e2] Z H _
 refine hit _ λH1 s1=>⟨ta,la,xs,ys,rfl,sqT s1 hx1,s1.seq hy1,?_⟩
 refine⟨λi m Z' H'=>m=xs.length-i/\i<=xs.length/\W i Z' H',⟨_,rfl,Nat.zero_le _,w0 H1 s1⟩,?_⟩
 rintro i m Z' H' ⟨rfl,hi,hw⟩
 have s':=ws i Z' H' hw
 by_cases hlt:i<xs.length/\i<ys.length
 ·refine .inr ⟨⟨xs,ys,xs[i],ys[i],sqT s' hx1,s'.seq hy1,by rw[List.getElem?_eq_getElem hlt.1],by rw[List.getElem?_eq_getElem hlt.2]⟩,W (i+1),λZ2 H2 h2=>⟨xs.length-(i+1),by omega,rfl,by omega,h2⟩,?_⟩
  rintro u H2 ⟨t,u1,v1,rfl,ht,rfl,h1,h2⟩
  have e1:=h1 xs (sqT s' hx1)
  have e2:=h2 ys (s'.seq hy1)
  exact⟨t,_,rfl,SqT.of upd_same,rfl,_,_,rfl,_,_,rfl,rfl,turn i u1 v1 Z' H' _ e1 e2 hw λc o e=>by rw[upd_ne (ne_of_none e ht)];exact e⟩
 ·have hend:xs.length<=i\/ys.length<=i:=by omega
  exact .inl ⟨⟨xs,ys,sqT s' hx1,s'.seq hy1,hend⟩,fin i Z' H' hend hw⟩
end
end Vm
namespace OK
open PySem PySem.Spec PyProof.Rows L2 RR Vm Lk
open Vw (Ok kof hav minto Kl mvs rch)
open Vbsoaa (Men Man manAt goal byWater Board putIn Table eff counts linked place kind Order ordered nums)
open Vbsoae (Known sizes learn)
abbrev sDoc:Stmt:=top 108
abbrev sRow:Stmt:=top 109
abbrev sCnt:Stmt:=top 113
abbrev sIsc:Stmt:=top 114
abbrev sAir:Stmt:=top 115
abbrev sAns:Stmt:=top 119
abbrev sAca:Stmt:=top 120
def names:Nat->List Str
 |1=>["kind"]
 |2=>["p","q"]
 |3=>["p","s","q","t"]
 |4=>["power","fleet","p","s"]
 |5=>["p"]
 |6=>["p"]
 |7=>["p","q","t","water"]
 |8=>["p","q"]
 |9=>["p","a","q"]
 |10=>["p","a","q"]
 |12=>["what","p"]
 |16=>["p"]
 |18=>["p"]
 |_=>[]
def sizeOf (x:Str):Option Int:=if x="kind" then some 3 else if x="s" then some 4 else if x="t" then some 4 else if x="power" then some 7 else if x="fleet" then some 2 else if x="water" then some 2 else if x="what" then some 3 else none
structure Md (P:Program)(w:World)(K:Fg)(mg:Str->Option Value):Prop where
 nu:∃d g,mg "NUMBERS"=some (.ref d)/\MD P w K d g/\∀p:Nat,p<=19->∃t,g (Sum.inl (p:Int))=some (.ref t)/\∀H,SqT K H t ((names p).map V.str)
 si:∃d g,mg "SIZES"=some (.ref d)/\MD P w K d g/\∀p:Nat,p<=19->∀x∈names p,g (Sum.inr x)=(sizeOf x).map V.int
section
variable {P:Program}{w:World}{K:Fg}{mg:Str->Option Value}{base:Heap}{cs:Cs}
theorem gvr {x:Str}{d:Addr}(h:mg x=some (.ref d)):Gv mg x (.ref d):=⟨_,h,rfl⟩
def rCnt (vs:List V)(_:Hp)(v:V):Prop:=∃p:Nat,vs=[.int p]/\p<=19/\v=.int ((names p).length:Nat)
theorem scCnt:FnScope ["place"] ["place"] (defScope sCnt):=fs
theorem ok_cnt {f:Addr}{fd:FuncData}(F:Fun K "count_of_numbers" "count_of_numbers" sCnt f fd)(T:Tx K mg cs)(M:Md P w K mg):FnOk P w K mg base CX0 1 f fd ["place"] (spv rCnt):=by
 refine def_ F scCnt (λvs H Q E h=>?_) (λcdv A outer s H vs Q E hr h=>?_)
 ·obtain⟨_,⟨_,rfl,_⟩,_⟩:=h;rfl
 ·obtain⟨_,⟨p,rfl,hp,rfl⟩,kk⟩:=h
  obtain⟨d,g,hd,md,hg⟩:=M.nu
  obtain⟨t,ht,hs⟩:=hg p hp
  refine bone (ret ((lenTu T.mlen (getMD (v:=.ref t) (k:=Sum.inl (p:Int)) (Pz:=λ_ _=>True) (glob (gvr hd)) (λ_ _=>var 0) (λ_ _=>(tup nil).mono λ_ _ _ _=>trivial) md (λz _ _=>by rw[ht];rfl) ⟨rfl,rfl,rfl,rfl⟩) (hs H)).to ?_) kk)
  rw[List.length_map]
def rIsc (K:Fg)(vs:List V)(H:Hp)(v:V):Prop:=∃(p:Nat) (l:Addr) (ys:List V),vs=[.int p,.ref l]/\SqL K H l ys/\p<=19/\v=.bl (decide (ys.length=(names p).length))
theorem scIsc:FnScope ["place","numbers"] ["place","numbers"] (defScope sIsc):=fs
theorem ok_isc {f:Addr}{fd:FuncData}(F:Fun K "is_call" "is_call" sIsc f fd)(T:Tx K mg cs)(M:Md P w K mg)(FC:Fn P w K mg base 1 "count_of_numbers" ["place"] (spv rCnt)):FnOk P w K mg base CX0 2 f fd ["place","numbers"] (spv (rIsc K)):=by
 refine def_ F scIsc (λvs H Q E h=>?_) (λcdv A outer s H vs Q E hr h=>?_)
 ·obtain⟨_,⟨_,_,_,rfl,_⟩,_⟩:=h;rfl
 ·obtain⟨_,⟨p,l,ys,rfl,hl,hp,rfl⟩,kk⟩:=h
  obtain⟨d,g,hd,md,hg⟩:=M.nu
  obtain⟨t,ht,hs⟩:=hg p hp
  refine bone (ret ((vand2 (inMD (k:=Sum.inl (p:Int)) (var 0) (λ_ _=>glob (gvr hd)) md) λ_ H1 s1=>eqI (lenL T.mlen (var 1) (s1.seq hl)) λH2 s2=>call FC hr (one (var 0)) λH3 s3=>⟨p,rfl,hp,rfl⟩).to ?_) kk)
  rw[ht]
  show V.bl (true&&_)=_
  rw[Bool.true_and]
  congr 1
  rw[Bool.eq_iff_iff,decide_eq_true_eq,decide_eq_true_eq]
  omega
def okNum (n:Nat)(x:Str)(z:Int):Bool:= !decide (z<0)&& !decide ((sizeOf x).getD n<=z)
def inR (p:Nat)(ns:List Int)(n:Nat):Bool:=((names p).zip ns).all λq=>okNum n q.1 q.2
def rAir (K:Fg)(vs:List V)(H:Hp)(v:V):Prop:=∃(p:Nat) (l:Addr) (ns:List Int) (n:Nat),vs=[.int p,.ref l,.int n]/\SqL K H l (ns.map V.int)/\p<=19/\ns.length=(names p).length/\v=.bl (inR p ns n)
theorem scAir:FnScope ["place","numbers","provinces","name","number"] ["place","numbers","provinces"] (defScope sAir):=fs
theorem ok_air {f:Addr}{fd:FuncData}(F:Fun K "all_in_range" "all_in_range" sAir f fd)(T:Tx K mg cs)(M:Md P w K mg):FnOk P w K mg base CX0 1 f fd ["place","numbers","provinces"] (spv (rAir K)):=by
 refine def_ F scAir (λvs H Q E h=>?_) (λcdv A outer s H vs Q E hr h=>?_)
 ·obtain⟨_,⟨_,_,_,_,rfl,_⟩,_⟩:=h;rfl
 ·obtain⟨_,⟨p,l,ns,n,rfl,hl,hp,hlen,rfl⟩,kk⟩:=h
  obtain⟨d,g,hd,md,hg⟩:=M.nu
  obtain⟨t,ht,hs⟩:=hg p hp
  obtain⟨d2,g2,hd2,md2,hg2⟩:=M.si
  refine bcons (forZip 3 4 (ta:=t) (la:=l) (xs:=(names p).map V.str) (ys:=ns.map V.int) scAir.nd T.mzip (cons (ixMD (k:=Sum.inl (p:Int)) (glob (gvr hd)) (λ_ _=>var 0) md ht) λ_ _=>one (var 1)) (hs H) hl
   (λi Z' H'=>Same H H'/\(∃v3 v4,Z'=[some (.int p),some (.ref l),some (.int n),v3,v4])/\(((names p).zip ns).take i).all (λq=>okNum n q.1 q.2)=true) (λH1 s1=>⟨s1,⟨none,none,rfl⟩,rfl⟩) (λi Z' H' z=>z.1) ?_ ?_)
  ·rintro i u v Z' H' H2 hu hv ⟨s1,⟨v3,v4,rfl⟩,hall⟩ s2
   rw[List.getElem?_map]at hu hv
   obtain⟨x,hx,rfl⟩:=Option.map_eq_some_iff.mp hu
   obtain⟨z,hz,rfl⟩:=Option.map_eq_some_iff.mp hv
   have hzip:((names p).zip ns)[i]?=some (x,z):=by rw[List.getElem?_zip_eq_some];exact⟨hx,hz⟩
   have s12:=s1.trans s2
   have hsz:∀zz:V,(g2 (Sum.inr x)).getD (.int n)=.int ((sizeOf x).getD n):=λ_=>by
    rw[hg2 p hp x (List.mem_of_getElem? hx)]
    cases sizeOf x<;>rfl
   refine bone (ifR (or2 (tlt (var 4) λ_ _=>int_) λ_ H3 s3=>tge (var 4) λH4 s4=>getMD (v:=.int ((sizeOf x).getD n)) (k:=Sum.inr x) (Pz:=λz _=>z=.int n) (glob (gvr hd2)) (λ_ _=>var 3) (λ_ _=>(var 2).p λ_ _=>rfl) md2 (λz _ hz=>by rw[hz];exact hsz z) ⟨rfl,rfl,rfl,rfl⟩) (λhc H3 s3=>?_) λhc H3 s3=>?_)
   ·refine bone (ret (bl_.to ?_) λH4 s4=>kk _ (s12.trans (s3.trans s4)))
    unfold inR
    congr 1
    refine(Bool.eq_false_iff.mpr λq=>?_).symm
    have:=List.all_eq_true.mp q (x,z) (List.mem_of_getElem? hzip)
    unfold okNum at this
    simp only[Bool.or_eq_true,decide_eq_true_eq]at hc
    simp only[Bool.and_eq_true,Bool.not_eq_true',decide_eq_false_iff_not]at this
    omega
   ·refine⟨s12.trans s3,⟨_,_,rfl⟩,?_⟩
    rw[take_snoc' hzip,List.all_append,hall,Bool.true_and,List.all_cons,List.all_nil,Bool.and_true]
    unfold okNum
    simp only[Bool.or_eq_false_iff]at hc
    rw[hc.1,hc.2];rfl
  ·rintro i Z' H' hend ⟨s1,⟨v3,v4,rfl⟩,hall⟩
   refine bone (ret (bl_.to ?_) λH4 s4=>kk _ (s1.trans s4))
   unfold inR
   congr 1
   rw[List.take_of_length_le (by rw[List.length_zip];rw[List.length_map,List.length_map]at hend;omega)]at hall
   exact hall.symm
end
open VbsoaeNeutral (callOf)
def fD:Nat->Table->Known->List Int->Table×Known×List Int
 |0=>bf cClr
 |1=>bf cPrv
 |2=>bf cLnd
 |3=>bf cSea
 |4=>bf cUnt
 |5=>bf cGon
 |6=>bf cOho
 |7=>bf cOmv
 |8=>bf cOst
 |9=>bf cOai
 |10=>bf cOca
 |11=>nf λ_=>.forget
 |12=>nf cLoo
 |13=>nf λ_=>.pass
 |14=>nf λ_=>.all_
 |15=>nf λ_=>.known
 |16=>nf cTbo
 |17=>nf λ_=>.unknown
 |18=>nf cTsu
 |_=>nf λ_=>.count
theorem len0 {l:List Int}(h:l.length=0):l=[]:=List.length_eq_zero_iff.mp h
theorem len1 {l:List Int}(h:l.length=1):∃a,l=[a]:=match l,h with|[a],_=>⟨a,rfl⟩
theorem len2 {l:List Int}(h:l.length=2):∃a b,l=[a,b]:=match l,h with|[a,b],_=>⟨a,b,rfl⟩
theorem len3 {l:List Int}(h:l.length=3):∃a b c,l=[a,b,c]:=match l,h with|[a,b,c],_=>⟨a,b,c,rfl⟩
theorem len4 {l:List Int}(h:l.length=4):∃a b c d,l=[a,b,c,d]:=match l,h with|[a,b,c,d],_=>⟨a,b,c,d,rfl⟩
theorem fD_base {p:Nat}(hp:p<=10){ns:List Int}(hl:ns.length=(names p).length):∃c,Kn.isBase c/\callOf ((p:Int)::ns)=.base c/\∀t k,fD p t k ns=((Vbsoaa.step t c).1,k,(Vbsoaa.step t c).2):=by
 have h:p=0\/p=1\/p=2\/p=3\/p=4\/p=5\/p=6\/p=7\/p=8\/p=9\/p=10:=by omega
 rcases h with rfl|rfl|rfl|rfl|rfl|rfl|rfl|rfl|rfl|rfl|rfl
 ·obtain rfl:=len0 hl;exact⟨.clear,trivial,rfl,λ_ _=>rfl⟩
 ·obtain⟨a,rfl⟩:=len1 hl;exact⟨.province a,trivial,rfl,λ_ _=>rfl⟩
 ·obtain⟨a,b,rfl⟩:=len2 hl;exact⟨.land a b,trivial,rfl,λ_ _=>rfl⟩
 ·obtain⟨a,b,c,d,rfl⟩:=len4 hl;exact⟨.sea a b c d,trivial,rfl,λ_ _=>rfl⟩
 ·obtain⟨a,b,c,d,rfl⟩:=len4 hl;exact⟨.man a b c d,trivial,rfl,λ_ _=>rfl⟩
 ·obtain⟨a,rfl⟩:=len1 hl;exact⟨.gone a,trivial,rfl,λ_ _=>rfl⟩
 ·obtain⟨a,rfl⟩:=len1 hl;exact⟨.hold a,trivial,rfl,λ_ _=>rfl⟩
 ·obtain⟨a,b,c,d,rfl⟩:=len4 hl;exact⟨.move a b c d,trivial,rfl,λ_ _=>rfl⟩
 ·obtain⟨a,b,rfl⟩:=len2 hl;exact⟨.stay a b,trivial,rfl,λ_ _=>rfl⟩
 ·obtain⟨a,b,c,rfl⟩:=len3 hl;exact⟨.aid a b c,trivial,rfl,λ_ _=>rfl⟩
 ·obtain⟨a,b,c,rfl⟩:=len3 hl;exact⟨.carry a b c,trivial,rfl,λ_ _=>rfl⟩
theorem fD_other {p:Nat}(h1:11<=p)(hp:p<=19){ns:List Int}(hl:ns.length=(names p).length)(t:Table)(k:Known):fD p t k ns=((Vbsoae.step ⟨t,k⟩ (callOf ((p:Int)::ns))).1.table,(Vbsoae.step ⟨t,k⟩ (callOf ((p:Int)::ns))).1.known,(Vbsoae.step ⟨t,k⟩ (callOf ((p:Int)::ns))).2):=by
 have h:p=11\/p=12\/p=13\/p=14\/p=15\/p=16\/p=17\/p=18\/p=19:=by omega
 rcases h with rfl|rfl|rfl|rfl|rfl|rfl|rfl|rfl|rfl
 ·obtain rfl:=len0 hl;rfl
 ·obtain⟨a,b,rfl⟩:=len2 hl;rfl
 ·obtain rfl:=len0 hl;rfl
 ·obtain rfl:=len0 hl;rfl
 ·obtain rfl:=len0 hl;rfl
 ·obtain⟨a,rfl⟩:=len1 hl;rfl
 ·obtain rfl:=len0 hl;rfl
 ·obtain⟨a,rfl⟩:=len1 hl;rfl
 ·obtain rfl:=len0 hl;rfl
theorem base_row {t:Table}{c:Vbsoaa.Call}(h:Kn.isBase c):∃z r,(Vbsoaa.step t c).2=z::r:=by
 cases c<;>first|exact h.elim|skip
 all_goals (unfold Vbsoaa.step;simp only[];repeat' split)<;>exact⟨_,_,rfl⟩
theorem okp (t:Table)(z:Int){x:Str}(h:sizeOf x=none):okNum t.board.kinds.length x z=Vbsoaa.isProv t z:=by
 unfold okNum Vbsoaa.isProv Vbsoaa.within
 rw[h,Bool.eq_iff_iff]
 simp only[Option.getD_none,Bool.and_eq_true,Bool.not_eq_true',decide_eq_false_iff_not,decide_eq_true_eq]
 omega
theorem okw (n:Nat)(z:Int){x:Str}{m:Int}(h:sizeOf x=some (m+1)):okNum n x z=Vbsoaa.within z 0 m:=by
 unfold okNum Vbsoaa.within
 rw[h,Bool.eq_iff_iff]
 simp only[Option.getD_some,Bool.and_eq_true,Bool.not_eq_true',decide_eq_false_iff_not,decide_eq_true_eq]
 omega
theorem szp:sizeOf "p"=none:=by decide
theorem szq:sizeOf "q"=none:=by decide
theorem sza:sizeOf "a"=none:=by decide
theorem szk:sizeOf "kind"=some (2+1):=by decide
theorem szs:sizeOf "s"=some (3+1):=by decide
theorem szt:sizeOf "t"=some (3+1):=by decide
theorem szw:sizeOf "power"=some (6+1):=by decide
theorem szf:sizeOf "fleet"=some (1+1):=by decide
theorem szwa:sizeOf "water"=some (1+1):=by decide
theorem szwh:sizeOf "what"=some (2+1):=by decide
theorem prov_nat {t:Table}{z:Int}(h:Vbsoaa.isProv t z=true):∃n:Nat,z=n/\n<t.board.kinds.length:=Kn.isProv_iff.mp h
theorem with_nat {z:Int}{m:Nat}(h:Vbsoaa.within z 0 (m:Int)=true):∃n:Nat,z=n/\n<=m:=by
 obtain⟨h1,h2⟩:=Kn.within_iff.mp h
 exact⟨z.toNat,by omega,by omega⟩
section
variable (t:Table)
theorem inR1 (a:Int):inR 1 [a] t.board.kinds.length=Vbsoaa.within a 0 2:=by
 show(okNum _ "kind" a&&true)=_;rw[okw _ _ szk,Bool.and_true]
theorem inRp {p:Nat}(h:names p=(["p"]:List Str))(a:Int):inR p [a] t.board.kinds.length=Vbsoaa.isProv t a:=by
 unfold inR;rw[h];show(okNum _ "p" a&&true)=_;rw[okp _ _ szp,Bool.and_true]
theorem inRpq {p:Nat}(h:names p=(["p","q"]:List Str))(a b:Int):inR p [a,b] t.board.kinds.length=(Vbsoaa.isProv t a&&Vbsoaa.isProv t b):=by
 unfold inR;rw[h];show(okNum _ "p" a&&(okNum _ "q" b&&true))=_;rw[okp _ _ szp,okp _ _ szq,Bool.and_true]
theorem inR3 (a b c d:Int):inR 3 [a,b,c,d] t.board.kinds.length=(Vbsoaa.isProv t a&&(Vbsoaa.within b 0 3&&(Vbsoaa.isProv t c&&Vbsoaa.within d 0 3))):=by
 show(okNum _ "p" a&&(okNum _ "s" b&&(okNum _ "q" c&&(okNum _ "t" d&&true))))=_
 rw[okp _ _ szp,okw _ _ szs,okp _ _ szq,okw _ _ szt,Bool.and_true]
theorem inR4 (a b c d:Int):inR 4 [a,b,c,d] t.board.kinds.length=(Vbsoaa.within a 0 6&&(Vbsoaa.within b 0 1&&(Vbsoaa.isProv t c&&Vbsoaa.within d 0 3))):=by
 show(okNum _ "power" a&&(okNum _ "fleet" b&&(okNum _ "p" c&&(okNum _ "s" d&&true))))=_
 rw[okw _ _ szw,okw _ _ szf,okp _ _ szp,okw _ _ szs,Bool.and_true]
theorem inR7 (a b c d:Int):inR 7 [a,b,c,d] t.board.kinds.length=(Vbsoaa.isProv t a&&(Vbsoaa.isProv t b&&(Vbsoaa.within c 0 3&&Vbsoaa.within d 0 1))):=by
 show(okNum _ "p" a&&(okNum _ "q" b&&(okNum _ "t" c&&(okNum _ "water" d&&true))))=_
 rw[okp _ _ szp,okp _ _ szq,okw _ _ szt,okw _ _ szwa,Bool.and_true]
theorem inRpaq {p:Nat}(h:names p=(["p","a","q"]:List Str))(a b c:Int):inR p [a,b,c] t.board.kinds.length=(Vbsoaa.isProv t a&&(Vbsoaa.isProv t b&&Vbsoaa.isProv t c)):=by
 unfold inR;rw[h];show(okNum _ "p" a&&(okNum _ "a" b&&(okNum _ "q" c&&true)))=_;rw[okp _ _ szp,okp _ _ sza,okp _ _ szq,Bool.and_true]
theorem inR12 (a b:Int):inR 12 [a,b] t.board.kinds.length=(Vbsoaa.within a 0 2&&Vbsoaa.isProv t b):=by
 show(okNum _ "what" a&&(okNum _ "p" b&&true))=_;rw[okw _ _ szwh,okp _ _ szp,Bool.and_true]
end
theorem base_oor {t:Table}{k:Known}{c:Vbsoaa.Call}(h:Vbsoaa.step t c=(t,[-1])):Vbsoae.step ⟨t,k⟩ (.base c)=(⟨t,k⟩,[-1]):=by
 show((if Vbsoae.changes c=true/\(Vbsoaa.step t c).2.headD 0=0 then(⟨(Vbsoaa.step t c).1,{}⟩:Vbsoae.State)else⟨(Vbsoaa.step t c).1,k⟩),(Vbsoaa.step t c).2)=_
 rw[h,if_neg (by intro z;exact absurd (show(-1:Int)=0 from z.2) (by decide))]
theorem step_oor {t:Table}{k:Known}{p:Nat}(hp:p<=19){ns:List Int}(hl:ns.length=(names p).length)(h:inR p ns t.board.kinds.length=false):Vbsoae.step ⟨t,k⟩ (callOf ((p:Int)::ns))=(⟨t,k⟩,[-1]):=by
 have hc:p=0\/p=1\/p=2\/p=3\/p=4\/p=5\/p=6\/p=7\/p=8\/p=9\/p=10\/p=11\/p=12\/p=13\/p=14\/p=15\/p=16\/p=17\/p=18\/p=19:=by omega
 rcases hc with rfl|rfl|rfl|rfl|rfl|rfl|rfl|rfl|rfl|rfl|rfl|rfl|rfl|rfl|rfl|rfl|rfl|rfl|rfl|rfl
 ·obtain rfl:=len0 hl;cases h
 ·obtain⟨a,rfl⟩:=len1 hl
  rw[inR1]at h
  exact base_oor (c:=.province a) (by unfold Vbsoaa.step;simp only[h,if_true])
 ·obtain⟨a,b,rfl⟩:=len2 hl
  rw[inRpq t rfl]at h
  exact base_oor (c:=.land a b) (by unfold Vbsoaa.step;simp only[h,if_true])
 ·obtain⟨a,b,c,d,rfl⟩:=len4 hl
  rw[inR3]at h
  have h':(Vbsoaa.isProv t a&&(Vbsoaa.isProv t c&&(Vbsoaa.within b 0 3&&Vbsoaa.within d 0 3)))=false:=by
   rw[<-h]
   cases Vbsoaa.isProv t a<;>cases Vbsoaa.isProv t c<;>cases Vbsoaa.within b 0 3<;>cases Vbsoaa.within d 0 3<;>rfl
  exact base_oor (c:=.sea a b c d) (by unfold Vbsoaa.step;simp only[h',if_true])
 ·obtain⟨a,b,c,d,rfl⟩:=len4 hl
  rw[inR4]at h
  exact base_oor (c:=.man a b c d) (by unfold Vbsoaa.step;simp only[h,if_true])
 ·obtain⟨a,rfl⟩:=len1 hl
  rw[inRp t rfl]at h
  exact base_oor (c:=.gone a) (by unfold Vbsoaa.step;simp only[h,if_true])
 ·obtain⟨a,rfl⟩:=len1 hl
  rw[inRp t rfl]at h
  exact base_oor (c:=.hold a) (by unfold Vbsoaa.step;simp only[h,if_true])
 ·obtain⟨a,b,c,d,rfl⟩:=len4 hl
  rw[inR7]at h
  exact base_oor (c:=.move a b c d) (by unfold Vbsoaa.step;simp only[h,if_true])
 ·obtain⟨a,b,rfl⟩:=len2 hl
  rw[inRpq t rfl]at h
  exact base_oor (c:=.stay a b) (by unfold Vbsoaa.step;simp only[h,if_true])
 ·obtain⟨a,b,c,rfl⟩:=len3 hl
  rw[inRpaq t rfl]at h
  exact base_oor (c:=.aid a b c) (by unfold Vbsoaa.step;simp only[h,if_true])
 ·obtain⟨a,b,c,rfl⟩:=len3 hl
  rw[inRpaq t rfl]at h
  exact base_oor (c:=.carry a b c) (by unfold Vbsoaa.step;simp only[h,if_true])
 ·obtain rfl:=len0 hl;cases h
 ·obtain⟨a,b,rfl⟩:=len2 hl
  rw[inR12]at h
  show Vbsoae.step ⟨t,k⟩ (.look a b)=_
  unfold Vbsoae.step
  simp only[h,if_true]
 ·obtain rfl:=len0 hl;cases h
 ·obtain rfl:=len0 hl;cases h
 ·obtain rfl:=len0 hl;cases h
 ·obtain⟨a,rfl⟩:=len1 hl
  rw[inRp t rfl]at h
  show Vbsoae.step ⟨t,k⟩ (.bounds a)=_
  unfold Vbsoae.step
  simp only[h,if_true]
 ·obtain rfl:=len0 hl;cases h
 ·obtain⟨a,rfl⟩:=len1 hl
  rw[inRp t rfl]at h
  show Vbsoae.step ⟨t,k⟩ (.support a)=_
  unfold Vbsoae.step
  simp only[h,if_true]
 ·obtain rfl:=len0 hl;cases h
abbrev preD (p:Nat):Table->Known->List Int->Prop:=λt k ns=>Gd t k/\inR p ns t.board.kinds.length=true
section
variable {P:Program}{w:World}{K:Fg}{mg:Str->Option Value}{base:Heap}{cs:Cs}
theorem spD_imp {n:Nat}{Pre Pre':Table->Known->List Int->Prop}{f:Table->Known->List Int->Table×Known×List Int}(h:∀t k ns,ns.length=n->Pre' t k ns->Pre t k ns):∀vs H Q E,spD P w cs n Pre' f vs H Q E->spD P w cs n Pre f vs H Q E:=by
 rintro vs H Q E ⟨a,t,k,ns,e,hl,A,wt,pr,kk⟩
 exact⟨a,t,k,ns,e,hl,A,wt,h t k ns hl pr,kk⟩
structure Dr (P:Program)(w:World)(K:Fg)(mg:Str->Option Value)(base:Heap)(cs:Cs)(p:Nat)(f:Addr):Prop where
 ex:PySem.W.keepIn K (.ref f)=true/\∃fd ps,FnOk P w K mg base CX0 12 f fd ps (spD P w cs (names p).length (preD p) (fD p))/\Binds K fd ps []
structure Drs (P:Program)(w:World)(K:Fg)(mg:Str->Option Value)(base:Heap)(cs:Cs):Prop where
 ex:∃d g,mg "DOERS"=some (.ref d)/\MD P w K d g/\∀p:Nat,p<=19->∃f,g (Sum.inl (p:Int))=some (.ref f)/\Dr P w K mg base cs p f
def spRow (P:Program)(w:World)(K:Fg)(cs:Cs):Sp:=λvs H Q _=>∃(a:Ta) (t:Table) (k:Known) (p:Nat) (l:Addr) (ns:List Int),vs=[.ref a.tb,.int p,.ref l]/\SqL K H l (ns.map V.int)/\p<=19/\ns.length=(names p).length/\TabAt P w cs H a t k/\Kn.WT t/\preD p t k ns/\
 ∀(H':Hp) (a':Ta) (r:Addr),TabAt P w cs H' a' (fD p t k ns).1 (fD p t k ns).2.1->a'.tb=a.tb->LK a H H'->(a'.b.ki=a.b.ki\/H a'.b.ki=none)->H r=none->H' r=some (.lst ((fD p t k ns).2.2.map V.int))->Q (.ref r) H'
theorem scRow:FnScope ["table","place","numbers","doer"] ["table","place","numbers"] (defScope sRow):=fs
theorem names_len (p:Nat):(names p).length<=4:=by unfold names;split<;>decide
theorem ok_row {f:Addr}{fd:FuncData}(F:Fun K "row_of_call" "row_of_call" sRow f fd)(T:Tx K mg cs)(DD:Drs P w K mg base cs):FnOk P w K mg base CX0 13 f fd ["table","place","numbers"] (spRow P w K cs):=by
 refine def_ F scRow (λvs H Q E h=>?_) (λcdv A outer s H vs Q E hr h=>?_)
 ·obtain⟨_,_,_,_,_,_,rfl,_⟩:=h;rfl
 ·obtain⟨a,t,k,p,l,ns,rfl,hl,hp,hlen,A',wt,pr,kk⟩:=h
  obtain⟨d,g,hd,md,hg⟩:=DD.ex
  obtain⟨fa,hfa,D1⟩:=hg p hp
  have hF:∀f' sp',(f'=fa/\sp'=spD P w cs (names p).length (preD p) (fD p))->PySem.W.keepIn K (.ref f')=true/\∃fd ps k,FnOk P w K mg base CX0 k f' fd ps sp'/\Room k (A.deeper (envOfC "row_of_call" (defScope sRow) s.heap.objs.size f cdv))/\Binds K fd ps []:=λf' sp' ⟨e1,e2⟩=>by
   subst e1 e2
   obtain⟨h1,fd',ps,h2,h3⟩:=D1.ex
   exact⟨h1,fd',ps,12,h2,hr,h3⟩
  refine bcons (set 3 scRow.nd (ixMD (k:=Sum.inl (p:Int)) (glob (gvr hd)) (λ_ _=>var 1) md hfa) λH1 s1=>?_)
  have fin:∀H2,Same H H2->spD P w cs (names p).length (preD p) (fD p) (.ref a.tb::ns.map V.int) H2 Q E0:=λH2 s2=>⟨a,t,k,ns,rfl,hlen,A'.same s2,wt,pr,λH' a' r h1 h2 h3 h4 h5 h6=>kk H' a' r h1 h2 ((LK.of s2).trans h3) (h4.imp id λz=>s2.free z) (s2.free h5) h6⟩
  have n4:=names_len p
  have lenE:∀{H2},Same H H2->SqL K H2 l (ns.map V.int):=λs2=>s2.seq hl
  refine bcons (ifR (teqI (lenL T.mlen (var 2) (lenE s1)) λ_ _=>int_) (λhc H2 s2=>?_) λhc H2 s2=>?_)
  ·have hc:=of_decide_eq_true hc
   rw[List.length_map]at hc
   obtain rfl:=len0 (l:=ns) (by omega)
   exact bone (retE (goE (pe_callL (CX:=CX0) (E:=E0) (λf' sp'=>f'=fa/\sp'=spD P w cs (names p).length (preD p) (fD p)) 3 hF rfl (Or.inl rfl) pass0 (okA _)) ⟨fa,_,rfl,⟨rfl,rfl⟩,(one (var 0)) _ λH3 s3=>fin H3 (s1.trans (s2.trans s3))⟩))
  have s12:=s1.trans s2
  refine bcons (ifR (teqI (lenL T.mlen (var 2) (lenE s12)) λ_ _=>int_) (λhc2 H3 s3=>?_) λhc2 H3 s3=>?_)
  ·have hc2:=of_decide_eq_true hc2
   rw[List.length_map]at hc2
   obtain⟨z0,rfl⟩:=len1 (l:=ns) (by omega)
   exact bone (retE (goE (pe_callL (CX:=CX0) (E:=E0) (λf' sp'=>f'=fa/\sp'=spD P w cs (names p).length (preD p) (fD p)) 3 hF rfl (Or.inl rfl) pass0 (okA _)) ⟨fa,_,rfl,⟨rfl,rfl⟩,(cons (var 0) λH4 s4=>one (ixL (v:=.int z0) (var 2) (λ_ _=>int_) (lenE (s12.trans (s3.trans s4))) rfl)) _ λH4 s4=>fin H4 (s12.trans (s3.trans s4))⟩))
  have s13:=s12.trans s3
  refine bcons (ifR (teqI (lenL T.mlen (var 2) (lenE s13)) λ_ _=>int_) (λhc3 H4 s4=>?_) λhc3 H4 s4=>?_)
  ·have hc3:=of_decide_eq_true hc3
   rw[List.length_map]at hc3
   obtain⟨z0,z1,rfl⟩:=len2 (l:=ns) (by omega)
   exact bone (retE (goE (pe_callL (CX:=CX0) (E:=E0) (λf' sp'=>f'=fa/\sp'=spD P w cs (names p).length (preD p) (fD p)) 3 hF rfl (Or.inl rfl) pass0 (okA _)) ⟨fa,_,rfl,⟨rfl,rfl⟩,(cons (var 0) λH5 s5=>cons (ixL (v:=.int z0) (var 2) (λ_ _=>int_) (lenE (s13.trans (s4.trans s5))) rfl) λH6 s6=>one (ixL (v:=.int z1) (var 2) (λ_ _=>int_) (lenE (s13.trans (s4.trans (s5.trans s6)))) rfl)) _ λH5 s5=>fin H5 (s13.trans (s4.trans s5))⟩))
  have s14:=s13.trans s4
  refine bcons (ifR (teqI (lenL T.mlen (var 2) (lenE s14)) λ_ _=>int_) (λhc4 H5 s5=>?_) λhc4 H5 s5=>?_)
  ·have hc4:=of_decide_eq_true hc4
   rw[List.length_map]at hc4
   obtain⟨z0,z1,z2,rfl⟩:=len3 (l:=ns) (by omega)
   exact bone (retE (goE (pe_callL (CX:=CX0) (E:=E0) (λf' sp'=>f'=fa/\sp'=spD P w cs (names p).length (preD p) (fD p)) 3 hF rfl (Or.inl rfl) pass0 (okA _)) ⟨fa,_,rfl,⟨rfl,rfl⟩,(cons (var 0) λH6 s6=>cons (ixL (v:=.int z0) (var 2) (λ_ _=>int_) (lenE (s14.trans (s5.trans s6))) rfl) λH7 s7=>cons (ixL (v:=.int z1) (var 2) (λ_ _=>int_) (lenE (s14.trans (s5.trans (s6.trans s7)))) rfl) λH8 s8=>one (ixL (v:=.int z2) (var 2) (λ_ _=>int_) (lenE (s14.trans (s5.trans (s6.trans (s7.trans s8))))) rfl)) _ λH6 s6=>fin H6 (s14.trans (s5.trans s6))⟩))
  have s15:=s14.trans s5
  have hc0:=of_decide_eq_false hc
  have hc2:=of_decide_eq_false hc2
  have hc3:=of_decide_eq_false hc3
  have hc4:=of_decide_eq_false hc4
  rw[List.length_map]at hc0 hc2 hc3 hc4
  obtain⟨z0,z1,z2,z3,rfl⟩:=len4 (l:=ns) (by omega)
  exact bone (retE (goE (pe_callL (CX:=CX0) (E:=E0) (λf' sp'=>f'=fa/\sp'=spD P w cs (names p).length (preD p) (fD p)) 3 hF rfl (Or.inl rfl) pass0 (okA _)) ⟨fa,_,rfl,⟨rfl,rfl⟩,(cons (var 0) λH6 s6=>cons (ixL (v:=.int z0) (var 2) (λ_ _=>int_) (lenE (s15.trans s6)) rfl) λH7 s7=>cons (ixL (v:=.int z1) (var 2) (λ_ _=>int_) (lenE (s15.trans (s6.trans s7))) rfl) λH8 s8=>cons (ixL (v:=.int z2) (var 2) (λ_ _=>int_) (lenE (s15.trans (s6.trans (s7.trans s8)))) rfl) λH9 s9=>one (ixL (v:=.int z3) (var 2) (λ_ _=>int_) (lenE (s15.trans (s6.trans (s7.trans (s8.trans s9))))) rfl)) _ λH6 s6=>fin H6 (s15.trans s6)⟩))
end
end OK
namespace Vm
open PySem PySem.Spec PyProof.Rows L2 RR
section
variable {X:Cx}{Z:Sg}{H:Hp}{pos p2:Pos}{a b c:Expr}
theorem sliceE {ad:Addr}{xs:List V}{i j:Int}(ha:Ev X a Z H (.ref ad))(hb:∀H1,Same H H1->Ev X b Z H1 (.int i))(hc:∀H1,Same H H1->Ev X c Z H1 (.int j))(hs:SqL X.K H ad xs):EvP X (.Subscript a (.Slice (some b) (some c) none p2) pos) Z H (NewL H (cutV xs (some i) (some j))):=λQ q=>
 goE (pe_slice sl_list (okE a) (po_some (okE b)) (po_some (okE c))) (ha _ λH1 s1=>hb H1 s1 _ λH2 s2=>⟨i,rfl,hc H2 (s1.trans s2) _ λH3 s3=>⟨j,rfl,ad,xs,rfl,((s1.trans s2).trans s3).seq hs,λp hp=>q _ _ (((s1.trans s2).trans s3).trans λc o e=>by rw[upd_ne (ne_of_none e hp)];exact e) ⟨p,rfl,((s1.trans s2).trans s3).free hp,upd_same⟩⟩⟩)
end
end Vm
namespace OK
open PySem PySem.Spec PyProof.Rows L2 RR Vm Lk
open Vw (Ok kof hav minto Kl mvs rch)
open Vbsoaa (Men Man manAt goal byWater Board putIn Table eff counts linked place kind Order ordered nums)
open Vbsoae (Known sizes learn)
open VbsoaeNeutral (callOf)
section
variable {P:Program}{w:World}{K:Fg}{mg:Str->Option Value}{base:Heap}{cs:Cs}
abbrev st (p:Nat)(t:Table)(k:Known)(ns:List Int):Vbsoae.State×List Int:=Vbsoae.step ⟨t,k⟩ (callOf ((p:Int)::ns))
theorem LK.tr2 {a a1:Ta}{H H1 H2:Hp}(h1:LK a H H1)(hk:a1.b.ki=a.b.ki\/H a1.b.ki=none)(h2:LK a1 H1 H2):LK a H H2:=λc o l n e=>h2 c o l (λz=>by
 rcases hk with q|q
 ·exact n (z.trans q)
 ·rw[<-z,e]at q;cases q) (h1 c o l n e)
theorem atI_nat {α:Type}{xs:List α}{i:Nat}{x:α}(h:xs[i]?=some x):atI xs (i:Int)=some x:=by
 have hlt:i<xs.length:=by
  rcases Nat.lt_or_ge i xs.length with q|q
  ·exact q
  ·rw[List.getElem?_eq_none q]at h;cases h
 unfold atI ixN
 rw[if_pos (by omega),if_pos (by omega),Int.toNat_natCast]
 exact h
theorem atI0 {α:Type}(x:α)(xs:List α):atI (x::xs) 0=some x:=atI_nat (i:=0) rfl
def spDoc (P:Program)(w:World)(K:Fg)(cs:Cs)(Pre:Nat->Table->Known->List Int->Prop):Sp:=λvs H Q _=>∃(a:Ta) (t:Table) (k:Known) (p:Nat) (l:Addr) (ns:List Int),vs=[.ref a.tb,.int p,.ref l]/\SqL K H l (ns.map V.int)/\p<=19/\ns.length=(names p).length/\TabAt P w cs H a t k/\Kn.WT t/\Pre p t k ns/\
 ∀(H':Hp) (a':Ta) (r:Addr),TabAt P w cs H' a' (st p t k ns).1.table (st p t k ns).1.known->a'.tb=a.tb->LK a H H'->(a'.b.ki=a.b.ki\/H a'.b.ki=none)->H r=none->H' r=some (.lst ((st p t k ns).2.map V.int))->Q (.ref r) H'
theorem scDoc:FnScope ["table","place","numbers","row"] ["table","place","numbers"] (defScope sDoc):=fs
theorem ok_doc {f:Addr}{fd:FuncData}(F:Fun K "do_call" "do_call" sDoc f fd)(T:Tx K mg cs)(GK:CkK P w K mg base cs)(FR:Fn P w K mg base 13 "row_of_call" ["table","place","numbers"] (spRow P w K cs)):FnOk P w K mg base CX0 14 f fd ["table","place","numbers"] (spDoc P w K cs preD):=by
 refine def_ F scDoc (λvs H Q E h=>?_) (λcdv A outer s H vs Q E hr h=>?_)
 ·obtain⟨_,_,_,_,_,_,rfl,_⟩:=h;rfl
 ·obtain⟨a,t,k,p,l,ns,rfl,hl,hp,hlen,A',wt,pr,kk⟩:=h
  refine bcons (setE 3 (callE FR hr ((cons (var 0) λ_ _=>cons (var 1) λ_ _=>one (var 2)) _ λH1 s1=>⟨a,t,k,p,l,ns,rfl,s1.seq hl,hp,hlen,A'.same s1,wt,pr,λH2 a2 r A2 etb lk ki fr hrow=>?_⟩)) scDoc.nd)
  have lk1:LK a H H2:=(LK.of s1).trans lk
  have ki1:a2.b.ki=a.b.ki\/H a2.b.ki=none:=ki.imp id λz=>s1.free z
  have fr1:H r=none:=s1.free fr
  by_cases hb:p<=10
  ·obtain⟨c,hc,ec,ef⟩:=fD_base hb hlen
   obtain⟨z,rr,er⟩:=base_row (t:=t) hc
   obtain⟨b1,b2⟩:=Kn.base_state ⟨t,k⟩ wt hc
   rw[ef t k]at A2 hrow
   have kk:∀(H':Hp) (a':Ta) (r:Addr),TabAt P w cs H' a' (Vbsoae.step ⟨t,k⟩ (.base c)).1.table (Vbsoae.step ⟨t,k⟩ (.base c)).1.known->a'.tb=a.tb->LK a H H'->(a'.b.ki=a.b.ki\/H a'.b.ki=none)->H r=none->H' r=some (.lst ((Vbsoae.step ⟨t,k⟩ (.base c)).2.map V.int))->Q (.ref r) H':=by
    rw[<-ec];exact kk
   rw[b1]at kk
   have hrow':H2 r=some (.lst (V.int z::rr.map V.int)):=by rw[hrow,er];rfl
   refine bcons (ifR (bb:=decide ((p:Int)<=10)&&decide (z=0)) (and2 (tle (var 1) λ_ _=>glob T.gLAST_CHANGE) λ_ H3 s3=>teqI (ixL (v:=.int z) (var 3) (λ_ _=>int_) (SqL.of (s3 _ _ hrow')) (atI0 _ _)) λ_ _=>glob T.gDONE) (λhcc H3 s3=>?_) λhcc H3 s3=>?_)
   ·rw[Bool.and_eq_true,decide_eq_true_eq,decide_eq_true_eq]at hcc
    obtain rfl:=hcc.2
    have A3:=A2.same s3
    have htb:∀{Z:Sg} {H:Hp},Z=[some (.ref a.tb),some (.int p),some (.ref l),some (.ref r)]->True:=λ_=>trivial
    rw[<-etb]
    refine bone (putKnown T GK hr A3 (λ_ _=>var 0) λH4 ka A4 kp ht=>?_)
    obtain⟨dx,o⟩:=A3.o
    have hr4:H4 r=some (.lst ((0::rr).map V.int)):=kp _ _ (by rw[List.mem_singleton];exact ne_of (s3 _ _ hrow') o (λz=>nomatch z)) (s3 _ _ hrow')
    refine bone (ret (var 3) λH5 s5=>kk H5 {a2 with k:=ka} r ?_ etb (((lk1.tr2 ki1 (LK.of s3)).tr2 ki1 (lk_x A3 kp o)).trans (LK.of s5)) ki1 fr1 (by rw[er];exact s5 _ _ hr4))
    rcases b2 with ⟨_,_,e⟩|⟨z,hz,e,_⟩
    ·rw[e];exact A4.same s5
    ·have e:=er.symm.trans e
     injection e with e1 _
     omega
   ·have hz:z≠0:=λq=>by
     rw[q,Bool.and_eq_false_iff,decide_eq_false_iff_not,decide_eq_false_iff_not]at hcc
     rcases hcc with h|h
     ·exact h (by omega)
     ·exact h rfl
    refine bone (ret (var 3) λH5 s5=>kk H5 a2 r ?_ etb ((lk1.tr2 ki1 (LK.of s3)).trans (LK.of s5)) ki1 fr1 (s5 _ _ (s3 _ _ hrow)))
    rcases b2 with ⟨_,e,_⟩|⟨z',hz',e,e2⟩
    ·exact absurd (show z=0 by rw[er]at e;exact e) hz
    ·rw[e2]
     rcases Kn.base_step wt hc with ⟨_,e3,_⟩|⟨z3,_,e3⟩
     ·rw[e]at e3
      have:z'=0:=e3
      omega
     ·rw[e3]at A2
      exact A2.same (s3.trans s5)
  ·have hb':11<=p:=by omega
   rw[fD_other hb' hp hlen t k]at A2 hrow
   refine bcons (ifR (bb:=decide ((p:Int)<=10)&&false) (and2 (b1:=false) (tle (var 1) λ_ _=>glob T.gLAST_CHANGE) λq=>absurd (of_decide_eq_true q) (by omega)) (λhcc=>absurd hcc (by simp)) λhcc H3 s3=>?_)
   exact bone (ret (var 3) λH5 s5=>kk H5 a2 r (A2.same (s3.trans s5)) etb ((lk1.tr2 ki1 (LK.of s3)).trans (LK.of s5)) ki1 fr1 (s5 _ _ (s3 _ _ hrow)))
theorem scAca:FnScope ["table","place","numbers"] ["table","place","numbers"] (defScope sAca):=fs
theorem ok_aca {f:Addr}{fd:FuncData}(F:Fun K "answer_call" "answer_call" sAca f fd)(T:Tx K mg cs)(FI:Fn P w K mg base 2 "is_call" ["place","numbers"] (spv (rIsc K)))(FA:Fn P w K mg base 1 "all_in_range" ["place","numbers","provinces"] (spv (rAir K)))(FD:Fn P w K mg base 14 "do_call" ["table","place","numbers"] (spDoc P w K cs preD)):FnOk P w K mg base CX0 15 f fd ["table","place","numbers"] (spDoc P w K cs λ_ t k _=>Gd t k):=by
 refine def_ F scAca (λvs H Q E h=>?_) (λcdv A outer s H vs Q E hr h=>?_)
 ·obtain⟨_,_,_,_,_,_,rfl,_⟩:=h;rfl
 ·obtain⟨a,t,k,p,l,ns,rfl,hl,hp,hlen,A',wt,gd,kk⟩:=h
  refine bcons (ifF ((tnot (tv (callU FI hr (cons (var 1) λ_ _=>one (var 2)) λH1 s1=>⟨p,l,ns.map V.int,rfl,s1.seq hl,hp,rfl⟩))).to (by rw[List.length_map,decide_eq_true hlen];rfl)) λH1 s1=>?_)
  have A1:=A'.same s1
  obtain⟨dxb,ob⟩:=A1.b.o
  refine bcons (ifR (bb:= !(inR p ns t.board.kinds.length)) (tnot (tv (callU FA hr (cons (var 1) λH3 s3=>cons (var 2) λH4 s4=>one ((lenL T.mlen (fld (tBoard T (A1.same (s3.trans s4)) (var 0)) ((s3.trans s4) _ _ ob) T.clB T.nK rfl) (SqL.of (A1.same (s3.trans s4)).b.ki)).to (by rw[List.length_map]))) λH2 s2=>⟨p,l,ns,t.board.kinds.length,rfl,(s1.trans s2).seq hl,hp,hlen,rfl⟩))) (λhc H2 s2=>?_) λhc H2 s2=>?_)
  ·have hc:inR p ns t.board.kinds.length=false:=by simpa using hc
   rw[show st p t k ns=(⟨t,k⟩,[-1])from step_oor hp hlen hc]at kk
   exact bone (ansS (row:=[-1]) A' (s1.trans s2) (one (glob T.gOUT_OF_RANGE)) (by decide) kk)
  ·have hc:inR p ns t.board.kinds.length=true:=by simpa using hc
   have s12:=s1.trans s2
   exact bone (retE (callE FD hr ((cons (var 0) λ_ _=>cons (var 1) λ_ _=>one (var 2)) _ λH3 s3=>⟨a,t,k,p,l,ns,rfl,(s12.trans s3).seq hl,hp,hlen,A'.same (s12.trans s3),wt,⟨gd,hc⟩,λH' a' r h1 h2 h3 h4 h5 h6=>kk H' a' r h1 h2 ((LK.of (s12.trans s3)).trans h3) (h4.imp id λz=>(s12.trans s3).free z) ((s12.trans s3).free h5) h6⟩)))
theorem okRow_names {r:List Int}(h:Kn.OkRow r):∃(q:Nat) (xs:List Int),r=(q:Int)::xs/\q<=19/\xs.length=(names q).length:=by
 rcases Kn.okRow_cases h with rfl|⟨a,rfl⟩|⟨a,b,rfl⟩|⟨a,b,c,d,rfl⟩|⟨a,b,c,d,rfl⟩|⟨a,rfl⟩|⟨a,rfl⟩|⟨a,b,c,d,rfl⟩|⟨a,b,rfl⟩|⟨a,b,c,rfl⟩|⟨a,b,c,rfl⟩|rfl|⟨a,b,rfl⟩|rfl|rfl|rfl|⟨a,rfl⟩|rfl|⟨a,rfl⟩|rfl
 ·exact⟨0,_,rfl,by decide,rfl⟩
 ·exact⟨1,_,rfl,by decide,rfl⟩
 ·exact⟨2,_,rfl,by decide,rfl⟩
 ·exact⟨3,_,rfl,by decide,rfl⟩
 ·exact⟨4,_,rfl,by decide,rfl⟩
 ·exact⟨5,_,rfl,by decide,rfl⟩
 ·exact⟨6,_,rfl,by decide,rfl⟩
 ·exact⟨7,_,rfl,by decide,rfl⟩
 ·exact⟨8,_,rfl,by decide,rfl⟩
 ·exact⟨9,_,rfl,by decide,rfl⟩
 ·exact⟨10,_,rfl,by decide,rfl⟩
 ·exact⟨11,_,rfl,by decide,rfl⟩
 ·exact⟨12,_,rfl,by decide,rfl⟩
 ·exact⟨13,_,rfl,by decide,rfl⟩
 ·exact⟨14,_,rfl,by decide,rfl⟩
 ·exact⟨15,_,rfl,by decide,rfl⟩
 ·exact⟨16,_,rfl,by decide,rfl⟩
 ·exact⟨17,_,rfl,by decide,rfl⟩
 ·exact⟨18,_,rfl,by decide,rfl⟩
 ·exact⟨19,_,rfl,by decide,rfl⟩
theorem callOf_base {q:Nat}(hq:q<=19){xs:List Int}(hl:xs.length=(names q).length):∀d,callOf ((q:Int)::xs)=.base d->Kn.isBase d:=by
 intro d e
 by_cases h:q<=10
 ·obtain⟨c,hc,ec,_⟩:=fD_base h hl
  rw[ec]at e
  injection e with e
  rw[<-e];exact hc
 ·exfalso
  have h:q=11\/q=12\/q=13\/q=14\/q=15\/q=16\/q=17\/q=18\/q=19:=by omega
  rcases h with rfl|rfl|rfl|rfl|rfl|rfl|rfl|rfl|rfl
  ·obtain rfl:=len0 hl;cases e
  ·obtain⟨a,b,rfl⟩:=len2 hl;cases e
  ·obtain rfl:=len0 hl;cases e
  ·obtain rfl:=len0 hl;cases e
  ·obtain rfl:=len0 hl;cases e
  ·obtain⟨a,rfl⟩:=len1 hl;cases e
  ·obtain rfl:=len0 hl;cases e
  ·obtain⟨a,rfl⟩:=len1 hl;cases e
  ·obtain rfl:=len0 hl;cases e
theorem cut_row (l1 xs l2:List Int)(q:Int):cutV ((l1++(q::xs++l2)).map V.int) (some ((l1.length:Nat)+1:Int)) (some ((l1.length:Nat)+1+(xs.length:Nat):Int))=xs.map V.int:=by
 unfold cutV
 have e1:((l1.length:Nat)+1:Int)=((l1.length+1:Nat):Int):=by omega
 have e2:((l1.length:Nat)+1+(xs.length:Nat):Int)=((l1.length+1+xs.length:Nat):Int):=by omega
 rw[e2,e1,HT.sIx_nat,HT.sIx_nat]
 have hlen:((l1++(q::xs++l2)).map V.int).length=l1.length+1+xs.length+l2.length:=by simp;omega
 rw[hlen,Nat.min_eq_left (by omega),Nat.min_eq_left (by omega),show l1.length+1+xs.length-(l1.length+1)=xs.length by omega]
 rw[<-List.map_drop,<-List.map_take]
 congr 1
 rw[show l1++(q::xs++l2)=(l1++[q])++(xs++l2) by simp,List.drop_left' (by simp),List.take_left' rfl]
theorem at_row (l1 xs l2:List Int)(q:Int):atI ((l1++(q::xs++l2)).map V.int) ((l1.length:Nat):Int)=some (.int q):=by
 apply atI_nat
 rw[List.getElem?_map,List.getElem?_append_right (Nat.le_refl _),Nat.sub_self]
 rfl
def KL (K:Fg)(H:Hp)(ki p a:Addr)(xs:List V):Prop:=(Rd H a (.lst xs)/\ki≠a/\a≠p)\/∃(o:Obj) (its:Array Value) (n:Nat),K.lookup a=some o/\o.cls=.type "list"/\o.dict=none/\o.data=.seq its n/\its.size<=sizeLine/\Vals xs its.toList
theorem KL.sq {H:Hp}{ki p a:Addr}{xs:List V}(h:KL K H ki p a xs):SqL K H a xs:=h.imp (·.1) id
theorem rd_keep {H H':Hp}{a:Addr}{xs:List V}(k:∀o,LsO o->H a=some o->H' a=some o)(h:Rd H a (.lst xs)):Rd H' a (.lst xs):=by
 rcases h with h|⟨o,h⟩
 ·exact .inl (k _ ⟨xs,.inl rfl⟩ h)
 ·exact .inr ⟨o,k _ ⟨xs,.inr ⟨o,rfl⟩⟩ h⟩
theorem rd_some {H:Hp}{a:Addr}{u:HO}(h:Rd H a u):H a≠none:=by
 rcases h with h|⟨o,h⟩<;>(rw[h];exact λz=>nomatch z)
theorem KL.lk {H H':Hp}{ta ta':Ta}{p a:Addr}{xs:List V}(h:KL K H ta.b.ki p a xs)(l:LK ta H H')(hk:ta'.b.ki=ta.b.ki\/H ta'.b.ki=none):KL K H' ta'.b.ki p a xs:=by
 rcases h with ⟨h,n,n2⟩|h
 ·refine .inl ⟨rd_keep (λo lo e=>l a o lo (λz=>n z.symm) e) h,λz=>?_,n2⟩
  rcases hk with q|q
  ·exact n (q.symm.trans z)
  ·rw[z]at q;exact rd_some h q
 ·exact .inr h
theorem KL.up {H H':Hp}{ki p a:Addr}{xs:List V}(h:KL K H ki p a xs)(k:Keep [p] H H'):KL K H' ki p a xs:=by
 rcases h with ⟨h,q,n⟩|h
 ·exact .inl ⟨rd_keep (λo _ e=>k a o (by rw[List.mem_singleton];exact n) e) h,q,n⟩
 ·exact .inr h
def spAns (K:Fg):Sp:=λvs H Q _=>∃(a:Addr) (ns:List Int),vs=[.ref a]/\SqL K H a (ns.map V.int)/\ns.length<=16500/\PyVbsoae.answers_asked ns=true/\∀(H':Hp) (p:Addr),H' p=some (.lst ((PyVbsoae.answers ns).map V.int))->Q (.ref p) H'
abbrev Nm:List Str:=["calls","table","answered","at","place","end","row"]
theorem scAns:FnScope Nm ["calls"] (defScope sAns):=fs
abbrev CkT (P:Program)(w:World)(K:Fg)(mg:Str->Option Value)(base:Heap)(cs:Cs):Prop:=Ck P w K mg base 3 cs.T "Table" ["self"] (spTInit P w cs)
structure Tu (P:Program)(w:World)(K:Fg)(cs:Cs)(a:Addr)(ns:List Int)(p:Addr)(rs:List (List Int))(m:Nat)(Z:Sg)(H:Hp):Prop where
 ex:∃(ds rest:List (List Int)) (ta:Ta) (v4 v5 v6:Option V),rs=ds++rest/\m=rest.length/\Z=[some (.ref a),some (.ref ta.tb),some (.ref p),some (.int ((ds.flatten.length:Nat):Int)),v4,v5,v6]/\
  TabAt P w cs H ta (Kn.after Vbsoae.start ds).table (Kn.after Vbsoae.start ds).known/\Kn.WS (Kn.after Vbsoae.start ds)/\KL K H ta.b.ki p a (ns.map V.int)/\H p=some (.lst ((Kn.runs Vbsoae.start ds).map V.int))/\ta.b.ki≠p/\(Kn.runs Vbsoae.start ds).length<=101*ds.length
theorem TabAt.lst {H H':Hp}{ta:Ta}{t:Table}{k:Known}{p:Addr}{zs:List V}(A:TabAt P w cs H ta t k)(kp:Keep [p] H H')(hp:H p=some (.lst zs))(nk:ta.b.ki≠p):TabAt P w cs H' ta t k:=by
 refine A.brd (b':=t.board) ?_ kp hp (λz=>z.l zs rfl)
 obtain⟨⟨dx3,o3⟩,ki3,la3,se3⟩:=A.b
 have ne:∀{c o},H c=some o->o≠ .lst zs->c∉[p]:=λe d m=>by rw[List.mem_singleton.mp m,hp]at e;exact d (Option.some.inj e).symm
 exact⟨⟨dx3,kp _ _ (ne o3 (λz=>nomatch z)) o3⟩,kp _ _ (by rw[List.mem_singleton];exact nk) ki3,kp _ _ (ne la3 (λz=>nomatch z)) la3,nd_keep se3 kp (by obtain⟨⟨xs,_,_,e⟩,_⟩:=se3;exact ne e (λz=>nomatch z)) λc xs e=>ne e (λz=>nomatch z)⟩
theorem big {n:Nat}(h:n<=50000):n<sizeLine:=by unfold sizeLine;omega
theorem ok_ans {f:Addr}{fd:FuncData}(F:Fun K "answers" "answers" sAns f fd)(T:Tx K mg cs)(GT:CkT P w K mg base cs)(FC:Fn P w K mg base 1 "count_of_numbers" ["place"] (spv rCnt))(FA:Fn P w K mg base 15 "answer_call" ["table","place","numbers"] (spDoc P w K cs λ_ t k _=>Gd t k)):FnOk P w K mg base CX0 16 f fd ["calls"] (spAns K):=by
 refine def_ F scAns (λvs H Q E h=>?_) (λcdv A outer s H vs Q E hr h=>?_)
 ·obtain⟨_,_,rfl,_⟩:=h;rfl
 ·obtain⟨a,ns,rfl,hl,hln,hask,kk⟩:=h
  obtain⟨rs,ens,hok,h400,eans⟩:=Kn.asked_rows hask
  refine bcons (setE 1 (make0 GT hr λx dx hx hdx hne=>⟨x,dx,rfl,upd_same,λH1 ta etb A1 kp hk=>⟨rfl,?_⟩⟩) scAns.nd)
  have s1:Same H H1:=same_keep hx hdx kp
  refine bcons (setP 2 scAns.nd newL λv H2 s2 ⟨p,ev,fr,hp⟩=>?_)
  subst ev
  refine bcons (set 3 scAns.nd int_ λH3 s3=>?_)
  have s23:=s2.trans s3
  have kl1:KL K H1 ta.b.ki p a (ns.map V.int):=by
   rcases hl with h|h
   ·have h1:Rd H1 a (.lst (ns.map V.int)):=rd_keep (λo _ e=>s1 _ _ e) h
    refine .inl ⟨h1,λz=>?_,λz=>?_⟩
    ·have:H ta.b.ki=none:=(same_new hx hdx).free hk
     rw[z]at this
     exact rd_some h this
    ·rw[z]at h1;exact rd_some h1 fr
   ·exact .inr h
  refine bcons (while_ (W:=Tu P w K cs a ns p rs) (m:=rs.length) ?_ ?_)
  ·refine⟨[],rs,ta,none,none,none,rfl,rfl,?_,A1.same s23,Kn.ws_start,?_,s3 _ _ hp,λz=>?_,Nat.zero_le _⟩
   ·rw[etb];rfl
   ·exact kl1.lk (LK.of s23) (.inl rfl)
   ·have:=A1.b.ki
    rw[z,fr]at this;cases this
  ·rintro m Z H4 ⟨ds,rest,ta,v4,v5,v6,ers,rfl,rfl,A4,W4,kl,hp4,nk,hlen⟩
   have hds:ds.length<=400:=by rw[ers,List.length_append]at h400;omega
   refine⟨decide (((ds.flatten.length:Nat):Int)<((ns.map V.int).length:Nat)),tlt (var 3) (λH5 s5=>lenL T.mlen (var 0) (s5.seq kl.sq)),λhc H5 s5=>?_,λhc H5 s5=>?_⟩
   ·cases rest with
    |nil=>
     exfalso
     rw[List.append_nil]at ers
     rw[ens,ers,List.length_map]at hc
     exact absurd (of_decide_eq_true hc) (by omega)
    |cons r rest=>
     obtain⟨q,xs,rfl,hq,hxl⟩:=okRow_names (hok r (by rw[ers];simp))
     have ens':ns=ds.flatten++((q:Int)::xs++rest.flatten):=by rw[ens,ers,List.flatten_append,List.flatten_cons]
     have A5:=A4.same s5
     have kl5:KL K H5 ta.b.ki p a (ns.map V.int):=kl.lk (LK.of s5) (.inl rfl)
     have e1:atI (ns.map V.int) ((ds.flatten.length:Nat):Int)=some (.int q):=by rw[ens'];exact at_row _ _ _ _
     refine bcons (set 4 scAns.nd (ixL (var 0) (λ_ _=>var 3) kl5.sq e1) λH6 s6=>?_)
     refine bcons (set 5 scAns.nd (add (add (var 3) λ_ _=>int_) λH7 s7=>callU FC hr (one (var 4)) λH8 s8=>⟨q,rfl,hq,rfl⟩) λH7 s7=>?_)
     have s67:=s6.trans s7
     have kl7:KL K H7 ta.b.ki p a (ns.map V.int):=kl5.lk (LK.of s67) (.inl rfl)
     have A7:=A5.same s67
     have hp7:H7 p=some (.lst ((Kn.runs Vbsoae.start ds).map V.int)):=(s5.trans s67) _ _ hp4
     obtain⟨W5,hrow⟩:=Kn.ws_step W4 (callOf_base hq hxl)
     have sl:∀H8,Same H7 H8->cutV (ns.map V.int) (some (((ds.flatten.length:Nat):Int)+1)) (some (((ds.flatten.length:Nat):Int)+1+((names q).length:Nat)))=xs.map V.int:=λ_ _=>by rw[ens',<-hxl];exact cut_row _ _ _ _
     refine bcons (setE 6 (callE FA hr (consE (Ev.go (var 1) λH8 s8=>consE (Ev.go (var 4) λH9 s9=>consE (sliceE (i:=((ds.flatten.length:Nat):Int)+1) (j:=((ds.flatten.length:Nat):Int)+1+((names q).length:Nat)) (var 0) (λ_ _=>add (var 3) λ_ _=>int_) (λ_ _=>var 5) ((s8.trans s9).seq kl7.sq) _ λv H10 s10 ⟨l,ev,frl,hl10⟩=>nilE ?_))))) scAns.nd)
     subst ev
     have s710:=(s8.trans s9).trans s10
     rw[sl H7 (Same.refl _)]at hl10
     refine⟨ta,_,_,q,l,xs,rfl,SqL.of hl10,hq,hxl,A7.same s710,W4.t,W4.g,λH11 ta' r A11 etb' lk ki frr hr11=>?_⟩
     have lk':LK ta H7 H11:=(LK.of s710).trans lk
     have ki':ta'.b.ki=ta.b.ki\/H7 ta'.b.ki=none:=ki.imp id λz=>s710.free z
     have hp11:H11 p=some (.lst ((Kn.runs Vbsoae.start ds).map V.int)):=lk' p _ ⟨_,.inl rfl⟩ (λz=>nk z.symm) hp7
     have kl11:KL K H11 ta'.b.ki p a (ns.map V.int):=kl7.lk lk' ki'
     have nk':ta'.b.ki≠p:=λz=>by
      rcases ki' with e|e
      ·exact nk (e.symm.trans z)
      ·rw[z,hp7]at e;cases e
     have nr:r≠p:=λz=>by
      have:=s710.free frr
      rw[z,hp7]at this;cases this
     have hrl:=hrow
     refine bcons (drop (append (ad:=p) (var 2) hp11 (λH12 s12=>lenL T.mlen (var 6) (SqL.of (s12 _ _ hr11))) (by rw[List.length_map];exact big (by omega)) λH12 s12=>?_))
     have kp12:Keep [p] H12 (upd H12 p (.lst ((Kn.runs Vbsoae.start ds).map V.int++[V.int (((st q (Kn.after Vbsoae.start ds).table (Kn.after Vbsoae.start ds).known xs).2.map V.int).length:Nat)]))):=λc o n e=>by rw[upd_ne (by simpa using n)];exact e
     have np:r∉[p]:=by simpa using nr
     refine bcons (drop (extend (ad:=p) (bd:=r) (var 2) upd_same (λH13 s13=>var 6) (kp12 _ _ np (s12 _ _ hr11)) ?_ λH13 s13=>?_))
     ·rw[List.length_append,List.length_map,List.length_map]
      refine Nat.le_of_lt (big ?_)
      show(Kn.runs Vbsoae.start ds).length+1+(Vbsoae.step (Kn.after Vbsoae.start ds) (callOf ((q:Int)::xs))).2.length<=50000
      omega
     have kp13:Keep [p] H11 (upd H13 p (.lst (((Kn.runs Vbsoae.start ds).map V.int++[V.int (((st q (Kn.after Vbsoae.start ds).table (Kn.after Vbsoae.start ds).known xs).2.map V.int).length:Nat)])++(st q (Kn.after Vbsoae.start ds).table (Kn.after Vbsoae.start ds).known xs).2.map V.int))):=((Keep.of s12).trans kp12).trans ((Keep.of s13).trans λc o n e=>by rw[upd_ne (by simpa using n)];exact e)
     refine bone (set 3 scAns.nd (var 5) λH14 s14=>?_)
     refine⟨rest.length,by simp,ds++[(q:Int)::xs],rest,ta',some (.int q),some (.int (((ds.flatten.length:Nat):Int)+1+((names q).length:Nat))),some (.ref r),by rw[ers];simp,rfl,?_,?_,?_,?_,?_,nk',?_⟩
     ·rw[etb']
      have e:((ds++[(q:Int)::xs]).flatten.length:Nat)=((ds.flatten.length:Nat):Int)+1+((names q).length:Nat):=by
       rw[<-hxl,List.flatten_append,List.length_append]
       simp
       omega
      rw[e];rfl
     ·rw[Kn.after_snoc]
      exact(A11.lst kp13 hp11 nk').same s14
     ·rw[Kn.after_snoc];exact W5
     ·exact(kl11.up kp13).lk (LK.of s14) (.inl rfl)
     ·rw[Kn.runs_snoc]
      refine s14 _ _ ?_
      rw[upd_same,List.map_append,List.map_cons,List.append_assoc,List.length_map]
      rfl
     ·rw[Kn.runs_snoc,List.length_append,List.length_append,List.length_cons]
      simp only[List.length_cons,List.length_nil]
      omega
   ·have hrest:rest=[]:=by
     cases rest with
     |nil=>rfl
     |cons r rest=>
      exfalso
      obtain⟨q,xs,rfl,hq,hxl⟩:=okRow_names (hok r (by rw[ers];simp))
      have hc:=of_decide_eq_false hc
      rw[List.length_map,ens,ers,List.flatten_append,List.flatten_cons]at hc
      simp at hc
      omega
    rw[hrest,List.append_nil]at ers
    refine bone (ret (var 2) λH6 s6=>kk H6 p ?_)
    rw[eans,ers]
    exact s6 _ _ (s5 _ _ hp4)
end
section
variable {P:Program}{w:World}{K:Fg}{mg:Str->Option Value}{base:Heap}{cs:Cs}{h:Heap}
structure FDef (K:Fg)(x:Str)(st:Stmt)(ps:List Str):Prop where
 ex:∃f fd,PySem.W.nsIn K mainGlobals x=some (some (.ref f))/\Fun K x x st f fd/\Binds K fd ps []
structure MDef (K:Fg)(C:Addr)(x qual:Str)(st:Stmt)(ps:List Str):Prop where
 ex:∃f fd,PySem.W.findIn K (.ref C) x=some (some (.ref f))/\PySem.W.isFn K (.ref f)=true/\Fun K x qual st f fd/\Binds K fd ps []
structure CDef (K:Fg)(x:Str)(C:Addr):Prop where
 at_:PySem.W.nsIn K mainGlobals x=some (some (.ref C))
 cl:Cls K C
 mks:PySem.W.makesIn K C=true
 kp:PySem.W.keepIn K (.ref C)=true
theorem FDef.mk' {x:Str}{st:Stmt}{ps:List Str}{f:Addr}{od an:Option Addr}{sl:Array (Option Value)}{oc kV dc pm cd ct:Value}(a:PySem.W.nsIn K mainGlobals x=some (some (.ref f)):=by k_is)
  (l:K.lookup f=some ⟨oc,od,.func (PySem.W.fnOf x x (defArgs st) (defBody st) (defScope st) .none kV dc pm an cd ct),sl⟩:=by k_is) (c:PySem.W.codeIn K cd x=true:=by k_is) (k:PySem.W.keepIn K (.ref f)=true:=by k_is)
  (b:∀(kV doc pm:Value) (an:Option Addr) (cdv ct:Value) (us:List Value),us.length=ps.length->bindArgs (PySem.W.fnOf x x (defArgs st) (defBody st) (defScope st) .none kV doc pm an cdv ct) ⟨us,[]⟩=pure (ps.zip us):=by intro _ _ _ _ _ _ us hl;rcases us with _|⟨_,_|⟨_,_|⟨_,_|⟨_,_|⟨_,_|⟨_,us⟩⟩⟩⟩⟩⟩<;>first|(cases hl;done)|rfl):FDef K x st ps:=
 have F:=fun_mk (st:=st) l c k
 ⟨f,_,a,F,F.binds b⟩
theorem MDef.mk' {x qual:Str}{st:Stmt}{ps:List Str}{f C:Addr}{od an:Option Addr}{sl:Array (Option Value)}{oc kV dc pm cd ct:Value}(a:PySem.W.findIn K (.ref C) x=some (some (.ref f)):=by k_is)(i:PySem.W.isFn K (.ref f)=true:=by k_is)
  (l:K.lookup f=some ⟨oc,od,.func (PySem.W.fnOf x qual (defArgs st) (defBody st) (defScope st) .none kV dc pm an cd ct),sl⟩:=by k_is) (c:PySem.W.codeIn K cd qual=true:=by k_is) (k:PySem.W.keepIn K (.ref f)=true:=by k_is)
  (b:∀(kV doc pm:Value) (an:Option Addr) (cdv ct:Value) (us:List Value),us.length=ps.length->bindArgs (PySem.W.fnOf x qual (defArgs st) (defBody st) (defScope st) .none kV doc pm an cdv ct) ⟨us,[]⟩=pure (ps.zip us):=by intro _ _ _ _ _ _ us hl;rcases us with _|⟨_,_|⟨_,_|⟨_,_|⟨_,_|⟨_,_|⟨_,us⟩⟩⟩⟩⟩⟩<;>first|(cases hl;done)|rfl):MDef K C x qual st ps:=
 have F:=fun_mk (st:=st) l c k
 ⟨f,_,a,i,F,F.binds b⟩
theorem CDef.mk' {x:Str}{C:Addr}(at_:PySem.W.nsIn K mainGlobals x=some (some (.ref C)):=by k_is)(pg:PySem.W.plainGet K C Str.empty=true:=by k_is)(hd:PySem.W.hasDictIn K C=true:=by k_is)(po:PySem.W.plainOver K C=true:=by k_is)(sa:PySem.W.findIn K (.ref C) "__setattr__"=some (some (.builtin "object.__setattr__")):=by k_is)(mk:PySem.W.makesIn K C=true:=by k_is)(kc:PySem.W.keepIn K (.ref C)=true:=by k_is)
  {R:Addr->Prop} (r:R C):∃C,CDef K x C/\R C:=⟨C,⟨at_,⟨pg,hd,po,sa⟩,mk,kc⟩,r⟩
theorem FDef.fn {x:Str}{st:Stmt}{ps:List Str}{k:Nat}{sp:Sp}(d:FDef K x st ps)(X:K.In h)(G:h.Ns mainGlobals mg)(ok:∀{f fd},Fun K x x st f fd->FnOk P w K mg base CX0 k f fd ps sp):Fn P w K mg base k x ps sp:=by
 obtain⟨f,fd,a,F,b⟩:=d.ex
 exact⟨f,fd,PySem.W.mg_of X G a,F.kp,ok F,b⟩
theorem MDef.mt {x qual:Str}{C:Addr}{st:Stmt}{ps:List Str}{k:Nat}{sp:Sp}(d:MDef K C x qual st ps)(cl:Cls K C)(ok:∀{f fd},Fun K x qual st f fd->FnOk P w K mg base CX0 k f fd ps sp):Mt P w K mg base k C x ps sp:=by
 obtain⟨f,fd,a,i,F,b⟩:=d.ex
 exact⟨⟨f,fd,⟨a,i,F.kp⟩,ok F,b⟩,cl⟩
theorem MDef.ck {y qual:Str}{C:Addr}{st:Stmt}{ps:List Str}{k:Nat}{sp:Sp}(d:MDef K C "__init__" qual st ps)(c:CDef K y C)(X:K.In h)(G:h.Ns mainGlobals mg)(ok:∀{f fd},Fun K "__init__" qual st f fd->FnOk P w K mg base CX0 k f fd ps sp):Ck P w K mg base k C y ps sp:=by
 obtain⟨f,fd,a,i,F,b⟩:=d.ex
 exact⟨f,fd,PySem.W.mg_of X G c.at_,⟨c.mks,a,i,c.kp⟩,ok F,b⟩
def doer:Nat->Str
 |0=>"clear_table"
 |1=>"new_province"
 |2=>"new_land_link"
 |3=>"new_sea_link"
 |4=>"new_unit"
 |5=>"take_unit_away"
 |6=>"order_hold"
 |7=>"order_move"
 |8=>"order_stay"
 |9=>"order_aid"
 |10=>"order_carry"
 |11=>"forget_all"
 |12=>"look_at_one"
 |13=>"make_one_pass"
 |14=>"make_all_passes"
 |15=>"tell_known"
 |16=>"tell_bounds"
 |17=>"tell_unknown"
 |18=>"tell_support"
 |_=>"tell_count"
structure DDef (P:Program)(w:World)(K:Fg):Prop where
 ex:∃d g,PySem.W.nsIn K mainGlobals "DOERS"=some (some (.ref d))/\MD P w K d g/\∀p:Nat,p<=19->∃f,g (Sum.inl (p:Int))=some (.ref f)/\PySem.W.nsIn K mainGlobals (doer p)=some (some (.ref f))
structure NDef (P:Program)(w:World)(K:Fg):Prop where
 ex:∃d g,PySem.W.nsIn K mainGlobals "NUMBERS"=some (some (.ref d))/\MD P w K d g/\∀p:Nat,p<=19->∃t,g (Sum.inl (p:Int))=some (.ref t)/\∀H,SqT K H t ((names p).map V.str)
structure SDef (P:Program)(w:World)(K:Fg):Prop where
 ex:∃d g,PySem.W.nsIn K mainGlobals "SIZES"=some (some (.ref d))/\MD P w K d g/\∀p:Nat,p<=19->∀x∈names p,g (Sum.inr x)=(sizeOf x).map V.int
theorem FDef.dr {x:Str}{st:Stmt}{ps:List Str}{k p n:Nat}{Pre:Table->Known->List Int->Prop}{g:Table->Known->List Int->Table×Known×List Int}{f:Addr}(d:FDef K x st ps)(a:PySem.W.nsIn K mainGlobals x=some (some (.ref f)))(ok:∀{f fd},Fun K x x st f fd->FD P w K mg base cs k f fd ps n Pre g)(hk:k<=12)(hn:n=(names p).length)(hg:g=fD p)
  (hp:∀t k ns,ns.length=n->preD p t k ns->Pre t k ns):Dr P w K mg base cs p f:=by
 obtain⟨f',fd,a',F,b⟩:=d.ex
 have e:=a.symm.trans a'
 cases e
 subst hn hg
 exact⟨F.kp,fd,ps,((ok F).mono hk).imp (spD_imp hp),b⟩
theorem and_t {a b:Bool}(h:(a&&b)=true):a=true/\b=true:=by rwa[Bool.and_eq_true]at h
end
def GI (K:Fg)(x:Str)(i:Int):Prop:=∃t,PySem.W.nsIn K mainGlobals x=some (some (.int i t))
def GS (K:Fg)(x y:Str):Prop:=∃t,PySem.W.nsIn K mainGlobals x=some (some (.str y t))
def GN (K:Fg)(x:Str):Prop:=PySem.W.nsIn K mainGlobals x=some none
theorem GI.mk {K:Fg}{x:Str}{i:Int}{t:Tok}(h:PySem.W.nsIn K mainGlobals x=some (some (.int i t)):=by k_is):GI K x i:=⟨t,h⟩
theorem GS.mk {K:Fg}{x y:Str}{t:Tok}(h:PySem.W.nsIn K mainGlobals x=some (some (.str y t)):=by k_is):GS K x y:=⟨t,h⟩
theorem GI.gv {K:Fg}{h:Heap}{mg:Str->Option Value}{x:Str}{i:Int}(g:GI K x i)(X:K.In h)(G:h.Ns mainGlobals mg):Gv mg x (.int i):=by
 obtain⟨t,e⟩:=g
 exact⟨_,PySem.W.mg_of X G e,t,rfl⟩
theorem GS.gv {K:Fg}{h:Heap}{mg:Str->Option Value}{x y:Str}(g:GS K x y)(X:K.In h)(G:h.Ns mainGlobals mg):Gv mg x (.str y):=by
 obtain⟨t,e⟩:=g
 exact⟨_,PySem.W.mg_of X G e,t,rfl⟩
structure ADef (K:Fg)(x:Str)(st:Stmt)(ps:List Str):Prop where
 ex:∃f fd,PySem.W.nsIn K mainGlobals x=some (some (.ref f))/\Fun K x x st f fd/\∀(s:Shared) (us:List Value),us.length=ps.length->BindsTo s fd ⟨us,[]⟩ (ps.zip us)
theorem ADef.mk' {K:Fg}{x:Str}{st:Stmt}{ps:List Str}{f:Addr}{od an:Option Addr}{sl:Array (Option Value)}{oc kV dc pm cd ct:Value}(a:PySem.W.nsIn K mainGlobals x=some (some (.ref f)):=by k_is)
  (l:K.lookup f=some ⟨oc,od,.func (PySem.W.fnOf x x (defArgs st) (defBody st) (defScope st) .none kV dc pm an cd ct),sl⟩:=by k_is) (c:PySem.W.codeIn K cd x=true:=by k_is) (k:PySem.W.keepIn K (.ref f)=true:=by k_is)
  (b:∀(kV doc pm:Value) (an:Option Addr) (cdv ct:Value) (us:List Value),us.length=ps.length->bindArgs (PySem.W.fnOf x x (defArgs st) (defBody st) (defScope st) .none kV doc pm an cdv ct) ⟨us,[]⟩=pure (ps.zip us):=by intro _ _ _ _ _ _ us hl;rcases us with _|⟨_,_|⟨_,_|⟨_,_|⟨_,_|⟨_,_|⟨_,us⟩⟩⟩⟩⟩⟩<;>first|(cases hl;done)|rfl):ADef K x st ps:=
 ⟨f,_,a,fun_mk (st:=st) l c k,λ_ us hu=>.of_eq (b _ _ _ _ _ _ us hu)⟩
structure CB (K:Fg)(C:Addr):Prop where
 a_kinds:NoAttr K C "kinds"
 a_land_links:NoAttr K C "land_links"
 a_sea_links:NoAttr K C "sea_links"
 djoined_by_land:MDef K C "joined_by_land" "Board.joined_by_land" sJdL ["self","p","q"]
 djoined_by_sea:MDef K C "joined_by_sea" "Board.joined_by_sea" sJdS ["self","place","other"]
 djoin_by_land:MDef K C "join_by_land" "Board.join_by_land" sJL ["self","p","q"]
 djoin_by_sea:MDef K C "join_by_sea" "Board.join_by_sea" sJS ["self","place","other"]
 dlay_province:MDef K C "lay_province" "Board.lay_province" sLay ["self","kind"]
 d__init__:MDef K C "__init__" "Board.__init__" sBInit ["self"]
 djoined_at_some_shore:MDef K C "joined_at_some_shore" "Board.joined_at_some_shore" sJss ["self","place","q"]
structure CU (K:Fg)(C:Addr):Prop where
 a_power:NoAttr K C "power"
 a_fleet:NoAttr K C "fleet"
 a_province:NoAttr K C "province"
 a_shore:NoAttr K C "shore"
 a_order:NoAttr K C "order"
 d__init__:MDef K C "__init__" "Unit.__init__" sUInit ["self","power","fleet","province","shore"]
structure CP (K:Fg)(C:Addr):Prop where
 a_board:NoAttr K C "board"
 a_units:NoAttr K C "units"
 a_known:NoAttr K C "known"
 a_orders:NoAttr K C "orders"
 a_by_order:NoAttr K C "by_order"
 dhaving:MDef K C "having" "Position.having" sHav ["self","order"]
 dmovers_into:MDef K C "movers_into" "Position.movers_into" sMin ["self","q"]
 dmoves:MDef K C "moves" "Position.moves" sMvs ["self","p"]
 dmoves_by_water:MDef K C "moves_by_water" "Position.moves_by_water" sMbw ["self","p"]
 dgoal:MDef K C "goal" "Position.goal" sGoal ["self","p"]
 d__init__:MDef K C "__init__" "Position.__init__" sPInit ["self","board","units","known"]
structure CK (K:Fg)(C:Addr):Prop where
 a_goes:NoAttr K C "goes"
 a_fails:NoAttr K C "fails"
 a_has_way:NoAttr K C "has_way"
 a_has_none:NoAttr K C "has_none"
 a_cut:NoAttr K C "cut"
 a_uncut:NoAttr K C "uncut"
 d__init__:MDef K C "__init__" "Known.__init__" sKInit ["self"]
 dsix_kinds:MDef K C "six_kinds" "Known.six_kinds" sSix ["self"]
 dhow_many:MDef K C "how_many" "Known.how_many" sHow ["self"]
structure CT (K:Fg)(C:Addr):Prop where
 a_board:NoAttr K C "board"
 a_units:NoAttr K C "units"
 a_known:NoAttr K C "known"
 d__init__:MDef K C "__init__" "Table.__init__" sTInit ["self"]
structure Glb (K:Fg):Prop where
 iLAND:GI K "LAND" 0
 iSEA:GI K "SEA" 1
 iCOAST:GI K "COAST" 2
 iSHORES:GI K "SHORES" 4
 iAT_SUPPORT:GI K "AT_SUPPORT" 0
 iAT_WAY:GI K "AT_WAY" 1
 iAT_MOVE:GI K "AT_MOVE" 2
 iDONE:GI K "DONE" 0
 iFULL:GI K "FULL" (-2)
 iUNFIT:GI K "UNFIT" (-3)
 iTHERE_ALREADY:GI K "THERE_ALREADY" (-4)
 iNO_UNIT:GI K "NO_UNIT" (-5)
 iMOST_PROVINCES:GI K "MOST_PROVINCES" 40
 iMOST_LINKS:GI K "MOST_LINKS" 300
 iMOST_UNITS:GI K "MOST_UNITS" 24
 iLAST_CHANGE:GI K "LAST_CHANGE" 10
 iOUT_OF_RANGE:GI K "OUT_OF_RANGE" (-1)
 iNO_CALL:GI K "NO_CALL" (-8)
 sHOLD:GS K "HOLD" "hold"
 sMOVE:GS K "MOVE" "move"
 sBY_WATER:GS K "BY_WATER" "by water"
 sSTAY:GS K "STAY" "stay"
 sAID:GS K "AID" "aid"
 sCARRY:GS K "CARRY" "carry"
 nmin:GN K "min"
 nmax:GN K "max"
 nlen:GN K "len"
 nany:GN K "any"
 nall:GN K "all"
 nsum:GN K "sum"
 nlist:GN K "list"
 nrange:GN K "range"
 nsorted:GN K "sorted"
 nzip:GN K "zip"
structure Dfs (K:Fg):Prop where
 link_between:FDef K "link_between" sLink ["one","other"]
 place_of:FDef K "place_of" sPlace ["unit"]
 reaches:FDef K "reaches" sReach ["board","unit","q"]
 aid_counts:FDef K "aid_counts" sAidc ["board","unit","a","q"]
 carry_counts:FDef K "carry_counts" sCarc ["board","unit","a","q"]
 fleet_move_as_it_counts:FDef K "fleet_move_as_it_counts" sFmv ["board","unit","order"]
 army_move_as_it_counts:FDef K "army_move_as_it_counts" sAmv ["board","unit","order"]
 order_as_it_counts:FDef K "order_as_it_counts" sOaic ["board","unit"]
 surely_has_way:FDef K "surely_has_way" sShw ["position","p"]
 may_have_way:FDef K "may_have_way" sMhw ["position","p"]
 surely_left:FDef K "surely_left" sSl ["position","p"]
 may_have_left:FDef K "may_have_left" sMl ["position","p"]
 head_to_head:FDef K "head_to_head" sH2h ["position","p","q"]
 sure_helpers:FDef K "sure_helpers" sShs ["position","order"]
 possible_helpers:FDef K "possible_helpers" sPhs ["position","order"]
 aid_for:FDef K "aid_for" sAidf ["position","p"]
 attack:FDef K "attack" sAtk ["position","p","has_way","left","helpers"]
 attack_lower:FDef K "attack_lower" sAtl ["position","p"]
 attack_upper:FDef K "attack_upper" sAtu ["position","p"]
 keeps_out_lower:FDef K "keeps_out_lower" sKol ["position","p"]
 keeps_out_upper:FDef K "keeps_out_upper" sKou ["position","p"]
 holds_lower:FDef K "holds_lower" sHol ["position","p"]
 holds_upper:FDef K "holds_upper" sHou ["position","p"]
 wall_lower:FDef K "wall_lower" sWal ["position","p"]
 wall_upper:FDef K "wall_upper" sWau ["position","p"]
 rivals:FDef K "rivals" sRvs ["position","p"]
 surely_goes:FDef K "surely_goes" sSg ["position","p"]
 may_go:FDef K "may_go" sMg ["position","p"]
 other_powers_movers_into:FDef K "other_powers_movers_into" sOpm ["position","p"]
 aids_against:FDef K "aids_against" sAgn ["position","p","mover"]
 surely_cuts:FDef K "surely_cuts" sScs ["position","p","mover"]
 may_cut:FDef K "may_cut" sMcs ["position","p","mover"]
 surely_cut:FDef K "surely_cut" sSc ["position","p"]
 may_be_cut:FDef K "may_be_cut" sMc ["position","p"]
 surely_driven_out:FDef K "surely_driven_out" sSdo ["position","p"]
 may_be_driven_out:FDef K "may_be_driven_out" sMdo ["position","p"]
 touches:FDef K "touches" sTch ["position","p","q"]
 fleets_joined:FDef K "fleets_joined" sJnd ["position","p","other"]
 chain_among:FDef K "chain_among" sCha ["position","fleets","a","q"]
 carriers:FDef K "carriers" sCar ["position","p"]
 surely_a_chain:FDef K "surely_a_chain" sSch ["position","p"]
 may_be_a_chain:FDef K "may_be_a_chain" sMch ["position","p"]
 look_at_support:FDef K "look_at_support" sLs ["position","p"]
 look_at_way:FDef K "look_at_way" sLw ["position","p"]
 look_at_move:FDef K "look_at_move" sLm ["position","p"]
 look_at_unit:FDef K "look_at_unit" sLu ["position","what","p"]
 one_pass:FDef K "one_pass" sOp ["position"]
 all_passes:FDef K "all_passes" sAp ["position"]
 clear_table:FDef K "clear_table" sClr ["table"]
 new_province:FDef K "new_province" sPrv ["table","kind"]
 new_land_link:FDef K "new_land_link" sLnd ["table","p","q"]
 new_sea_link:FDef K "new_sea_link" sSea ["table","p","s","q","t"]
 may_stand:FDef K "may_stand" sMst ["board","fleet","p","s"]
 new_unit:FDef K "new_unit" sUnt ["table","power","fleet","p","s"]
 take_unit_away:FDef K "take_unit_away" sGon ["table","p"]
 give_order:FDef K "give_order" sGiv ["table","p","order"]
 order_hold:FDef K "order_hold" sOho ["table","p"]
 order_move:FDef K "order_move" sOmv ["table","p","q","t","water"]
 order_stay:FDef K "order_stay" sOst ["table","p","q"]
 order_aid:FDef K "order_aid" sOai ["table","p","a","q"]
 order_carry:FDef K "order_carry" sOca ["table","p","a","q"]
 position_on:FDef K "position_on" sPos ["table"]
 forget_all:FDef K "forget_all" sFor ["table"]
 look_at_one:FDef K "look_at_one" sLoo ["table","what","p"]
 make_one_pass:FDef K "make_one_pass" sM1p ["table"]
 make_all_passes:FDef K "make_all_passes" sMap ["table"]
 tell_count:FDef K "tell_count" sTco ["table"]
 tell_support:FDef K "tell_support" sTsu ["table","p"]
 tell_bounds:FDef K "tell_bounds" sTbo ["table","p"]
 tell_known:FDef K "tell_known" sTkn ["table"]
 tell_unknown:FDef K "tell_unknown" sTun ["table"]
 count_of_numbers:FDef K "count_of_numbers" sCnt ["place"]
 is_call:FDef K "is_call" sIsc ["place","numbers"]
 all_in_range:FDef K "all_in_range" sAir ["place","numbers","provinces"]
 row_of_call:FDef K "row_of_call" sRow ["table","place","numbers"]
 do_call:FDef K "do_call" sDoc ["table","place","numbers"]
 answer_call:FDef K "answer_call" sAca ["table","place","numbers"]
section
variable {P:Program}{w:World}{K:Fg}{mg:Str->Option Value}{base h:Heap}{cs:Cs}
theorem tx_mk (X:K.In h)(G:h.Ns mainGlobals mg)(g:Glb K)(cB:CDef K "Board" cs.B)(eB:CB K cs.B)(cU:CDef K "Unit" cs.U)(eU:CU K cs.U)(cP:CDef K "Position" cs.P)(eP:CP K cs.P)(cK:CDef K "Known" cs.K)(eK:CK K cs.K)(cT:CDef K "Table" cs.T)(eT:CT K cs.T):Tx K mg cs where
 clB:=cB.cl
 clU:=cU.cl
 clP:=cP.cl
 clK:=cK.cl
 clT:=cT.cl
 nK:=eB.a_kinds
 nL:=eB.a_land_links
 nS:=eB.a_sea_links
 uPow:=eU.a_power
 uFle:=eU.a_fleet
 uPro:=eU.a_province
 uSho:=eU.a_shore
 uOrd:=eU.a_order
 pBoa:=eP.a_board
 pUni:=eP.a_units
 pKno:=eP.a_known
 pOrd:=eP.a_orders
 pByo:=eP.a_by_order
 kGo:=eK.a_goes
 kFa:=eK.a_fails
 kWa:=eK.a_has_way
 kNo:=eK.a_has_none
 kCu:=eK.a_cut
 kUn:=eK.a_uncut
 tBoa:=eT.a_board
 tUni:=eT.a_units
 tKno:=eT.a_known
 mmin:=PySem.W.mg_none_of X G g.nmin
 mmax:=PySem.W.mg_none_of X G g.nmax
 mlen:=PySem.W.mg_none_of X G g.nlen
 many:=PySem.W.mg_none_of X G g.nany
 mall:=PySem.W.mg_none_of X G g.nall
 msum:=PySem.W.mg_none_of X G g.nsum
 mlist:=PySem.W.mg_none_of X G g.nlist
 mrange:=PySem.W.mg_none_of X G g.nrange
 msorted:=PySem.W.mg_none_of X G g.nsorted
 mzip:=PySem.W.mg_none_of X G g.nzip
 gLAND:=g.iLAND.gv X G
 gSEA:=g.iSEA.gv X G
 gCOAST:=g.iCOAST.gv X G
 gSHORES:=g.iSHORES.gv X G
 gAT_SUPPORT:=g.iAT_SUPPORT.gv X G
 gAT_WAY:=g.iAT_WAY.gv X G
 gAT_MOVE:=g.iAT_MOVE.gv X G
 gDONE:=g.iDONE.gv X G
 gFULL:=g.iFULL.gv X G
 gUNFIT:=g.iUNFIT.gv X G
 gTHERE_ALREADY:=g.iTHERE_ALREADY.gv X G
 gNO_UNIT:=g.iNO_UNIT.gv X G
 gMOST_PROVINCES:=g.iMOST_PROVINCES.gv X G
 gMOST_LINKS:=g.iMOST_LINKS.gv X G
 gMOST_UNITS:=g.iMOST_UNITS.gv X G
 gLAST_CHANGE:=g.iLAST_CHANGE.gv X G
 gOUT_OF_RANGE:=g.iOUT_OF_RANGE.gv X G
 gNO_CALL:=g.iNO_CALL.gv X G
 gHOLD:=g.sHOLD.gv X G
 gMOVE:=g.sMOVE.gv X G
 gBY_WATER:=g.sBY_WATER.gv X G
 gSTAY:=g.sSTAY.gv X G
 gAID:=g.sAID.gv X G
 gCARRY:=g.sCARRY.gv X G
 cBoard:=PySem.W.mg_of X G cB.at_
 cUnit:=PySem.W.mg_of X G cU.at_
 cPosition:=PySem.W.mg_of X G cP.at_
 cKnown:=PySem.W.mg_of X G cK.at_
 cTable:=PySem.W.mg_of X G cT.at_
theorem md_mk (X:K.In h)(G:h.Ns mainGlobals mg)(n:NDef P w K)(s:SDef P w K):Md P w K mg:=by
 obtain⟨d,g,a,m,q⟩:=n.ex
 obtain⟨d2,g2,a2,m2,q2⟩:=s.ex
 exact⟨⟨d,g,PySem.W.mg_of X G a,m,q⟩,⟨d2,g2,PySem.W.mg_of X G a2,m2,λp hp x hx=>q2 p hp x hx⟩⟩
theorem pre0:∀t k ns,ns.length=0->preD 0 t k ns->(λ_ _ _=>True) t k ns:=λ_ _ _ _ _=>trivial
theorem pre1:∀t k ns,ns.length=1->preD 1 t k ns->(λ_ _ ns=>∃kd:Nat,ns=[(kd:Int)]/\kd<=2) t k ns:=λt k ns hl ⟨_,hr⟩=>by
  obtain⟨a,rfl⟩:=len1 hl
  rw[inR1]at hr
  obtain⟨n,rfl,h⟩:=with_nat (m:=2) hr
  exact⟨n,rfl,h⟩
theorem pre2:∀t k ns,ns.length=2->preD 2 t k ns->(λt _ ns=>∃p q:Nat,ns=[(p:Int),(q:Int)]/\p<t.board.kinds.length/\q<t.board.kinds.length) t k ns:=λt k ns hl ⟨_,hr⟩=>by
  obtain⟨a,b,rfl⟩:=len2 hl
  rw[inRpq t rfl]at hr
  obtain⟨h1,h2⟩:=and_t hr
  obtain⟨a',rfl,q1⟩:=prov_nat h1
  obtain⟨b',rfl,q2⟩:=prov_nat h2
  exact⟨a',b',rfl,q1,q2⟩
theorem pre3:∀t k ns,ns.length=4->preD 3 t k ns->(λt _ ns=>∃p s q u:Nat,ns=[(p:Int),(s:Int),(q:Int),(u:Int)]/\p<t.board.kinds.length/\s<=3/\q<t.board.kinds.length/\u<=3) t k ns:=λt k ns hl ⟨_,hr⟩=>by
  obtain⟨a,b,c,d,rfl⟩:=len4 hl
  rw[inR3]at hr
  obtain⟨h1,hr⟩:=and_t hr
  obtain⟨h2,hr⟩:=and_t hr
  obtain⟨h3,h4⟩:=and_t hr
  obtain⟨a',rfl,q1⟩:=prov_nat h1
  obtain⟨b',rfl,q2⟩:=with_nat (m:=3) h2
  obtain⟨c',rfl,q3⟩:=prov_nat h3
  obtain⟨d',rfl,q4⟩:=with_nat (m:=3) h4
  exact⟨a',b',c',d',rfl,q1,q2,q3,q4⟩
theorem pre4:∀t k ns,ns.length=4->preD 4 t k ns->(λt _ ns=>∃pw fl p s:Nat,ns=[(pw:Int),(fl:Int),(p:Int),(s:Int)]/\pw<=6/\fl<=1/\p<t.board.kinds.length/\s<=3) t k ns:=λt k ns hl ⟨_,hr⟩=>by
  obtain⟨a,b,c,d,rfl⟩:=len4 hl
  rw[inR4]at hr
  obtain⟨h1,hr⟩:=and_t hr
  obtain⟨h2,hr⟩:=and_t hr
  obtain⟨h3,h4⟩:=and_t hr
  obtain⟨a',rfl,q1⟩:=with_nat (m:=6) h1
  obtain⟨b',rfl,q2⟩:=with_nat (m:=1) h2
  obtain⟨c',rfl,q3⟩:=prov_nat h3
  obtain⟨d',rfl,q4⟩:=with_nat (m:=3) h4
  exact⟨a',b',c',d',rfl,q1,q2,q3,q4⟩
theorem pre5:∀t k ns,ns.length=1->preD 5 t k ns->(λt _ ns=>∃p:Nat,ns=[(p:Int)]/\p<t.board.kinds.length) t k ns:=λt k ns hl ⟨_,hr⟩=>by
  obtain⟨a,rfl⟩:=len1 hl
  rw[inRp t rfl]at hr
  obtain⟨n,rfl,h⟩:=prov_nat hr
  exact⟨n,rfl,h⟩
theorem pre6:∀t k ns,ns.length=1->preD 6 t k ns->(λt _ ns=>∃p:Nat,ns=[(p:Int)]/\p<t.board.kinds.length) t k ns:=λt k ns hl ⟨_,hr⟩=>by
  obtain⟨a,rfl⟩:=len1 hl
  rw[inRp t rfl]at hr
  obtain⟨n,rfl,h⟩:=prov_nat hr
  exact⟨n,rfl,h⟩
theorem pre7:∀t k ns,ns.length=4->preD 7 t k ns->(λt _ ns=>∃p q u wt:Nat,ns=[(p:Int),(q:Int),(u:Int),(wt:Int)]/\p<t.board.kinds.length/\q<t.board.kinds.length/\u<=3/\wt<=1) t k ns:=λt k ns hl ⟨_,hr⟩=>by
  obtain⟨a,b,c,d,rfl⟩:=len4 hl
  rw[inR7]at hr
  obtain⟨h1,hr⟩:=and_t hr
  obtain⟨h2,hr⟩:=and_t hr
  obtain⟨h3,h4⟩:=and_t hr
  obtain⟨a',rfl,q1⟩:=prov_nat h1
  obtain⟨b',rfl,q2⟩:=prov_nat h2
  obtain⟨c',rfl,q3⟩:=with_nat (m:=3) h3
  obtain⟨d',rfl,q4⟩:=with_nat (m:=1) h4
  exact⟨a',b',c',d',rfl,q1,q2,q3,q4⟩
theorem pre8:∀t k ns,ns.length=2->preD 8 t k ns->(λt _ ns=>∃p q:Nat,ns=[(p:Int),(q:Int)]/\p<t.board.kinds.length/\q<t.board.kinds.length) t k ns:=λt k ns hl ⟨_,hr⟩=>by
  obtain⟨a,b,rfl⟩:=len2 hl
  rw[inRpq t rfl]at hr
  obtain⟨h1,h2⟩:=and_t hr
  obtain⟨a',rfl,q1⟩:=prov_nat h1
  obtain⟨b',rfl,q2⟩:=prov_nat h2
  exact⟨a',b',rfl,q1,q2⟩
theorem pre9:∀t k ns,ns.length=3->preD 9 t k ns->(λt _ ns=>∃p x q:Nat,ns=[(p:Int),(x:Int),(q:Int)]/\p<t.board.kinds.length/\x<t.board.kinds.length/\q<t.board.kinds.length) t k ns:=λt k ns hl ⟨_,hr⟩=>by
  obtain⟨a,b,c,rfl⟩:=len3 hl
  rw[inRpaq t rfl]at hr
  obtain⟨h1,hr⟩:=and_t hr
  obtain⟨h2,h3⟩:=and_t hr
  obtain⟨a',rfl,q1⟩:=prov_nat h1
  obtain⟨b',rfl,q2⟩:=prov_nat h2
  obtain⟨c',rfl,q3⟩:=prov_nat h3
  exact⟨a',b',c',rfl,q1,q2,q3⟩
theorem pre10:∀t k ns,ns.length=3->preD 10 t k ns->(λt _ ns=>∃p x q:Nat,ns=[(p:Int),(x:Int),(q:Int)]/\p<t.board.kinds.length/\x<t.board.kinds.length/\q<t.board.kinds.length) t k ns:=λt k ns hl ⟨_,hr⟩=>by
  obtain⟨a,b,c,rfl⟩:=len3 hl
  rw[inRpaq t rfl]at hr
  obtain⟨h1,hr⟩:=and_t hr
  obtain⟨h2,h3⟩:=and_t hr
  obtain⟨a',rfl,q1⟩:=prov_nat h1
  obtain⟨b',rfl,q2⟩:=prov_nat h2
  obtain⟨c',rfl,q3⟩:=prov_nat h3
  exact⟨a',b',c',rfl,q1,q2,q3⟩
theorem pre11:∀t k ns,ns.length=0->preD 11 t k ns->(λ_ _ _=>True) t k ns:=λ_ _ _ _ _=>trivial
theorem pre12:∀t k ns,ns.length=2->preD 12 t k ns->(λt k ns=>Gd t k/\∃wt p:Nat,ns=[(wt:Int),(p:Int)]/\wt<=2/\p<t.board.kinds.length) t k ns:=λt k ns hl ⟨gd,hr⟩=>by
  obtain⟨a,b,rfl⟩:=len2 hl
  rw[inR12]at hr
  obtain⟨h1,h2⟩:=and_t hr
  obtain⟨a',rfl,q1⟩:=with_nat (m:=2) h1
  obtain⟨b',rfl,q2⟩:=prov_nat h2
  exact⟨gd,a',b',rfl,q1,q2⟩
theorem pre13:∀t k ns,ns.length=0->preD 13 t k ns->(λt k _=>Gd t k) t k ns:=λ_ _ _ _ h=>h.1
theorem pre14:∀t k ns,ns.length=0->preD 14 t k ns->(λt k _=>Gd t k) t k ns:=λ_ _ _ _ h=>h.1
theorem pre15:∀t k ns,ns.length=0->preD 15 t k ns->(λt k _=>Gd t k) t k ns:=λ_ _ _ _ h=>h.1
theorem pre16:∀t k ns,ns.length=1->preD 16 t k ns->(λt _ ns=>∃p:Nat,ns=[(p:Int)]/\p<t.board.kinds.length) t k ns:=λt k ns hl ⟨_,hr⟩=>by
  obtain⟨a,rfl⟩:=len1 hl
  rw[inRp t rfl]at hr
  obtain⟨n,rfl,h⟩:=prov_nat hr
  exact⟨n,rfl,h⟩
theorem pre17:∀t k ns,ns.length=0->preD 17 t k ns->(λ_ _ _=>True) t k ns:=λ_ _ _ _ _=>trivial
theorem pre18:∀t k ns,ns.length=1->preD 18 t k ns->(λt _ ns=>∃p:Nat,ns=[(p:Int)]/\p<t.board.kinds.length) t k ns:=λt k ns hl ⟨_,hr⟩=>by
  obtain⟨a,rfl⟩:=len1 hl
  rw[inRp t rfl]at hr
  obtain⟨n,rfl,h⟩:=prov_nat hr
  exact⟨n,rfl,h⟩
theorem pre19:∀t k ns,ns.length=0->preD 19 t k ns->(λ_ _ _=>True) t k ns:=λ_ _ _ _ _=>trivial
theorem fin {fa:Addr}(X:K.In h)(G:h.Ns mainGlobals mg)(hfa:mg "answers"=some (.ref fa))(g:Glb K)(xB:∃C,CDef K "Board" C/\CB K C)(xU:∃C,CDef K "Unit" C/\CU K C)(xP:∃C,CDef K "Position" C/\CP K C)(xK:∃C,CDef K "Known" C/\CK K C)(xT:∃C,CDef K "Table" C/\CT K C)(D:Dfs K)(nd:NDef P w K)(sd:SDef P w K)(dd:DDef P w K)(ad:ADef K "answers" sAns ["calls"]):
  ∃fd:FuncData,(∀(s:Shared) (us:List Value),us.length=(["calls"]:List Str).length->BindsTo s fd ⟨us,[]⟩ ((["calls"]:List Str).zip us))/\∀base:Heap,K.In base->base.Ns mainGlobals mg->FnOk P w K mg base CX0 16 fa fd ["calls"] (spAns K):=by
 obtain⟨CB_,cB,eB⟩:=xB
 obtain⟨CU_,cU,eU⟩:=xU
 obtain⟨CP_,cP,eP⟩:=xP
 obtain⟨CK_,cK,eK⟩:=xK
 obtain⟨CT_,cT,eT⟩:=xT
 obtain⟨f,fd,a,F,b⟩:=ad.ex
 have e:=hfa.symm.trans (PySem.W.mg_of X G a)
 cases e
 refine⟨fd,b,λbase _ _=>?_⟩
 have T:Tx K mg ⟨CB_,CU_,CP_,CK_,CT_⟩:=tx_mk X G g cB eB cU eU cP eP cK eK cT eT
 have M:Md P w K mg:=md_mk X G nd sd
 have n_link_between:=D.link_between.fn (P:=P) (w:=w) (base:=base) X G λF=>ok_link F T
 have n_joined_by_land:=eB.djoined_by_land.mt (P:=P) (w:=w) (mg:=mg) (base:=base) cB.cl λF=>ok_JdL F T n_link_between
 have n_joined_by_sea:=eB.djoined_by_sea.mt (P:=P) (w:=w) (mg:=mg) (base:=base) cB.cl λF=>ok_JdS F T n_link_between
 have n_join_by_land:=eB.djoin_by_land.mt (P:=P) (w:=w) (mg:=mg) (base:=base) cB.cl λF=>ok_JL F T n_link_between
 have n_join_by_sea:=eB.djoin_by_sea.mt (P:=P) (w:=w) (mg:=mg) (base:=base) cB.cl λF=>ok_JS F T n_link_between
 have n_lay_province:=eB.dlay_province.mt (P:=P) (w:=w) (mg:=mg) (base:=base) cB.cl λF=>ok_Lay F T
 have gB:=eB.d__init__.ck (P:=P) (w:=w) (base:=base) cB X G λF=>ok_BInit F T
 have n_joined_at_some_shore:=eB.djoined_at_some_shore.mt (P:=P) (w:=w) (mg:=mg) (base:=base) cB.cl λF=>ok_Jss F T n_joined_by_sea
 have gU:=eU.d__init__.ck (P:=P) (w:=w) (base:=base) cU X G λF=>ok_UInit F T
 have n_place_of:=D.place_of.fn (P:=P) (w:=w) (base:=base) X G λF=>ok_place F T
 have n_reaches:=D.reaches.fn (P:=P) (w:=w) (base:=base) X G λF=>ok_reach F T n_place_of n_joined_at_some_shore n_joined_by_land
 have n_aid_counts:=D.aid_counts.fn (P:=P) (w:=w) (base:=base) X G λF=>ok_aidc F T n_reaches
 have n_carry_counts:=D.carry_counts.fn (P:=P) (w:=w) (base:=base) X G λF=>ok_carc F T
 have n_fleet_move_as_it_counts:=D.fleet_move_as_it_counts.fn (P:=P) (w:=w) (base:=base) X G λF=>ok_fmv F T n_place_of n_joined_by_sea
 have n_army_move_as_it_counts:=D.army_move_as_it_counts.fn (P:=P) (w:=w) (base:=base) X G λF=>ok_amv F T n_reaches
 have n_order_as_it_counts:=D.order_as_it_counts.fn (P:=P) (w:=w) (base:=base) X G λF=>ok_oaic F T n_reaches n_fleet_move_as_it_counts n_army_move_as_it_counts n_aid_counts n_carry_counts
 have n_having:=eP.dhaving.mt (P:=P) (w:=w) (mg:=mg) (base:=base) cP.cl λF=>ok_hav F T
 have n_movers_into:=eP.dmovers_into.mt (P:=P) (w:=w) (mg:=mg) (base:=base) cP.cl λF=>ok_min F T n_having
 have n_moves:=eP.dmoves.mt (P:=P) (w:=w) (mg:=mg) (base:=base) cP.cl λF=>ok_mvs F T
 have n_moves_by_water:=eP.dmoves_by_water.mt (P:=P) (w:=w) (mg:=mg) (base:=base) cP.cl λF=>ok_mbw F T
 have n_goal:=eP.dgoal.mt (P:=P) (w:=w) (mg:=mg) (base:=base) cP.cl λF=>ok_goal F T
 have n_surely_has_way:=D.surely_has_way.fn (P:=P) (w:=w) (base:=base) X G λF=>ok_shw F T n_moves_by_water
 have n_may_have_way:=D.may_have_way.fn (P:=P) (w:=w) (base:=base) X G λF=>ok_mhw F T n_moves_by_water
 have n_surely_left:=D.surely_left.fn (P:=P) (w:=w) (base:=base) X G λF=>ok_sl F T n_moves
 have n_may_have_left:=D.may_have_left.fn (P:=P) (w:=w) (base:=base) X G λF=>ok_ml F T n_moves
 have n_head_to_head:=D.head_to_head.fn (P:=P) (w:=w) (base:=base) X G λF=>ok_h2h F T
 have n_sure_helpers:=D.sure_helpers.fn (P:=P) (w:=w) (base:=base) X G λF=>ok_shs F T n_having
 have n_possible_helpers:=D.possible_helpers.fn (P:=P) (w:=w) (base:=base) X G λF=>ok_phs F T n_having
 have n_aid_for:=D.aid_for.fn (P:=P) (w:=w) (base:=base) X G λF=>ok_aidf F T n_goal
 have n_attack:=D.attack.fn (P:=P) (w:=w) (base:=base) X G λF=>ok_atk F T n_goal n_head_to_head
 have n_attack_lower:=D.attack_lower.fn (P:=P) (w:=w) (base:=base) X G λF=>ok_atl F T n_goal n_surely_left n_surely_has_way n_sure_helpers n_aid_for n_attack
 have n_attack_upper:=D.attack_upper.fn (P:=P) (w:=w) (base:=base) X G λF=>ok_atu F T n_goal n_may_have_left n_may_have_way n_possible_helpers n_aid_for n_attack
 have n_keeps_out_lower:=D.keeps_out_lower.fn (P:=P) (w:=w) (base:=base) X G λF=>ok_kol F T n_goal n_surely_has_way n_head_to_head n_sure_helpers n_aid_for
 have n_keeps_out_upper:=D.keeps_out_upper.fn (P:=P) (w:=w) (base:=base) X G λF=>ok_kou F T n_goal n_may_have_way n_head_to_head n_possible_helpers n_aid_for
 have n_holds_lower:=D.holds_lower.fn (P:=P) (w:=w) (base:=base) X G λF=>ok_hol F T n_moves n_sure_helpers
 have n_holds_upper:=D.holds_upper.fn (P:=P) (w:=w) (base:=base) X G λF=>ok_hou F T n_moves n_possible_helpers
 have n_wall_lower:=D.wall_lower.fn (P:=P) (w:=w) (base:=base) X G λF=>ok_wal F T n_goal n_head_to_head n_sure_helpers n_aid_for n_holds_lower
 have n_wall_upper:=D.wall_upper.fn (P:=P) (w:=w) (base:=base) X G λF=>ok_wau F T n_goal n_head_to_head n_possible_helpers n_aid_for n_holds_upper
 have n_rivals:=D.rivals.fn (P:=P) (w:=w) (base:=base) X G λF=>ok_rvs F T n_goal n_movers_into
 have n_surely_goes:=D.surely_goes.fn (P:=P) (w:=w) (base:=base) X G λF=>ok_sg F T n_attack_lower n_wall_upper n_keeps_out_upper n_rivals
 have n_may_go:=D.may_go.fn (P:=P) (w:=w) (base:=base) X G λF=>ok_mg F T n_attack_upper n_wall_lower n_keeps_out_lower n_rivals
 have n_other_powers_movers_into:=D.other_powers_movers_into.fn (P:=P) (w:=w) (base:=base) X G λF=>ok_opm F T n_movers_into
 have n_aids_against:=D.aids_against.fn (P:=P) (w:=w) (base:=base) X G λF=>ok_agn F T
 have n_surely_cuts:=D.surely_cuts.fn (P:=P) (w:=w) (base:=base) X G λF=>ok_scs F T n_surely_has_way n_aids_against
 have n_may_cut:=D.may_cut.fn (P:=P) (w:=w) (base:=base) X G λF=>ok_mcs F T n_may_have_way n_aids_against
 have n_surely_cut:=D.surely_cut.fn (P:=P) (w:=w) (base:=base) X G λF=>ok_sc F T n_other_powers_movers_into n_surely_cuts
 have n_may_be_cut:=D.may_be_cut.fn (P:=P) (w:=w) (base:=base) X G λF=>ok_mc F T n_other_powers_movers_into n_may_cut
 have n_surely_driven_out:=D.surely_driven_out.fn (P:=P) (w:=w) (base:=base) X G λF=>ok_sdo F T n_movers_into
 have n_may_be_driven_out:=D.may_be_driven_out.fn (P:=P) (w:=w) (base:=base) X G λF=>ok_mdo F T n_movers_into
 have n_touches:=D.touches.fn (P:=P) (w:=w) (base:=base) X G λF=>ok_tch F T n_place_of n_joined_at_some_shore
 have n_fleets_joined:=D.fleets_joined.fn (P:=P) (w:=w) (base:=base) X G λF=>ok_jnd F T n_place_of n_joined_by_sea
 have n_chain_among:=D.chain_among.fn (P:=P) (w:=w) (base:=base) X G λF=>ok_cha F T n_touches n_fleets_joined
 have n_carriers:=D.carriers.fn (P:=P) (w:=w) (base:=base) X G λF=>ok_car F T n_goal n_having
 have n_surely_a_chain:=D.surely_a_chain.fn (P:=P) (w:=w) (base:=base) X G λF=>ok_sch F T n_goal n_carriers n_may_be_driven_out n_chain_among
 have n_may_be_a_chain:=D.may_be_a_chain.fn (P:=P) (w:=w) (base:=base) X G λF=>ok_mch F T n_goal n_carriers n_surely_driven_out n_chain_among
 have gK:=eK.d__init__.ck (P:=P) (w:=w) (base:=base) cK X G λF=>ok_KInit F T
 have n_six_kinds:=eK.dsix_kinds.mt (P:=P) (w:=w) (mg:=mg) (base:=base) cK.cl λF=>ok_six F T
 have n_how_many:=eK.dhow_many.mt (P:=P) (w:=w) (mg:=mg) (base:=base) cK.cl λF=>ok_how F T n_six_kinds
 have n_look_at_support:=D.look_at_support.fn (P:=P) (w:=w) (base:=base) X G λF=>ok_ls F T n_surely_cut n_may_be_cut
 have n_look_at_way:=D.look_at_way.fn (P:=P) (w:=w) (base:=base) X G λF=>ok_lw F T n_surely_a_chain n_may_be_a_chain
 have n_look_at_move:=D.look_at_move.fn (P:=P) (w:=w) (base:=base) X G λF=>ok_lm F T n_surely_goes n_may_go
 have n_look_at_unit:=D.look_at_unit.fn (P:=P) (w:=w) (base:=base) X G λF=>ok_lu F T n_how_many n_moves_by_water n_moves n_look_at_support n_look_at_way n_look_at_move
 have n_one_pass:=D.one_pass.fn (P:=P) (w:=w) (base:=base) X G λF=>ok_op F T n_look_at_unit
 have n_all_passes:=D.all_passes.fn (P:=P) (w:=w) (base:=base) X G λF=>ok_ap F T n_one_pass
 have gP:=eP.d__init__.ck (P:=P) (w:=w) (base:=base) cP X G λF=>ok_PInit F T n_order_as_it_counts
 have gT:=eT.d__init__.ck (P:=P) (w:=w) (base:=base) cT X G λF=>ok_TInit F T gB gK
 have n_may_stand:=D.may_stand.fn (P:=P) (w:=w) (base:=base) X G λF=>ok_mst F T
 have n_give_order:=D.give_order.fn (P:=P) (w:=w) (base:=base) X G λF=>ok_giv F T
 have n_position_on:=D.position_on.fn (P:=P) (w:=w) (base:=base) X G λF=>ok_pos F T gP
 have n_count_of_numbers:=D.count_of_numbers.fn (P:=P) (w:=w) (base:=base) X G λF=>ok_cnt F T M
 have n_is_call:=D.is_call.fn (P:=P) (w:=w) (base:=base) X G λF=>ok_isc F T M n_count_of_numbers
 have n_all_in_range:=D.all_in_range.fn (P:=P) (w:=w) (base:=base) X G λF=>ok_air F T M
 have DD:Drs P w K mg base ⟨CB_,CU_,CP_,CK_,CT_⟩:=by
  obtain⟨d,gg,a,m,q⟩:=dd.ex
  refine⟨d,gg,PySem.W.mg_of X G a,m,λp hp=>?_⟩
  obtain⟨f,h1,h2⟩:=q p hp
  refine⟨f,h1,?_⟩
  have hc:p=0\/p=1\/p=2\/p=3\/p=4\/p=5\/p=6\/p=7\/p=8\/p=9\/p=10\/p=11\/p=12\/p=13\/p=14\/p=15\/p=16\/p=17\/p=18\/p=19:=by omega
  rcases hc with rfl|rfl|rfl|rfl|rfl|rfl|rfl|rfl|rfl|rfl|rfl|rfl|rfl|rfl|rfl|rfl|rfl|rfl|rfl|rfl
  ·exact D.clear_table.dr (p:=0) h2 (λF=>ok_clr F T gB) (by decide) rfl rfl pre0
  ·exact D.new_province.dr (p:=1) h2 (λF=>ok_prv F T n_lay_province) (by decide) rfl rfl pre1
  ·exact D.new_land_link.dr (p:=2) h2 (λF=>ok_lnd F T n_joined_by_land n_join_by_land) (by decide) rfl rfl pre2
  ·exact D.new_sea_link.dr (p:=3) h2 (λF=>ok_sea F T n_joined_by_sea n_join_by_sea) (by decide) rfl rfl pre3
  ·exact D.new_unit.dr (p:=4) h2 (λF=>ok_unt F T n_may_stand gU) (by decide) rfl rfl pre4
  ·exact D.take_unit_away.dr (p:=5) h2 (λF=>ok_gon F T) (by decide) rfl rfl pre5
  ·exact D.order_hold.dr (p:=6) h2 (λF=>ok_oho F T n_give_order) (by decide) rfl rfl pre6
  ·exact D.order_move.dr (p:=7) h2 (λF=>ok_omv F T n_give_order) (by decide) rfl rfl pre7
  ·exact D.order_stay.dr (p:=8) h2 (λF=>ok_ost F T n_give_order) (by decide) rfl rfl pre8
  ·exact D.order_aid.dr (p:=9) h2 (λF=>ok_oai F T n_give_order) (by decide) rfl rfl pre9
  ·exact D.order_carry.dr (p:=10) h2 (λF=>ok_oca F T n_give_order) (by decide) rfl rfl pre10
  ·exact D.forget_all.dr (p:=11) h2 (λF=>ok_for F T gK) (by decide) rfl rfl pre11
  ·exact D.look_at_one.dr (p:=12) h2 (λF=>ok_loo F T n_position_on n_look_at_unit) (by decide) rfl rfl pre12
  ·exact D.make_one_pass.dr (p:=13) h2 (λF=>ok_m1p F T n_position_on n_one_pass) (by decide) rfl rfl pre13
  ·exact D.make_all_passes.dr (p:=14) h2 (λF=>ok_map F T n_position_on n_all_passes) (by decide) rfl rfl pre14
  ·exact D.tell_known.dr (p:=15) h2 (λF=>ok_tkn F T n_six_kinds) (by decide) rfl rfl pre15
  ·exact D.tell_bounds.dr (p:=16) h2 (λF=>ok_tbo F T n_position_on n_moves n_holds_lower n_holds_upper n_attack_lower n_attack_upper n_wall_lower n_wall_upper n_keeps_out_lower n_keeps_out_upper) (by decide) rfl rfl pre16
  ·exact D.tell_unknown.dr (p:=17) h2 (λF=>ok_tun F T n_position_on n_moves) (by decide) rfl rfl pre17
  ·exact D.tell_support.dr (p:=18) h2 (λF=>ok_tsu F T n_position_on n_surely_cut n_may_be_cut) (by decide) rfl rfl pre18
  ·exact D.tell_count.dr (p:=19) h2 (λF=>ok_tco F T n_how_many) (by decide) rfl rfl pre19
 have n_row_of_call:=D.row_of_call.fn (P:=P) (w:=w) (base:=base) X G λF=>ok_row F T DD
 have n_do_call:=D.do_call.fn (P:=P) (w:=w) (base:=base) X G λF=>ok_doc F T gK n_row_of_call
 have n_answer_call:=D.answer_call.fn (P:=P) (w:=w) (base:=base) X G λF=>ok_aca F T n_is_call n_all_in_range n_do_call
 exact ok_ans F T gT n_count_of_numbers n_answer_call
end
section
variable {P:Program}{w:World}{K:Fg}
def keyOf:Value->Key
 |.int i _=>.inl i
 |.str x _=>.inr x
 |_=>.inl 0
def toV:Value->V
 |.int i _=>.int i
 |.ref a=>.ref a
 |_=>.non
structure EOk (w:World)(e:DictEntry):Prop where
 i:keyIs (keyOf e.key) e.key=true
 h:e.hash=keyH w (keyOf e.key)
 v:RelV (toV e.val) e.val
def AllE (w:World):List DictEntry->Prop
 |[]=>True
 |e::r=>EOk w e/\AllE w r
theorem AllE.mem:∀{l:List DictEntry},AllE w l->∀e∈l,EOk w e
 |[],_,e,h=>nomatch h
 |a::r,q,e,h=>by
  rcases List.mem_cons.mp h with rfl|h
  ·exact q.1
  ·exact AllE.mem q.2 e h
def gD (es:List DictEntry)(k:Key):Option V:=(es.find? λe=>keyIs k e.key).map λe=>toV e.val
theorem md_of {d:Addr}{es:List DictEntry}{ep:Nat}(l:K.lookup d=some ⟨.type "dict",none,.dict es.toArray ep, #[]⟩)(sm:(d==sysModules)=false)(ok:AllE w es):MD P w K d (gD es):=by
 refine⟨⟨_,es.toArray,ep,l,⟨rfl,rfl,rfl⟩,rfl,λe he=>?_,λk=>?_⟩,sm⟩
 ·have q:=ok.mem e (by simpa using he)
  exact⟨keyOf e.key,q.i,q.h⟩
 ·show RelO (gD es k) ((es.toArray.find? λe=>keyIs k e.key).map (·.val))
  rw[List.find?_toArray]
  unfold gD
  cases q:es.find? λe=>keyIs k e.key with
  |none=>exact trivial
  |some e=>exact(ok.mem e (List.mem_of_find?_eq_some q)).v
theorem ei {i:Int}{t:Tok}{hs:Int}{a:Addr}(h:hs=hashInt i):EOk w ⟨hs,.int i t,.ref a⟩:=⟨keyIs_int i t,h,rfl⟩
theorem es_ {x:Str}{t u:Tok}{hs n:Int}(h:hs=hashStr w x):EOk w ⟨hs,.str x t,.int n u⟩:=⟨keyIs_str x t,h,u,rfl⟩
theorem sqT_mk {t:Addr}{od:Option Addr}{its:List Value}{n:Nat}{sl:Array (Option Value)}{xs:List V}(l:K.lookup t=some ⟨.type "tuple",od,.seq its.toArray n,sl⟩)(hz:its.length<=1000)(hv:Vals xs its):∀H,SqT K H t xs:=λH=>.inr ⟨_,its.toArray,n,l,rfl,rfl,by rw[List.size_toArray];exact Nat.le_of_lt (small1000 hz),hv⟩
theorem DDef.mk' {d:Addr}{es:List DictEntry}{ep:Nat}(a:PySem.W.nsIn K mainGlobals "DOERS"=some (some (.ref d)))(l:K.lookup d=some ⟨.type "dict",none,.dict es.toArray ep, #[]⟩)(sm:(d==sysModules)=false)(ok:AllE w es)
  (q:∀p:Nat,p<=19->∃f,gD es (Sum.inl (p:Int))=some (.ref f)/\PySem.W.nsIn K mainGlobals (doer p)=some (some (.ref f))):DDef P w K:=⟨d,_,a,md_of l sm ok,q⟩
theorem NDef.mk' {d:Addr}{es:List DictEntry}{ep:Nat}(a:PySem.W.nsIn K mainGlobals "NUMBERS"=some (some (.ref d)))(l:K.lookup d=some ⟨.type "dict",none,.dict es.toArray ep, #[]⟩)(sm:(d==sysModules)=false)(ok:AllE w es)
  (q:∀p:Nat,p<=19->∃t,gD es (Sum.inl (p:Int))=some (.ref t)/\∀H,SqT K H t ((names p).map V.str)):NDef P w K:=⟨d,_,a,md_of l sm ok,q⟩
theorem SDef.mk' {d:Addr}{es:List DictEntry}{ep:Nat}(a:PySem.W.nsIn K mainGlobals "SIZES"=some (some (.ref d)))(l:K.lookup d=some ⟨.type "dict",none,.dict es.toArray ep, #[]⟩)(sm:(d==sysModules)=false)(ok:AllE w es)
  (q:∀p:Nat,p<=19->∀x∈names p,gD es (Sum.inr x)=(sizeOf x).map V.int):SDef P w K:=⟨d,_,a,md_of l sm ok,q⟩
theorem p19 {p:Nat}(hp:p<=19):p=0\/p=1\/p=2\/p=3\/p=4\/p=5\/p=6\/p=7\/p=8\/p=9\/p=10\/p=11\/p=12\/p=13\/p=14\/p=15\/p=16\/p=17\/p=18\/p=19:=by omega
theorem names_in {p:Nat}{x:Str}(h:x∈names p):x="kind"\/x="p"\/x="q"\/x="s"\/x="t"\/x="power"\/x="fleet"\/x="water"\/x="a"\/x="what":=by
 unfold names at h
 split at h<;>simp only[List.mem_cons,List.not_mem_nil,or_false]at h<;>first
  |exact h.elim
  |(subst h;simp;done)
  |(rcases h with h|h<;>subst h<;>simp;done)
  |(rcases h with h|h|h<;>subst h<;>simp;done)
  |(rcases h with h|h|h|h<;>subst h<;>simp;done)
end
end OK
section
namespace L2
open PySem PySem.Spec PyProof.Rows
open PySem.W (WData Codec OpenSpec Well WellAll ReadsW ReadsAllW)
mutual
inductive Dw (K:Fg)(H:Hp):V->WData->Prop
 |non:Dw K H .non .none
 |bl (b:Bool):Dw K H (.bl b) (.bool b)
 |int (i:Int):Dw K H (.int i) (.int i)
 |str (x:Str):Dw K H (.str x) (.str x)
 |byt (b:Array UInt8):Dw K H (.byt b) (.bytes b.toList)
 |lst {a:Addr} {xs:List V} {ds:List WData}:SqL K H a xs->DwAll K H xs ds->Dw K H (.ref a) (.list ds)
 |tup {a:Addr} {xs:List V} {ds:List WData}:SqT K H a xs->DwAll K H xs ds->Dw K H (.ref a) (.tuple ds)
inductive DwAll (K:Fg)(H:Hp):List V->List WData->Prop
 |nil:DwAll K H [] []
 |cons {v:V} {vs:List V} {d:WData} {ds:List WData}:Dw K H v d->DwAll K H vs ds->DwAll K H (v::vs) (d::ds)
end
theorem dw_ints {K:Fg}{H:Hp}:∀ns:List Int,DwAll K H (ns.map V.int) (ns.map WData.int)
 |[]=>.nil
 |n::r=>.cons (.int n) (dw_ints r)
theorem ints_dw {K:Fg}{H:Hp}:∀(ns:List Int) (xs:List V),DwAll K H xs (ns.map WData.int)->xs=ns.map V.int
 |[],xs,h=>by
  cases h
  rfl
 |n::r,xs,h=>by
  cases h with
  |cons h1 h2=>
   cases h1
   rw[ints_dw r _ h2]<;>rfl
section
variable {P:Program}{w:World}{K:Fg}{H:Hp}{h:Heap}{R:PySem.W.WRecords}{cl:Str->Option Addr}
theorem sqL_at {a:Addr}{xs:List V}(hok:HOk P w H h)(KX:K.In h)(q:SqL K H a xs):∃(its:List Value) (o:Obj) (n:Nat),Vals xs its/\h.get? a=some o/\o.cls=.type "list"/\o.data=.seq its.toArray n:=by
 rcases q with q|⟨o,its,n,e,hc,_,hd,_,hv⟩
 ·obtain⟨_,its,n,hv,e⟩:=(show ObjOk P w H h a (.lst xs)from q.ok hok)
  exact⟨its,_,n,hv,e,rfl,rfl⟩
 ·exact⟨its.toList,o,n,hv,KX _ _ e,hc,by simp[hd]⟩
theorem sqT_at {a:Addr}{xs:List V}(hok:HOk P w H h)(KX:K.In h)(q:SqT K H a xs):∃(its:List Value) (o:Obj) (n:Nat),Vals xs its/\h.get? a=some o/\o.cls=.type "tuple"/\o.data=.seq its.toArray n:=by
 rcases q with q|⟨o,its,n,e,hc,hd,_,hv⟩
 ·obtain⟨_,its,hv,o,e,hc,n,hd⟩:=(show ObjOk P w H h a (.tup xs)from q.ok hok)
  exact⟨its,o,n,hv,e,hc,hd⟩
 ·exact⟨its.toList,o,n,hv,KX _ _ e,hc,by simp[hd]⟩
mutual
theorem Dw.reads (hok:HOk P w H h)(KX:K.In h):∀(d:WData) (v:V) (u:Value),Dw K H v d->RelV v u->∃as,ReadsW R cl h u d as
 |.none,_,_,x,r=>by
  cases x
  cases r
  exact⟨_,ReadsW.none⟩
 |.bool b,_,_,x,r=>by
  cases x
  cases r
  exact⟨_,ReadsW.bool b⟩
 |.int i,_,_,x,r=>by
  cases x
  obtain⟨t,rfl⟩:=r
  exact⟨_,ReadsW.int i t⟩
 |.str s,_,_,x,r=>by
  cases x
  obtain⟨t,rfl⟩:=r
  exact⟨_,ReadsW.str s t⟩
 |.bytes b,_,_,x,r=>by
  cases x
  obtain⟨t,rfl⟩:=r
  exact⟨_,ReadsW.bytes _ t⟩
 |.list ds,_,_,x,r=>by
  cases x with
  |lst hs ha=>
   cases r
   obtain⟨its,o,n,rv,ho,hc,hd⟩:=sqL_at hok KX hs
   obtain⟨as,hr⟩:=Dw.readsAll hok KX ds _ its ha rv
   exact⟨_,ReadsW.list ho hc hd hr⟩
 |.tuple ds,_,_,x,r=>by
  cases x with
  |tup hs ha=>
   cases r
   obtain⟨its,o,n,rv,ho,hc,hd⟩:=sqT_at hok KX hs
   obtain⟨as,hr⟩:=Dw.readsAll hok KX ds _ its ha rv
   exact⟨_,ReadsW.tuple ho hc hd hr⟩
 |.float _,_,_,x,_=>by cases x
 |.dict _,_,_,x,_=>by cases x
 |.bytearray _,_,_,x,_=>by cases x
 |.set _,_,_,x,_=>by cases x
 |.frozenset _,_,_,x,_=>by cases x
 |.obj _ _,_,_,x,_=>by cases x
theorem Dw.readsAll (hok:HOk P w H h)(KX:K.In h):∀(ds:List WData) (vs:List V) (us:List Value),DwAll K H vs ds->Vals vs us->∃as,ReadsAllW R cl h us ds as
 |[],_,_,x,r=>by
  cases x
  cases r
  exact⟨_,ReadsAllW.nil⟩
 |d::ds,_,_,x,r=>by
  cases x with
  |cons h1 h2=>
   cases r with
   |cons r1 r2=>
    obtain⟨as,q1⟩:=Dw.reads hok KX d _ _ h1 r1
    obtain⟨bs,q2⟩:=Dw.readsAll hok KX ds _ _ h2 r2
    exact⟨_,ReadsAllW.cons q1 q2⟩
end
end
mutual
def plW:WData->Bool
 |.none=>true
 |.bool _=>true
 |.int _=>true
 |.str _=>true
 |.bytes _=>true
 |.list xs=>plWs xs
 |.tuple xs=>plWs xs
 |_=>false
def plWs:List WData->Bool
 |[]=>true
 |x::r=>plW x&&plWs r
end
theorem plWs_map {α:Type}{f:α->WData}(h:∀a,plW (f a)=true):∀l:List α,plWs (l.map f)=true
 |[]=>rfl
 |x::r=>by
  show(plW (f x)&&plWs (r.map f))=true
  rw[h x,plWs_map h r]<;>rfl
theorem pl_enc:∀(c:Codec) (a:c.denote),plW (c.enc a)=true
 |.unit,_=>rfl
 |.bool,_=>rfl
 |.int _ _,_=>rfl
 |.nat _ _,_=>rfl
 |.u8,_=>rfl
 |.bytes _ _,_=>rfl
 |.text _ _ _ _,_=>rfl
 |.list _ _ c,a=>plWs_map (λx=>pl_enc c x) a
 |.pair c d,a=>by
  show(plW (c.enc a.1)&&(plW (d.enc a.2)&&true))=true
  rw[pl_enc c a.1,pl_enc d a.2]<;>rfl
 |.triple c d e,a=>by
  show(plW (c.enc a.1)&&(plW (d.enc a.2.1)&&(plW (e.enc a.2.2)&&true)))=true
  rw[pl_enc c a.1,pl_enc d a.2.1,pl_enc e a.2.2]<;>rfl
 |.option c,none=>rfl
 |.option c,some x=>pl_enc c x
theorem pl_encAll:∀(cs:List Codec) (a:Codec.denoteAll cs),plWs (Codec.encAll cs a)=true
 |[],_=>rfl
 |c::cs,a=>by
  show(plW (c.enc a.1)&&plWs (Codec.encAll cs a.2))=true
  rw[pl_enc c a.1,pl_encAll cs a.2]<;>rfl
theorem weight_mem:∀{xs:List WData} {d:WData},d∈xs->d.weight<=WData.weightAll xs
 |[],d,h=>absurd h (by simp)
 |x::r,d,h=>by
  show d.weight<=x.weight+1+WData.weightAll r
  rcases List.mem_cons.mp h with e|m
  ·rw[e]
   omega
  ·have z:=weight_mem m
   omega
def toV:Value->V
 |.none=>.non
 |.bool b=>.bl b
 |.int i _=>.int i
 |.str x _=>.str x
 |.bytes b _=>.byt b
 |.ref a=>.ref a
 |_=>.non
def OkU (A:List Addr):Value->Prop
 |.none=>True
 |.bool _=>True
 |.int _ _=>True
 |.str _ _=>True
 |.bytes _ _=>True
 |.ref a=>a∈A
 |_=>False
theorem OkU.mono {A B:List Addr}(h:∀a∈A,a∈B):∀{u:Value},OkU A u->OkU B u:=λ{u} x=>by
 cases u with
 |ref a=>exact h a x
 |none=>trivial
 |bool b=>trivial
 |int i t=>trivial
 |str s t=>trivial
 |bytes b t=>trivial
 |_=>exact False.elim x
theorem relV_toV {A:List Addr}{u:Value}(x:OkU A u):RelV (toV u) u:=by
 cases u with
 |ref a=>rfl
 |none=>rfl
 |bool b=>rfl
 |int i t=>exact⟨t,rfl⟩
 |str s t=>exact⟨t,rfl⟩
 |bytes b t=>exact⟨t,rfl⟩
 |_=>exact False.elim x
theorem vals_toV {A:List Addr}:∀{vs:List Value},(∀u∈vs,OkU A u)->Vals (vs.map toV) vs
 |[],_=>.nil
 |u::r,h=>.cons (relV_toV (h u (List.mem_cons_self ..))) (vals_toV λx hx=>h x (List.mem_cons_of_mem _ hx))
def ArgOb (h:Heap)(A:List Addr)(a:Addr):Prop:=∃vs:List Value,vs.length<=sizeLine/\(∀u∈vs,OkU A u)/\
 (h.get? a=some {cls:=.type "list",data:=.seq vs.toArray}\/h.get? a=some {cls:=.type "tuple",data:=.seq vs.toArray})
theorem ArgOb.mono {h:Heap}{A B:List Addr}{a:Addr}(k:∀a∈A,a∈B)(x:ArgOb h A a):ArgOb h B a:=by
 obtain⟨vs,h1,h2,h3⟩:=x
 exact⟨vs,h1,λu hu=>(h2 u hu).mono k,h3⟩
theorem wellAll_len {P:Params}{h:Heap}:∀{vs:List Value} {ds:List WData},WellAll P h vs ds->vs.length=ds.length
 |_,_,.nil=>rfl
 |_,_,.cons _ b=>by
  show _+1=_+1
  rw[wellAll_len b]
theorem well_list {P:Params}{h:Heap}{v:Value}{ds:List WData}(x:Well P h v (.list ds)):∃(a:Addr) (vs:List Value),v=.ref a/\h.get? a=some {cls:=.type "list",data:=.seq vs.toArray}/\WellAll P h vs ds:=by
 cases x with
 |list ho hall=>exact⟨_,_,rfl,ho,hall⟩
theorem well_tuple {P:Params}{h:Heap}{v:Value}{ds:List WData}(x:Well P h v (.tuple ds)):∃(a:Addr) (vs:List Value),v=.ref a/\h.get? a=some {cls:=.type "tuple",data:=.seq vs.toArray}/\WellAll P h vs ds:=by
 cases x with
 |tuple ho hall=>exact⟨_,_,rfl,ho,hall⟩
theorem well_cons {P:Params}{h:Heap}{us:List Value}{d:WData}{ds:List WData}(x:WellAll P h us (d::ds)):∃(v:Value) (vs:List Value),us=v::vs/\Well P h v d/\WellAll P h vs ds:=by
 cases x with
 |cons a b=>exact⟨_,_,rfl,a,b⟩
theorem line_of {n:Nat}(h:n<=1048576):n<=sizeLine:=Nat.le_trans h (by decide)
section
variable {P:Params}{h:Heap}
mutual
theorem area_one:∀(d:WData) (v:Value),Well P h v d->plW d=true->d.weight<=1048576->∃A:List Addr,OkU A v/\∀a∈A,ArgOb h A a
 |.none,_,x,_,_=>by
  cases x
  exact⟨[],trivial,λa m=>absurd m (by simp)⟩
 |.bool b,_,x,_,_=>by
  cases x
  exact⟨[],trivial,λa m=>absurd m (by simp)⟩
 |.int i,_,x,_,_=>by
  cases x
  exact⟨[],trivial,λa m=>absurd m (by simp)⟩
 |.str s,_,x,_,_=>by
  cases x
  exact⟨[],trivial,λa m=>absurd m (by simp)⟩
 |.bytes b,_,x,_,_=>by
  cases x
  exact⟨[],trivial,λa m=>absurd m (by simp)⟩
 |.list ds,_,x,p,z=>by
  obtain⟨a,vs,rfl,ho,hall⟩:=well_list x
  have z2:WData.weightAll ds<=1048576:=z
  obtain⟨A,h1,h2⟩:=area_all ds _ hall p λd hd=>Nat.le_trans (weight_mem hd) z2
  have k:∀b∈A,b∈a::A:=λb hb=>List.mem_cons_of_mem _ hb
  refine⟨a::A,List.mem_cons_self ..,λb hb=>?_⟩
  rcases List.mem_cons.mp hb with e|m
  ·rw[e]
   exact⟨vs,line_of (by rw[wellAll_len hall];exact Nat.le_trans (PySem.W.length_le_weightAllW ds) z2),λu hu=>(h1 u hu).mono k,.inl ho⟩
  ·exact(h2 b m).mono k
 |.tuple ds,_,x,p,z=>by
  obtain⟨a,vs,rfl,ho,hall⟩:=well_tuple x
  have z2:WData.weightAll ds<=1048576:=z
  obtain⟨A,h1,h2⟩:=area_all ds _ hall p λd hd=>Nat.le_trans (weight_mem hd) z2
  have k:∀b∈A,b∈a::A:=λb hb=>List.mem_cons_of_mem _ hb
  refine⟨a::A,List.mem_cons_self ..,λb hb=>?_⟩
  rcases List.mem_cons.mp hb with e|m
  ·rw[e]
   exact⟨vs,line_of (by rw[wellAll_len hall];exact Nat.le_trans (PySem.W.length_le_weightAllW ds) z2),λu hu=>(h1 u hu).mono k,.inr ho⟩
  ·exact(h2 b m).mono k
 |.float _,_,_,p,_=>Bool.noConfusion (show false=true from p)
 |.dict _,_,_,p,_=>Bool.noConfusion (show false=true from p)
 |.bytearray _,_,_,p,_=>Bool.noConfusion (show false=true from p)
 |.set _,_,_,p,_=>Bool.noConfusion (show false=true from p)
 |.frozenset _,_,_,p,_=>Bool.noConfusion (show false=true from p)
 |.obj _ _,_,_,p,_=>Bool.noConfusion (show false=true from p)
theorem area_all:∀(ds:List WData) (vs:List Value),WellAll P h vs ds->plWs ds=true->(∀d∈ds,d.weight<=1048576)->∃A:List Addr,(∀u∈vs,OkU A u)/\∀a∈A,ArgOb h A a
 |[],_,x,_,_=>by
  cases x
  exact⟨[],λu m=>absurd m (by simp),λa m=>absurd m (by simp)⟩
 |d::ds,_,x,p,z=>by
  obtain⟨v,vs,rfl,x1,x2⟩:=well_cons x
  have q:plW d=true/\plWs ds=true:=Bool.and_eq_true_iff.mp p
  obtain⟨A,a1,a2⟩:=area_one d v x1 q.1 (z d (List.mem_cons_self ..))
  obtain⟨B,b1,b2⟩:=area_all ds vs x2 q.2 λe he=>z e (List.mem_cons_of_mem _ he)
  have kA:∀b∈A,b∈A++B:=λb hb=>List.mem_append.mpr (.inl hb)
  have kB:∀b∈B,b∈A++B:=λb hb=>List.mem_append.mpr (.inr hb)
  refine⟨A++B,λu hu=>?_,λb hb=>?_⟩
  ·rcases List.mem_cons.mp hu with e|m
   ·rw[e]
    exact a1.mono kA
   ·exact(b1 u m).mono kB
  ·rcases List.mem_append.mp hb with m|m
   ·exact(a2 b m).mono kA
   ·exact(b2 b m).mono kB
end
end
def hoOf (o:Obj):Option HO:=match o.data with
 |.seq vs _=>if(o.cls==Value.type "list")=true then some (.frz o (.lst (vs.toList.map toV)))else some (.frz o (.tup (vs.toList.map toV)))
 |_=>none
def argH (K:Fg)(h:Heap)(A:List Addr):Hp:=λb=>if b∈A then(if(K.lookup b).isNone=true then(h.get? b).bind hoOf else none)else none
def OnlyF (H:Hp):Prop:=∀b,H b=none\/∃o u,H b=some (.frz o u)
theorem hoOf_lst (vs:List Value):hoOf {cls:=.type "list",data:=.seq vs.toArray}=some (.frz {cls:=.type "list",data:=.seq vs.toArray} (.lst (vs.map toV))):=by
 show(if(Value.type "list"==Value.type "list")=true then some (HO.frz {cls:=.type "list",data:=.seq vs.toArray} (.lst (vs.toArray.toList.map toV)))else some (HO.frz {cls:=.type "list",data:=.seq vs.toArray} (.tup (vs.toArray.toList.map toV))))=_
 rw[if_pos (beq_self_eq_true _)]
theorem hoOf_tup (vs:List Value):hoOf {cls:=.type "tuple",data:=.seq vs.toArray}=some (.frz {cls:=.type "tuple",data:=.seq vs.toArray} (.tup (vs.map toV))):=by
 show(if(Value.type "tuple"==Value.type "list")=true then some (HO.frz {cls:=.type "tuple",data:=.seq vs.toArray} (.lst (vs.toArray.toList.map toV)))else some (HO.frz {cls:=.type "tuple",data:=.seq vs.toArray} (.tup (vs.toArray.toList.map toV))))=_
 rw[if_neg (by decide)]
section
variable {P:Program}{w:World}{K:Fg}{h:Heap}{A:List Addr}
theorem argH_at {b:Addr}{o:Obj}(hb:b∈A)(hk:K.lookup b=none)(e:h.get? b=some o):argH K h A b=hoOf o:=by
 unfold argH
 rw[if_pos hb,hk,if_pos (show(none:Option Obj).isNone=true from rfl),e]<;>rfl
theorem of_argH {b:Addr}{u:HO}(q:argH K h A b=some u):b∈A/\K.lookup b=none:=by
 unfold argH at q
 by_cases hb:b∈A
 ·rw[if_pos hb]at q
  cases hk:K.lookup b with
  |none=>exact⟨hb,rfl⟩
  |some o=>
   rw[hk,if_neg (by simp)]at q
   cases q
 ·rw[if_neg hb]at q
  cases q
theorem argH_is (ar:∀a∈A,ArgOb h A a){b:Addr}{u:HO}(q:argH K h A b=some u):K.lookup b=none/\∃vs:List Value,vs.length<=sizeLine/\(∀u∈vs,OkU A u)/\
  ((h.get? b=some {cls:=.type "list",data:=.seq vs.toArray}/\u=.frz {cls:=.type "list",data:=.seq vs.toArray} (.lst (vs.map toV)))\/
   (h.get? b=some {cls:=.type "tuple",data:=.seq vs.toArray}/\u=.frz {cls:=.type "tuple",data:=.seq vs.toArray} (.tup (vs.map toV)))):=by
 obtain⟨hb,hk⟩:=of_argH q
 obtain⟨vs,h1,h2,h3⟩:=ar b hb
 refine⟨hk,vs,h1,h2,?_⟩
 rcases h3 with e|e
 ·rw[argH_at hb hk e,hoOf_lst]at q
  exact .inl ⟨e,(Option.some.inj q).symm⟩
 ·rw[argH_at hb hk e,hoOf_tup]at q
  exact .inr ⟨e,(Option.some.inj q).symm⟩
theorem argH_only (ar:∀a∈A,ArgOb h A a):OnlyF (argH K h A):=λb=>by
 cases q:argH K h A b with
 |none=>exact .inl rfl
 |some u=>
  obtain⟨_,vs,_,_,⟨_,e⟩|⟨_,e⟩⟩:=argH_is ar q
  ·exact .inr ⟨_,_,by rw[e]⟩
  ·exact .inr ⟨_,_,by rw[e]⟩
theorem argH_ok (ar:∀a∈A,ArgOb h A a):HOk P w (argH K h A) h:=λb u q=>by
 obtain⟨_,vs,h1,h2,⟨e,rfl⟩|⟨e,rfl⟩⟩:=argH_is ar q
 ·exact⟨e,by rw[List.length_map];exact h1,vs,_,vals_toV h2,e⟩
 ·exact⟨e,by rw[List.length_map];exact h1,vs,vals_toV h2,_,e,rfl,_,rfl⟩
theorem seq_inj {c c':Value}{vs us:List Value}(e:(some {cls:=c,data:=.seq vs.toArray}:Option Obj)=some {cls:=c',data:=.seq us.toArray}):c=c'/\vs=us:=by
 have e1:=Option.some.inj e
 have e2:c=c':=congrArg Obj.cls e1
 have e3:Data.seq vs.toArray=Data.seq us.toArray:=congrArg Obj.data e1
 injection e3 with e4
 refine⟨e2,?_⟩
 have e5:=congrArg Array.toList e4
 simpa using e5
theorem argL (KX:K.In h)(ar:∀a∈A,ArgOb h A a){a:Addr}{vs:List Value}(ha:a∈A)(e:h.get? a=some {cls:=.type "list",data:=.seq vs.toArray}):(∀u∈vs,OkU A u)/\SqL K (argH K h A) a (vs.map toV):=by
 obtain⟨us,h1,h2,h3⟩:=ar a ha
 have hu:us=vs:=by
  rcases h3 with q|q
  ·rw[e]at q
   exact(seq_inj q).2.symm
  ·rw[e]at q
   exact absurd (Value.type.inj (seq_inj q).1) (by decide)
 subst hu
 refine⟨h2,?_⟩
 cases hk:K.lookup a with
 |none=>exact .inl (.inr ⟨_,by rw[argH_at ha hk e,hoOf_lst]⟩)
 |some o=>
  have e2:=KX a o hk
  rw[e]at e2
  obtain rfl:=Option.some.inj e2
  exact .inr ⟨_,us.toArray,_,hk,rfl,rfl,rfl,by rw[List.size_toArray];exact h1,by simpa using vals_toV h2⟩
theorem argT (KX:K.In h)(ar:∀a∈A,ArgOb h A a){a:Addr}{vs:List Value}(ha:a∈A)(e:h.get? a=some {cls:=.type "tuple",data:=.seq vs.toArray}):(∀u∈vs,OkU A u)/\SqT K (argH K h A) a (vs.map toV):=by
 obtain⟨us,h1,h2,h3⟩:=ar a ha
 have hu:us=vs:=by
  rcases h3 with q|q
  ·rw[e]at q
   exact absurd (Value.type.inj (seq_inj q).1) (by decide)
  ·rw[e]at q
   exact(seq_inj q).2.symm
 subst hu
 refine⟨h2,?_⟩
 cases hk:K.lookup a with
 |none=>exact .inl (.inr ⟨_,by rw[argH_at ha hk e,hoOf_tup]⟩)
 |some o=>
  have e2:=KX a o hk
  rw[e]at e2
  obtain rfl:=Option.some.inj e2
  exact .inr ⟨_,us.toArray,_,hk,rfl,rfl,by rw[List.size_toArray];exact h1,by simpa using vals_toV h2⟩
mutual
theorem dw_one {Pm:Params}(KX:K.In h)(ar:∀a∈A,ArgOb h A a):∀(d:WData) (v:Value),Well Pm h v d->plW d=true->OkU A v->Dw K (argH K h A) (toV v) d
 |.none,_,x,_,_=>by
  cases x
  exact .non
 |.bool b,_,x,_,_=>by
  cases x
  exact .bl b
 |.int i,_,x,_,_=>by
  cases x
  exact .int i
 |.str s,_,x,_,_=>by
  cases x
  exact .str s
 |.bytes b,_,x,_,_=>by
  cases x
  have z:=Dw.byt (K:=K) (H:=argH K h A) b.toArray
  exact z
 |.list ds,_,x,p,hu=>by
  obtain⟨a,vs,rfl,ho,hall⟩:=well_list x
  obtain⟨h2,hs⟩:=argL KX ar hu ho
  exact .lst hs (dw_all KX ar ds _ hall p h2)
 |.tuple ds,_,x,p,hu=>by
  obtain⟨a,vs,rfl,ho,hall⟩:=well_tuple x
  obtain⟨h2,hs⟩:=argT KX ar hu ho
  exact .tup hs (dw_all KX ar ds _ hall p h2)
 |.float _,_,_,p,_=>Bool.noConfusion (show false=true from p)
 |.dict _,_,_,p,_=>Bool.noConfusion (show false=true from p)
 |.bytearray _,_,_,p,_=>Bool.noConfusion (show false=true from p)
 |.set _,_,_,p,_=>Bool.noConfusion (show false=true from p)
 |.frozenset _,_,_,p,_=>Bool.noConfusion (show false=true from p)
 |.obj _ _,_,_,p,_=>Bool.noConfusion (show false=true from p)
theorem dw_all {Pm:Params}(KX:K.In h)(ar:∀a∈A,ArgOb h A a):∀(ds:List WData) (vs:List Value),WellAll Pm h vs ds->plWs ds=true->(∀u∈vs,OkU A u)->DwAll K (argH K h A) (vs.map toV) ds
 |[],_,x,_,_=>by
  cases x
  exact .nil
 |d::ds,_,x,p,hu=>by
  obtain⟨v,vs,rfl,x1,x2⟩:=well_cons x
  have q:plW d=true/\plWs ds=true:=Bool.and_eq_true_iff.mp p
  exact .cons (dw_one KX ar d v x1 q.1 (hu _ (List.mem_cons_self ..))) (dw_all KX ar ds vs x2 q.2 λu m=>hu u (List.mem_cons_of_mem _ m))
end
end
theorem spec_call {P:Program}{w:World}{K:Fg}{mg mb:Str->Option Value}{CX:CXT}{k:Nat}{fa:Addr}{fd:FuncData}{ps:List Str}{sp:Sp}{s₁:Shared}{vals:List Value}{ds:List WData}{R:PySem.W.WRecords}{cl:Str->Option Addr}{d0:WData}
  (KX:K.In s₁.heap) (hns:s₁.heap.Ns mainGlobals mg) (hb:s₁.heap.Ns builtinsNs mb) (hbb:∀x:Str,x≠"__name__"->mb x=bootBuiltins x) (hlim:s₁.heap.NoLimit) (hg:s₁.gens= #[])
  (hwl:WellAll w.params s₁.heap vals ds) (hpl:plWs ds=true) (hwt:∀d∈ds,d.weight<=1048576) (hr:Room k callerA)
  (F:∀base:Heap,K.In base->base.Ns mainGlobals mg->FnOk P w K mg base CX k fa fd ps sp) (hbind:∀(s:Shared) (us:List Value),us.length=ps.length->BindsTo s fd ⟨us,[]⟩ (ps.zip us)) (hlen:ds.length=ps.length)
  (hsp:∀(H:Hp) (xs:List V),OnlyF H->DwAll K H xs ds->sp xs H (λv H'=>Dw K H' v d0) λ_ _ _=>False)
  (hCX:∀H e s',CX [] H s₁ (λ_ _ _=>False) e s'->False):
  codeAny (model P w) callerA (.call (.ref fa) ⟨vals,[]⟩) (λr s'=>∃u as,r=.ok (.ret u)/\ReadsW R cl s'.heap u d0 as/\OldK s₁.heap s'.heap/\s'.os=s₁.os/\AllBare s'.gens) s₁:=by
 obtain⟨A,ho,ar⟩:=area_all ds vals hwl hpl hwt
 have hO:OnlyF (argH K s₁.heap A):=argH_only ar
 have hok:HOk P w (argH K s₁.heap A) s₁.heap:=argH_ok ar
 have hS:=dw_all KX ar ds vals hwl hpl ho
 have hV:=vals_toV ho
 have hK:∀b u,argH K s₁.heap A b=some u->K.lookup b=none:=λb u q=>(argH_is ar q).1
 have noA:∀{b:Addr} {o:Obj} {es:Array DictEntry} {ep:Nat},s₁.heap.get? b=some o->o.data=.dict es ep->argH K s₁.heap A b=none:=λ{b o es ep} e d=>by
  cases q:argH K s₁.heap A b with
  |none=>rfl
  |some u=>
   obtain⟨_,vs,_,_,⟨e2,_⟩|⟨e2,_⟩⟩:=argH_is ar q
   ·rw[e2]at e
    cases e
    have d':Data.seq vs.toArray _=Data.dict es ep:=d
    cases d'
   ·rw[e2]at e
    cases e
    have d':Data.seq vs.toArray _=Data.dict es ep:=d
    cases d'
 generalize argH K s₁.heap A=H at hO hok hS hK noA
 have base_of:∀{b:Addr} {o:Obj},s₁.heap.get? b=some o->H b=none->(hidT s₁.heap H).get? b=some o:=λe n=>hidT_get e n
 have nsK:∀{b:Addr} {m:Str->Option Value},s₁.heap.Ns b m->(hidT s₁.heap H).Ns b m:=λ{b m} ⟨o,es,ep,e,d,r⟩=>⟨o,es,ep,base_of e (noA e d),d,r⟩
 have nK:∀b o,K.lookup b=some o->H b=none:=λb o e=>by
  cases q:H b with
  |none=>rfl
  |some u=>
   rw[hK b u q]at e
   cases e
 have hKb:K.In (hidT s₁.heap H):=λb o e=>base_of (KX b o e) (nK b o e)
 have hM:Mod K mg (hidT s₁.heap H):=⟨hKb,nsK hns,⟨mb,nsK hb,hbb⟩,let⟨mc,h1,h2⟩:=hlim;⟨mc,nsK h1,h2⟩⟩
 have e0:Env0 P w K mg (hidT s₁.heap H) callerA [] s₁ H:=⟨rfl,hM,λb o e=>of_hidT e,Nat.le_of_eq (hidT_size _ _),trivial,λb hb=>absurd (show b∈([]:List Addr)from hb) (by simp),hok,.of_eq hg⟩
 have hl:vals.length=ps.length:=by rw[wellAll_len hwl];exact hlen
 refine codeAny_mono ((F _ hKb (nsK hns)).run callerA [] s₁ H ⟨vals,[]⟩ vals (vals.map toV) _ _ hr e0 (hbind s₁ vals hl) hV (hsp H _ hO hS)) λr s' x=>?_
 cases r with
 |error e=>exact(hCX H e s' x).elim
 |ok fl=>
  cases fl with
  |next=>exact False.elim x
  |brk=>exact False.elim x
  |cont=>exact False.elim x
  |ret u=>
   obtain⟨v,H',os,bare,un,hok',r',q⟩:=x
   have kept:∀b o,s₁.heap.get? b=some o->s'.heap.get? b=some o:=λb o e=>by
    cases q2:H b with
    |none=>exact un.keep b o e q2 (by intro z;exact absurd (show b∈([]:List Addr)from z) (by simp)) (by simp)
    |some u2=>
     rcases hO b with z|⟨ob,u3,z⟩
     ·rw[q2]at z
      cases z
     ·have z2:=un.frzs b ob _ z
      obtain⟨e1,_⟩:=hok b _ z
      obtain⟨e2,_⟩:=hok' b _ z2
      rw[e]at e1
      cases e1
      exact e2
   have KX':K.In s'.heap:=λb o e=>kept b o (KX b o e)
   obtain⟨as,hrd⟩:=Dw.reads (R:=R) (cl:=cl) hok' KX' d0 v u q r'
   exact⟨u,as,rfl,hrd,OldK.of_keep kept,os,bare⟩
theorem layable_weight {ds:List WData}(h:WData.layableAll ds=true):∀d∈ds,d.weight<=1048576:=λd hd=>
 (PySem.W.layableW_iff.mp (List.all_eq_true.mp h d hd)).2.2
theorem encAll_len:∀(cs:List Codec) (a:Codec.denoteAll cs),(Codec.encAll cs a).length=cs.length
 |[],_=>rfl
 |c::cs,a=>by
  show(Codec.encAll cs a.2).length+1=cs.length+1
  rw[encAll_len cs a.2]
theorem walk_spec {r:OpenSpec}{k:Nat}{q:Program}{loose:List Str}{XP:(Str->Option Value)->Heap->Prop}{YP:World->Heap->Prop}{d:DefRec}{K:Params->Fg}{CX:World->CXT}{ps:List Str}{sp:World->Sp}
  (hwell:r.wellSaid=true) (hdf:d.params.defaults=[]) (hlen:r.args.length=ps.length) (hr:Room k callerA)
  (hY:∀(w:World) (h:Heap),YP w h->(K w.params).In h)
  (F:∀(w:World) (mg:Str->Option Value) (fa:Addr) (h:Heap),YP w h->(K w.params).In h->h.Ns mainGlobals mg->mg d.name=some (.ref fa)->
   ∃fd:FuncData,(∀(s:Shared) (us:List Value),us.length=ps.length->BindsTo s fd ⟨us,[]⟩ (ps.zip us))/\
    ∀base:Heap,(K w.params).In base->base.Ns mainGlobals mg->FnOk r.prog w (K w.params) mg base (CX w) k fa fd ps (sp w))
  (hsp:∀(w:World) (H:Hp) (xs:List V) (a:Codec.denoteAll r.args),OnlyF H->Codec.withinAll r.args a=true->Codec.app r.args r.asked a=true->DwAll (K w.params) H xs (Codec.encAll r.args a)->
   sp w xs H (λv H'=>Dw (K w.params) H' v (r.ret.enc (Codec.app r.args r.f a))) λ_ _ _=>False)
  (hCX:∀(w:World) (H:Hp) (s:Shared) (e:Value) (s':Shared),CX w [] H s (λ_ _ _=>False) e s'->False):
  PySem.W.WalkOS q loose XP YP r d [] (λf vs=>PySem.call f vs):=by
 intro w s_0 s₁ mg mb G Y fa o pm cd doc dV kV ho hd hcd hD hmg hg args vals as hpre hlay hrd hwl hlo
 obtain⟨a,e1,e2⟩:=PySem.W.os_pre_some hpre
 obtain⟨e3,hwi⟩:=Codec.encAll_of_decAll r.args args a e1
 subst e3
 have KX:=hY w _ Y
 obtain⟨fd,hb,hF⟩:=F w mg fa _ Y KX G.T.g hmg
 refine PySem.W.enter_call (codeAny_mono (spec_call (R:=[]) (cl:=classAt s_0.heap) (d0:=r.ret.enc (Codec.app r.args r.f a)) KX G.T.g G.T.b G.T.builtins G.T.nolimit hg hwl (pl_encAll _ _) (layable_weight hlay) hr hF hb (by rw[encAll_len];exact hlen)
  (λH xs hO hS=>hsp w H xs a hO hwi e2 hS) λH e s'=>hCX w H s₁ e s') λr' s' hq=>?_)
 obtain⟨u,as',rfl,h1,h2,h3,h4⟩:=hq
 exact⟨.inl ⟨u,_,as',rfl,λ_=>rfl,h1,(OpenSpec.post_iff hwell hwi _ _).mpr rfl,λz=>Bool.noConfusion (show false=true from z)⟩,h2,h3,h4⟩
theorem walk_specK {r:OpenSpec}{k:Nat}{q:Program}{loose:List Str}{XP:(Str->Option Value)->Heap->Prop}{YP:World->Heap->Prop}{d:DefRec}{K:Params->Fg}{CX:CXT}{ps:List Str}{sp:Fg->Sp}
  (hwell:r.wellSaid=true) (hdf:d.params.defaults=[]) (hlen:r.args.length=ps.length) (hr:Room k callerA)
  (hY:∀(w:World) (h:Heap),YP w h->(K w.params).In h)
  (F:∀(w:World) (mg:Str->Option Value) (fa:Addr) (h:Heap),YP w h->(K w.params).In h->h.Ns mainGlobals mg->mg d.name=some (.ref fa)->
   ∃fd:FuncData,(∀(s:Shared) (us:List Value),us.length=ps.length->BindsTo s fd ⟨us,[]⟩ (ps.zip us))/\
    ∀base:Heap,(K w.params).In base->base.Ns mainGlobals mg->FnOk r.prog w (K w.params) mg base CX k fa fd ps (sp (K w.params)))
  (hsp:∀(K:Fg) (H:Hp) (xs:List V) (a:Codec.denoteAll r.args),OnlyF H->Codec.withinAll r.args a=true->Codec.app r.args r.asked a=true->DwAll K H xs (Codec.encAll r.args a)->
   sp K xs H (λv H'=>Dw K H' v (r.ret.enc (Codec.app r.args r.f a))) λ_ _ _=>False)
  (hCX:∀(H:Hp) (s:Shared) (e:Value) (s':Shared),CX [] H s (λ_ _ _=>False) e s'->False):
  PySem.W.WalkOS q loose XP YP r d [] (λf vs=>PySem.call f vs):=
 walk_spec (K:=K) (CX:=λ_=>CX) (sp:=λw=>sp (K w.params)) hwell hdf hlen hr hY F (λw H xs a h1 h2 h3 h4=>hsp (K w.params) H xs a h1 h2 h3 h4) λ_ H s e s'=>hCX H s e s'
end L2
end
open PySem PySem.W PyProof.Rows
set_option maxHeartbeats 0 in
theorem PySem.Challenge.cw_ordersknown_s01_answers_holds : PySem.Challenge.rw_ordersknown_s01_answers.Holds := by
  w_on; k_headS; (case hw => exact ⟨[.list [.int 0]], by decide +kernel, by decide +kernel⟩)
  k_fillS
  refine L2.walk_specK (r := PySem.Challenge.rw_ordersknown_s01_answers) (k := 16) (CX := L2.CX0) (ps := ["calls"]) (sp := OK.spAns) (by decide +kernel) rfl rfl ⟨rfl, by decide, by decide⟩ (fun w h Y => PySem.W.kIn_of Y) ?F ?S (fun _ _ _ _ z => z)
  case F =>
    intro w mg fa h Y KX G hmg
    refine OK.fin KX G hmg ?_ ?_ ?_ ?_ ?_ ?_ ?_ ?_ ?_ ?_ OK.ADef.mk'
    ·constructor<;>first|exact OK.GI.mk|exact OK.GS.mk|(show PySem.W.nsIn _ _ _=_;k_is)
    ·refine OK.CDef.mk' (R:=OK.CB _) (r:=?_)
     constructor<;>first|(show PySem.W.findIn _ _ _=_;k_is)|exact OK.MDef.mk'
    ·refine OK.CDef.mk' (R:=OK.CU _) (r:=?_)
     constructor<;>first|(show PySem.W.findIn _ _ _=_;k_is)|exact OK.MDef.mk'
    ·refine OK.CDef.mk' (R:=OK.CP _) (r:=?_)
     constructor<;>first|(show PySem.W.findIn _ _ _=_;k_is)|exact OK.MDef.mk'
    ·refine OK.CDef.mk' (R:=OK.CK _) (r:=?_)
     constructor<;>first|(show PySem.W.findIn _ _ _=_;k_is)|exact OK.MDef.mk'
    ·refine OK.CDef.mk' (R:=OK.CT _) (r:=?_)
     constructor<;>first|(show PySem.W.findIn _ _ _=_;k_is)|exact OK.MDef.mk'
    ·constructor<;>exact OK.FDef.mk'
    ·refine OK.NDef.mk' (by k_is) (by k_is) rfl (by exact⟨OK.ei rfl,OK.ei rfl,OK.ei rfl,OK.ei rfl,OK.ei rfl,OK.ei rfl,OK.ei rfl,OK.ei rfl,OK.ei rfl,OK.ei rfl,OK.ei rfl,OK.ei rfl,OK.ei rfl,OK.ei rfl,OK.ei rfl,OK.ei rfl,OK.ei rfl,OK.ei rfl,OK.ei rfl,OK.ei rfl,trivial⟩) fun p hp=>?_
     rcases OK.p19 hp with rfl|rfl|rfl|rfl|rfl|rfl|rfl|rfl|rfl|rfl|rfl|rfl|rfl|rfl|rfl|rfl|rfl|rfl|rfl|rfl<;>exact⟨_,rfl,OK.sqT_mk (by k_is) (by decide) (by first|exact .nil|exact .cons ⟨_,rfl⟩ (.nil)|exact .cons ⟨_,rfl⟩ (.cons ⟨_,rfl⟩ (.nil))|exact .cons ⟨_,rfl⟩ (.cons ⟨_,rfl⟩ (.cons ⟨_,rfl⟩ (.nil)))|exact .cons ⟨_,rfl⟩ (.cons ⟨_,rfl⟩ (.cons ⟨_,rfl⟩ (.cons ⟨_,rfl⟩ (.nil)))))⟩
    ·refine OK.SDef.mk' (by k_is) (by k_is) rfl (by exact⟨OK.es_ rfl,OK.es_ rfl,OK.es_ rfl,OK.es_ rfl,OK.es_ rfl,OK.es_ rfl,OK.es_ rfl,trivial⟩) fun p hp x hx=>?_
     rcases OK.names_in hx with rfl|rfl|rfl|rfl|rfl|rfl|rfl|rfl|rfl|rfl<;>rfl
    ·refine OK.DDef.mk' (by k_is) (by k_is) rfl (by exact⟨OK.ei rfl,OK.ei rfl,OK.ei rfl,OK.ei rfl,OK.ei rfl,OK.ei rfl,OK.ei rfl,OK.ei rfl,OK.ei rfl,OK.ei rfl,OK.ei rfl,OK.ei rfl,OK.ei rfl,OK.ei rfl,OK.ei rfl,OK.ei rfl,OK.ei rfl,OK.ei rfl,OK.ei rfl,OK.ei rfl,trivial⟩) fun p hp=>?_
     rcases OK.p19 hp with rfl|rfl|rfl|rfl|rfl|rfl|rfl|rfl|rfl|rfl|rfl|rfl|rfl|rfl|rfl|rfl|rfl|rfl|rfl|rfl<;>exact⟨_,rfl,(by k_is)⟩
  case S =>
    intro K H xs a hO hwi hask hx
    cases hx with
    | cons h1 h2 =>
      cases h2
      cases h1 with
      | lst hs ha =>
        have e := L2.ints_dw a.1 _ ha
        subst e
        have q : ((Codec.inLen 0 16500 a.1 && a.1.all (Codec.inInt (-1000000000000000000) 1000000000000000000)) && true) = true := hwi
        rw [Bool.and_eq_true, Bool.and_eq_true] at q
        exact ⟨_, a.1, rfl, hs, (Codec.inNat_iff.mp q.1.1).2, hask, fun H' p hp => .lst (L2.SqL.of hp) (L2.dw_ints _)⟩
