import PyProof.Rows.All
import Wide.All
import OpenK.AllK
import Wide.FinOn
import PyProof.EqAt
import PyProof.EqKinds
import PyProof.TupleCall
import KE.BitLaws
import Open.SpecLaws
import KE.OsHead
import KE.OsGo
import PyProof.ExcClass3
import PyProof.StationsW
import PyProof.PassesOwn
import OpenK.KGet
import PyProof.ExcBaseAll.Exception
import PyProof.InstStoreFacts
import PyProof.InstLoad
import PyProof.ExcAttrAll.Exception
import OpenK.KOwn
import PyProof.RulesAs
import PyProof.NsDelKeeps
import KE.KEqDict
import PyProof.MinMaxWalk
import PyProof.WalkInts
import PyProof.Rows.SortShellAny
import PyProof.ListRange
import KE.KEqDeep
import KE.KEqSeq
import PySem.Challenge.RW_tafllines_s01_answers
set_option Elab.async false
set_option linter.all false
set_option maxRecDepth 100000
set_option maxHeartbeats 4000000
noncomputable section
section
namespace L2
open PySem PySem.Spec PyProof.Rows
abbrev Key:=Sum Int Str
def keyIs:Key->Value->Bool
 | .inl k,v=>Value.isInt k v
 | .inr x,v=>Value.isStrOf x v
def keyH (w:World):Key->Int
 | .inl k=>hashInt k
 | .inr x=>hashStr w x
theorem keyIs_shape:∀ {k:Key}{v:Value},keyIs k v=true->(∃i t,k=Sum.inl i/\v=Value.int i t)\/(∃x t,k=Sum.inr x/\v=Value.str x t)
 | .inl i,v,h=>by
  obtain⟨t,e⟩:=Value.isInt_shape (k:=i) (v:=v) h
  exact .inl ⟨i,t,rfl,e⟩
 | .inr x,v,h=>by
  obtain⟨t,e⟩:=Value.isStrOf_shape (x:=x) (v:=v) h
  exact .inr ⟨x,t,rfl,e⟩
theorem keyIs_int (i:Int) (t:Tok):keyIs (.inl i) (.int i t)=true:=by simp[keyIs,Value.isInt]
theorem keyIs_str (x:Str) (t:Tok):keyIs (.inr x) (.str x t)=true:=by simp[keyIs,Value.isStrOf]
theorem key_ll (a b:Int):decide ((Sum.inl a:Key)=Sum.inl b)=(a == b):=by
 by_cases e:a=b
 ·subst e;simp
 ·have h:¬(Sum.inl a:Key)=Sum.inl b:=λq=>e (Sum.inl.inj q)
  rw[decide_eq_false h]
  exact (beq_eq_false_iff_ne.mpr e).symm
theorem key_rr (a b:Str):decide ((Sum.inr a:Key)=Sum.inr b)=decide (a=b):=by
 by_cases e:a=b
 ·subst e;simp
 ·have h:¬(Sum.inr a:Key)=Sum.inr b:=λq=>e (Sum.inr.inj q)
  rw[decide_eq_false h,decide_eq_false e]
theorem key_lr (a:Int) (b:Str):decide ((Sum.inl a:Key)=Sum.inr b)=false:=decide_eq_false (λq=>nomatch q)
theorem key_rl (a:Str) (b:Int):decide ((Sum.inr a:Key)=Sum.inl b)=false:=decide_eq_false (λq=>nomatch q)
def mixKind (prog:Program) (w:World):PySem.KeyKind prog w Key where
 is:=keyIs
 hash:=keyH w
 inj:=λv a b ha hb=>by
  rcases keyIs_shape ha with⟨i,t,rfl,rfl⟩|⟨x,t,rfl,rfl⟩
  ·rcases keyIs_shape hb with⟨j,u,rfl,e⟩|⟨y,u,rfl,e⟩
   ·injection e with e1 _;rw[e1]
   ·exact nomatch e
  ·rcases keyIs_shape hb with⟨j,u,rfl,e⟩|⟨y,u,rfl,e⟩
   ·exact nomatch e
   ·injection e with e1 _;rw[e1]
 byValue:=λk v h=>by
  rcases keyIs_shape h with⟨i,t,rfl,rfl⟩|⟨x,t,rfl,rfl⟩ <;> rfl
 pyHash:=λhv h=>by
  rcases keyIs_shape hv with⟨i,t,rfl,rfl⟩|⟨x,t,rfl,rfl⟩
  ·exact wpAny_pyHash_int h
  ·exact wpAny_pyHash_str h
 eqBool:=λhu hv h=>by
  rcases keyIs_shape hu with⟨i,t,rfl,rfl⟩|⟨x,t,rfl,rfl⟩
  ·rcases keyIs_shape hv with⟨j,u,rfl,rfl⟩|⟨y,u,rfl,rfl⟩
   ·rw[key_ll]at h;exact wpAny_eqBool_int h
   ·rw[key_lr]at h;exact SeqAt.EqAt.int_str i t y u _ _ _ _ h
  ·rcases keyIs_shape hv with⟨j,u,rfl,rfl⟩|⟨y,u,rfl,rfl⟩
   ·rw[key_rl]at h;exact SeqAt.EqAt.str_int x t j u _ _ _ _ h
   ·rw[key_rr]at h;exact wpAny_eqBool_str h
 «strs»:=λk x t v h=>by
  rcases keyIs_shape h with⟨i,u,rfl,e⟩|⟨y,u,rfl,e⟩
  ·exact nomatch e
  ·injection e with e1 _
   subst e1
   cases v <;> rfl
theorem mixKind_int (prog:Program) (w:World) (i:Int) (t:Tok):(mixKind prog w).is (.inl i) (.int i t)=true:=keyIs_int i t
theorem mixKind_str (prog:Program) (w:World) (x:Str) (t:Tok):(mixKind prog w).is (.inr x) (.str x t)=true:=keyIs_str x t
end L2
namespace L2
open PySem PySem.Spec PyProof.Rows
inductive V where
 | non | bl (b:Bool) | int (i:Int) | str (x:Str) | byt (b:Array UInt8) | flt (b:UInt64) | ref (a:Addr) | ty (n:String)
 deriving DecidableEq
def RelV:V->Value->Prop
 | .non,u=>u=Value.none
 | .bl b,u=>u=Value.bool b
 | .int i,u=>∃t,u=Value.int i t
 | .str x,u=>∃t,u=Value.str x t
 | .byt b,u=>∃t,u=Value.bytes b t
 | .flt b,u=>∃t,u=Value.float b t
 | .ref a,u=>u=Value.ref a
 | .ty n,u=>u=Value.type n
abbrev Vals:List V->List Value->Prop:=Paired RelV
theorem Vals.length {xs:List V}{us:List Value}(r:Vals xs us):xs.length=us.length:=Paired.length r
theorem Vals.get:∀ {xs:List V}{us:List Value}{i:Nat}{x:V},Vals xs us->xs[i]?=some x->∃u,us[i]?=some u/\RelV x u
 | _,_,_,_,.nil,e=>by simp at e
 | _,_,0,_,.cons r _,e=>by simp at e;subst e;exact⟨_,rfl,r⟩
 | _,_,i+1,x,.cons _ t,e=>by
  obtain⟨u,h1,h2⟩:=Vals.get (i:=i) (x:=x) t (by simpa using e)
  exact⟨u,by simpa using h1,h2⟩
theorem Vals.append:∀ {xs ys:List V}{us ws:List Value},Vals xs us->Vals ys ws->Vals (xs++ys) (us++ws)
 | _,_,_,_,.nil,s=>s
 | _,_,_,_,.cons r t,s=>.cons r (Vals.append t s)
theorem Vals.take:∀ {xs:List V}{us:List Value}(n:Nat),Vals xs us->Vals (xs.take n) (us.take n)
 | _,_,0,_=>.nil
 | _,_,_+1,.nil=>.nil
 | _,_,n+1,.cons r t=>.cons r (Vals.take n t)
theorem Vals.drop:∀ {xs:List V}{us:List Value}(n:Nat),Vals xs us->Vals (xs.drop n) (us.drop n)
 | _,_,0,r=>r
 | _,_,_+1,.nil=>.nil
 | _,_,n+1,.cons _ t=>Vals.drop n t
def RelO:Option V->Option Value->Prop
 | some v,some u=>RelV v u
 | none,none=>True
 | _,_=>False
def KV {κ:Type}:List (κ×V)->List (κ×Value)->Prop:=Paired λ(p:κ×V) (q:κ×Value)=>p.1=q.1/\RelV p.2 q.2
def kV:Key->V
 | .inl i=>.int i
 | .inr x=>.str x
inductive HO where
 | lst (xs:List V)
 | tup (xs:List V)
 | dK (kvs:List (Key×V)) | dT (kvs:List (List Key×V))
 | set (S:Int->Bool) (n:Nat)
 | ins (C dx:Addr) (fs:List (Str×V))
 | own (x:Addr)
 | xd (fs:List (Str×V))
 | met (f x:Addr)
 | rng (lo hi:Int)
 | frz (o:Obj) (u:HO)
 | tbl (ps:Array Value)
 | ext (φ:Heap->Prop)
abbrev Hp:=Addr->Option HO
def upd (H:Hp) (a:Addr) (o:HO):Hp:=λb=>if b=a then some o else H b
theorem ups {H:Hp}{a:Addr}{o:HO}:upd H a o a=some o:=by unfold upd;rw[if_pos rfl]
theorem qqa {H:Hp}{a b:Addr}{o:HO}(h:b≠a):upd H a o b=H b:=by unfold upd;rw[if_neg h]
theorem upd_upd {H:Hp}{a:Addr}{o u:HO}:upd (upd H a o) a u=upd H a u:=by
 funext b;unfold upd;split <;> rfl
theorem ne_of {H:Hp}{a b:Addr}{o u:HO}(h:H a=some o) (h':H b=some u) (d:o≠u):a≠b:=by
 intro e;subst e;rw[h]at h';exact d (Option.some.inj h')
theorem nen {H:Hp}{a b:Addr}{o:HO}(h:H a=some o) (h':H b=none):a≠b:=by
 intro e;subst e;rw[h]at h';cases h'
section
variable (P:Program) (w:World)
def ObjOk (H:Hp) (h:Heap) (a:Addr):HO->Prop
 | .lst xs=>xs.length<=sizeLine/\∃(its:List Value) (n:Nat),Vals xs its/\h.get? a=some { cls:=.type "list",data:=.seq its.toArray n }
 | .tup xs=>xs.length<=sizeLine/\∃its:List Value,Vals xs its/\IsTup h a its.toArray
 | .dK kvs=>kvs.length<=sizeLine/\(a == sysModules)=false/\∃vs,KV kvs vs/\h.DictOf (mixKind P w) a vs
 | .dT kvs=>kvs.length<=sizeLine/\(a == sysModules)=false/\∃xs:List (List Key×Addr×Value),
   Paired (λ(p:List Key×V) (q:List Key×Addr×Value)=>p.1=q.1/\H q.2.1=some (.tup (p.1.map kV))/\RelV p.2 q.2.2) kvs xs /\
   ∃o es ep,h.get? a=some o/\o.ExactDict/\o.data=.dict es ep/\es.toList=xs.map (entryOfKey (tupleKind (mixKind P w)))/\(xs.map (·.1)).Nodup
 | .set S n=>h.SetOf (intKind P w) a S n
 | .ins C dx fs=>H dx=some (.own a)/\fs.length<=1000/\dx≠a/\h.get? a=some (PySem.W.instObj C dx) /\
   ∃mA,h.Ns1 dx mA/\(∀f,RelO (fs.lookup f) (mA f))/\PySem.Within mA (fs.map (·.1))
 | .own _=>∃o,h.get? a=some o
 | .xd fs=>∃mA,h.Ns1 a mA/\∀f,RelO (fs.lookup f) (mA f)
 | .rng lo hi=>∃t u v,h.get? a=some { cls:=.type "range",data:=.fields #[.int lo t,.int hi u,.int 1 v] }
 | .frz o u=>h.get? a=some o/\ObjOk H h a u
 | .tbl ps=>h.get? a=some { cls:=.none,data:=.fields ps }
 | .met f x=>h.get? a=some (PySem.W.methodObj (.ref f) (.ref x))
 | .ext φ=>φ h/\(∃o,h.get? a=some o)/\∀h1 h2:Heap,φ h1->(∀o,h1.get? a=some o->h2.get? a=some o)->φ h2
def HOk (H:Hp) (h:Heap):Prop:=∀a o,H a=some o->ObjOk P w H h a o
end
section
variable {P:Program}{w:World}{H H':Hp}{h h':Heap}{a:Addr}{o:HO}
theorem ObjOk.lt (x:ObjOk P w H h a o):a<h.objs.size:=by
 cases o with
 | lst xs=>obtain⟨_,_,_,_,e⟩:=x;exact Heap.lt_size e
 | tup xs=>obtain⟨_,_,_,p⟩:=x;exact p.lt
 | dK kvs=>obtain⟨_,_,_,_,o,_,_,e,_⟩:=x;exact Heap.lt_size e
 | dT kvs=>obtain⟨_,_,_,_,o,_,_,e,_⟩:=x;exact Heap.lt_size e
 | set S n=>obtain⟨o,_,_,_,e,_⟩:=x;exact Heap.lt_size e
 | ins C dx fs=>obtain⟨_,_,_,e,_⟩:=x;exact Heap.lt_size e
 | own y=>obtain⟨_,e⟩:=x;exact Heap.lt_size e
 | xd fs=>obtain⟨_,⟨_,_,_,e,_⟩,_⟩:=x;exact Heap.lt_size e
 | rng lo hi=>obtain⟨_,_,_,e⟩:=x;exact Heap.lt_size e
 | frz ob u=>obtain⟨e,_⟩:=x;exact Heap.lt_size e
 | tbl ps=>exact Heap.lt_size (show h.get? a=some _ from x)
 | met f y=>exact Heap.lt_size (show h.get? a=some _ from x)
 | ext φ=>obtain⟨_,⟨_,e⟩,_⟩:=x;exact Heap.lt_size e
theorem Paired.mapP {α β:Type}{F G:α->β->Prop}:∀ {l₁:List α}{l₂:List β},Paired F l₁ l₂->(∀a b,F a b->G a b)->Paired G l₁ l₂
 | _,_,.nil,_=>.nil
 | _,_,.cons r t,f=>.cons (f _ _ r) (Paired.mapP t f)
theorem ObjOk.stay (x:ObjOk P w H h a o) (k:∀b u,(b=a\/H b=some (.own a))->h.get? b=some u->h'.get? b=some u)
  (ho:∀b,H b=some (.own a)->H' b=some (.own a)) (ht:∀b xs,H b=some (.tup xs)->H' b=some (.tup xs)):ObjOk P w H' h' a o:=by
 induction o with
 | lst xs=>obtain⟨z,its,n,r,e⟩:=x;exact⟨z,its,n,r,k _ _ (.inl rfl) e⟩
 | tup xs=>obtain⟨z,its,r,ob,e,c⟩:=x;exact⟨z,its,r,ob,k _ _ (.inl rfl) e,c⟩
 | dK kvs=>obtain⟨z,y,vs,r,ob,es,ep,e,c⟩:=x;exact⟨z,y,vs,r,ob,es,ep,k _ _ (.inl rfl) e,c⟩
 | dT kvs =>
  obtain⟨z,y,xs,r,ob,es,ep,e,c⟩:=x
  exact⟨z,y,xs,Paired.mapP r λp q z=>⟨z.1,ht _ _ z.2.1,z.2.2⟩,ob,es,ep,k _ _ (.inl rfl) e,c⟩
 | set S n=>obtain⟨ob,es,ep,t,e,c⟩:=x;exact⟨ob,es,ep,t,k _ _ (.inl rfl) e,c⟩
 | ins C dx fs =>
  obtain⟨d,z,ne,e,mA,⟨od,es,ep,e2,c⟩,r⟩:=x
  exact⟨ho _ d,z,ne,k _ _ (.inl rfl) e,mA,⟨od,es,ep,k _ _ (.inr d) e2,c⟩,r⟩
 | own y=>obtain⟨ob,e⟩:=x;exact⟨ob,k _ _ (.inl rfl) e⟩
 | xd fs=>obtain⟨mA,⟨od,es,ep,e,c⟩,r⟩:=x;exact⟨mA,⟨od,es,ep,k _ _ (.inl rfl) e,c⟩,r⟩
 | rng lo hi=>obtain⟨t,u,v,e⟩:=x;exact⟨t,u,v,k _ _ (.inl rfl) e⟩
 | frz ob u ih=>obtain⟨e,q⟩:=x;exact⟨k _ _ (.inl rfl) e,ih q⟩
 | tbl ps =>
  have e:h.get? a=some { cls:=.none,data:=.fields ps }:=x
  show h'.get? a=some { cls:=.none,data:=.fields ps }
  exact k a _ (.inl rfl) e
 | met f y =>
  have e:h.get? a=some (PySem.W.methodObj (.ref f) (.ref y)):=x
  show h'.get? a=some (PySem.W.methodObj (.ref f) (.ref y))
  exact k a _ (.inl rfl) e
 | ext φ=>obtain⟨p,⟨o,e⟩,st⟩:=x;exact⟨st _ _ p λo q=>k _ _ (.inl rfl) q,⟨o,k _ _ (.inl rfl) e⟩,st⟩
theorem HOk.lt (x:HOk P w H h) (e:H a=some o):a<h.objs.size:=(x a o e).lt
theorem HOk.fresh (x:HOk P w H h) (e:h.objs.size<=a):H a=none:=by
 cases q:H a with
 | none=>rfl
 | some u=>exact absurd (Nat.lt_of_lt_of_le (x.lt q) e) (Nat.lt_irrefl _)
theorem HOk.kept (x:HOk P w H h) (k:∀b u,h.get? b=some u->h'.get? b=some u):HOk P w H h':=λa o e =>
 (x a o e).stay (λb u _ q=>k b u q) (λ_ q=>q) λ_ _ q=>q
theorem HOk.laid (x:HOk P w H h) (k:∀b u,h.get? b=some u->h'.get? b=some u) (hp:h.objs.size<=a) (new:ObjOk P w (upd H a o) h' a o):HOk P w (upd H a o) h':=λb u e=>by
 have hn:=x.fresh hp
 by_cases hb:b=a
 ·subst hb;rw[ups]at e;cases e;exact new
 ·rw[qqa hb]at e
  exact (x b u e).stay (λc v _ q=>k c v q) (λc q=>by rw[qqa (nen q hn)];exact q) λc xs q=>by rw[qqa (nen q hn)];exact q
end
def Rd (H:Hp) (a:Addr) (u:HO):Prop:=H a=some u\/∃o,H a=some (.frz o u)
theorem Rd.ok {P:Program}{w:World}{H:Hp}{h:Heap}{a:Addr}{u:HO}(r:Rd H a u) (x:HOk P w H h):ObjOk P w H h a u:=by
 rcases r with r | ⟨o,r⟩
 ·exact x a u r
 ·obtain⟨_,q⟩:=x a _ r
  exact q
def Mut:Option HO->Prop
 | some (.lst _)=>True
 | some (.dK _)=>True
 | some (.dT _)=>True
 | some (.set _ _)=>True
 | some (.ins _ _ _)=>True
 | some (.ext _)=>True
 | _=>False
section
variable {P:Program}{w:World}{H:Hp}{h h':Heap}{x e:Addr}{o':HO}
theorem HOk.write (ok:HOk P w H h) (mu:Mut (H x)) (he:e=x\/H e=some (.own x)) (k:∀b u,b≠e->h.get? b=some u->h'.get? b=some u) (heo:∃u,h'.get? e=some u)
  (new:ObjOk P w (upd H x o') h' x o'):HOk P w (upd H x o') h':=λb u q=>by
 have nown:∀c y,H c=some (.own y)->c≠x:=λc y r z=>by subst z;rw[r]at mu;exact mu
 have ntup:∀c xs,H c=some (.tup xs)->c≠x:=λc xs r z=>by subst z;rw[r]at mu;exact mu
 by_cases hb:b=x
 ·subst hb;rw[ups]at q;cases q;exact new
 ·rw[qqa hb]at q
  by_cases hbe:b=e
  ·have q':H b=some (.own x):=by
    rcases he with z | z
    ·exact absurd (hbe.trans z) hb
    ·rw[hbe];exact z
   rw[q]at q';cases q'
   obtain⟨v,hv⟩:=heo
   exact⟨v,by rw[hbe];exact hv⟩
  ·refine (ok b u q).stay (λc v hc r=>k c v ?_ r) (λc r=>by rw[qqa (nown c b r)];exact r) λc xs r=>by rw[qqa (ntup c xs r)];exact r
   rcases hc with rfl | hc
   ·exact hbe
   ·rintro rfl
    rcases he with z | z
    ·exact nown c b hc z
    ·rw[hc]at z;cases z;exact hb rfl
end
structure Un (fs ex:List Addr) (H H':Hp) (h h':Heap):Prop where
 keep:∀b o,h.get? b=some o->H b=none->b∉fs->b∉ex->h'.get? b=some o
 slot:∀b o,h.get? b=some o->H b=none->b∈fs->b∉ex->∃sl,h'.get? b=some { o with slots:=sl }
 free:∀b o,h.get? b=some o->H b=none->b∉ex->H' b=none
 there:∀b o,h.get? b=some o->b∉ex->∃o',h'.get? b=some o'
 tups:∀b xs,H b=some (.tup xs)->H' b=some (.tup xs)
 frzs:∀b o u,H b=some (.frz o u)->H' b=some (.frz o u)
 tbls:∀b ps,H b=some (.tbl ps)->∃more,H' b=some (.tbl (ps++more))
section
variable {fs fs' ex ex':List Addr}{H H1 H2:Hp}{h h1 h2 h':Heap}{a x e:Addr}{o:HO}
theorem Un.any (u:Un fs ex H H1 h h1){b:Addr}{ob:Obj}(q:h.get? b=some ob) (n:H b=none) (hx:b∉ex):∃sl,h1.get? b=some { ob with slots:=sl }:=by
 by_cases hb:b∈fs
 ·exact u.slot b ob q n hb hx
 ·exact⟨ob.slots,u.keep b ob q n hb hx⟩
theorem Un.kept (k:∀b u,h.get? b=some u->h'.get? b=some u):Un fs ex H H h h' :=
 ⟨λb ob q _ _ _=>k b ob q,λb ob q _ _ _=>⟨ob.slots,k b ob q⟩,λ_ _ _ n _=>n,λb ob q _=>⟨ob,k b ob q⟩,λ_ _ q=>q,λ_ _ _ q=>q,λ_ ps q=>⟨#[],by rw[q];simp⟩⟩
theorem Un.refl:Un fs ex H H h h:=Un.kept λ_ _ q=>q
theorem Un.laid (k:∀b u,h.get? b=some u->h'.get? b=some u) (hp:h.objs.size<=a) (hn:H a=none):Un fs ex H (upd H a o) h h' where
 keep:=λb u q _ _ _=>k b u q
 slot:=λb u q _ _ _=>⟨u.slots,k b u q⟩
 free:=λb u q n _=>by rw[qqa (Nat.ne_of_lt (Nat.lt_of_lt_of_le (Heap.lt_size q) hp))];exact n
 there:=λb u q _=>⟨u,k b u q⟩
 tups:=λb xs q=>by rw[qqa (nen q hn)];exact q
 frzs:=λb u xs q=>by rw[qqa (nen q hn)];exact q
 tbls:=λb ps q=>⟨#[],by rw[qqa (nen q hn),q];simp⟩
theorem Un.write (mu:Mut (H x)) (he:e=x\/H e=some (.own x)) (k:∀b u,b≠e->h.get? b=some u->h'.get? b=some u) (heo:∃u,h'.get? e=some u):Un fs ex H (upd H x o) h h':=by
 have hx:∀b,H b=none->b≠x:=λb n z=>by subst z;rw[n]at mu;exact mu
 have hb:∀b,H b=none->b≠e:=λb n z=>by
  subst z
  rcases he with r | r
  ·exact hx b n r
  ·rw[n]at r;cases r
 have hm:∀b u,H b=some u->¬Mut (some u)->b≠x:=λb u q nm z=>by subst z;rw[q]at mu;exact nm mu
 refine⟨λb u q n _ _=>k b u (hb b n) q,λb u q n _ _=>⟨u.slots,k b u (hb b n) q⟩,λb u q n _=>by rw[qqa (hx b n)];exact n,λb u q _=>?_,
  λb xs q=>by rw[qqa (hm b _ q λz=>z)];exact q,λb u xs q=>by rw[qqa (hm b _ q λz=>z)];exact q,λb ps q=>⟨#[],by rw[qqa (hm b _ q λz=>z),q];simp⟩⟩
 by_cases hbe:b=e
 ·subst hbe;exact heo
 ·exact⟨u,k b u hbe q⟩
end
def trk (h:Heap) (H:Hp):List Addr:=(List.range h.objs.size).filter λa=>(H a).isSome
def hidT (h:Heap) (H:Hp):Heap:=PySem.W.hideAll h (trk h H)
theorem hidT_size (h:Heap) (H:Hp):(hidT h H).objs.size=h.objs.size:=PySem.W.hideAll_size _ _
theorem hidT_get {h:Heap}{H:Hp}{b:Addr}{o:Obj}(e:h.get? b=some o) (n:H b=none):(hidT h H).get? b=some o :=
 PySem.W.hideAll_get _ e λhm=>by
  have q:(H b).isSome=true:=(List.mem_filter.mp hm).2
  rw[n]at q;simp at q
theorem of_hidT {h:Heap}{H:Hp}{b:Addr}{o:Obj}(e:(hidT h H).get? b=some o):h.get? b=some o/\H b=none:=by
 have e':h.get? b=some o:=PySem.W.of_hideAll (trk h H) e
 refine⟨e',?_⟩
 cases q:H b with
 | none=>rfl
 | some x =>
  have hm:b∈trk h H:=List.mem_filter.mpr ⟨List.mem_range.mpr (Heap.lt_size e'),by simp[q]⟩
  have z:(hidT h H).get? b=none:=PySem.W.hideAll_none (trk h H) hm
  rw[z]at e;cases e
def allNews (g h:Heap) (L:Addr):List (Addr×Obj):=(List.range h.objs.size).filterMap λa=>if a=L\/(g.get? a).isSome=true then none else (h.get? a).map λo=>(a,o)
def rest (g h:Heap) (L d:Addr):List (Addr×Obj):=(allNews g h L).filter λp=>decide (p.1≠d)
end L2
namespace L2
open PySem PySem.Spec PyProof.Rows
structure Mod (K:PySem.W.Frag) (mg:Str->Option Value) (base:Heap):Prop where
 kin:K.In base
 glob:base.Ns mainGlobals mg
 blt:∃mb,base.Ns builtinsNs mb/\∀x:Str,x≠"__name__"->mb x=bootBuiltins x
 nolimit:base.NoLimit
structure Cx where
 prog:Program
 w:World
 K:PySem.W.Frag
 mg:Str->Option Value
 base:Heap
 A:Around
 N:List Str
 s_0:Shared
 H_0:Hp
 env:Env
 outer:List Env
 stack:List Env
 ex:List Addr
 fn:Str->Bool
 calm:Bool
 pn:List (Addr×Obj)
 xe:Value->Shared->Prop
def frs (l:List Env):List Addr:=l.filterMap (·.frame)
abbrev Cx.fs (X:Cx):List Addr:=frs X.outer
def Vis (sc:Scope) (x:Str):Prop:=sc.names.lookup x=some .local\/sc.names.lookup x=some .cell\/sc.names.lookup x=some .free
def Loc (sc:Scope) (x:Str):Prop:=sc.names.lookup x=some .local\/sc.names.lookup x=some .cell
def Look (env:Env) (h:Heap) (m:Str->Option Value) (x:Str) (u:Value):Prop :=
 (env.kindOf x=some .local/\m x=some u)\/((env.kindOf x=some .cell\/env.kindOf x=some .free)/\∃c,env.cells.lookup x=some c/\h.IsCell c (some u))
structure Cx.Ok (X:Cx):Prop where
 mod:Mod X.K X.mg X.base
 kind:X.env.scope.kind=.function
 glob:X.env.globals=mainGlobals
 blt:X.env.builtins=builtinsNs
 above:X.s_0.heap.objs.size<=X.env.locals
 inj:∀x y c,X.env.cells.lookup x=some c->X.env.cells.lookup y=some c->x=y
 has:∀x,(X.env.kindOf x=some .cell\/X.env.kindOf x=some .free)->∃c,X.env.cells.lookup x=some c
 cab:∀x c,X.fn x=true->X.env.cells.lookup x=some c->X.s_0.heap.objs.size<=c
 hd:X.calm=true->X.A.handled=none
 frames:X.A.frames=some X.stack
 stk:X.stack=X.outer\/(X.stack=X.env::X.outer/\X.env.frame=some X.env.locals)
 exf:∀b∈X.ex,b≠X.env.locals/\∀x c,X.env.cells.lookup x=some c->c≠b
 bs:∀b o,X.base.get? b=some o->X.s_0.heap.get? b=some o/\X.H_0 b=none
 bsz:X.base.objs.size<=X.s_0.heap.objs.size
 noex:∀b o,X.base.get? b=some o->b∉X.ex
 exfs:∀b∈X.ex,b∉X.fs
 funs:X.s_0.heap.FunFrames X.base X.outer
 frf:∀b∈X.fs,X.H_0 b=none
structure Inv (X:Cx) (pins:List (Addr×Obj)) (σ:List (Option V)) (H:Hp) (s:Shared):Prop where
 ok:X.Ok
 os:s.os=X.s_0.os
 bare:AllBare s.gens
 base:Un X.fs X.ex X.H_0 H X.s_0.heap s.heap
 loc:∃m,s.heap.Ns X.env.locals m/\∀(i:Nat) (x:Str) (v:V),X.N[i]?=some x->σ[i]?=some (some v)->Vis X.env.scope x->∃u,RelV v u/\Look X.env s.heap m x u
 cell:∀x c,X.env.cells.lookup x=some c->∃v,s.heap.IsCell c v
 free:H X.env.locals=none
 freeC:∀x c,X.env.cells.lookup x=some c->H c=none
 pin:∀p∈X.pn++pins,s.heap.get? p.1=some p.2/\H p.1=none/\p.1≠X.env.locals/\p.1∉X.fs/\∀v,p.2.data≠.cell v
 hok:HOk X.prog X.w H s.heap
 len:σ.length=X.N.length
section
variable {X:Cx}{pins:List (Addr×Obj)}{σ:List (Option V)}{H H':Hp}{s:Shared}{h':Heap}
theorem Cx.Ok.nofr (ok:X.Ok){b:Addr}{o:Obj}(e:X.base.get? b=some o):b∉X.fs:=λhb=>by
 have:=(ok.funs.mem hb).1
 rw[e]at this;cases this
theorem Inv.bs (I:Inv X pins σ H s):∀b o,X.base.get? b=some o->s.heap.get? b=some o/\H b=none:=λb o e =>
 ⟨I.base.keep b o (I.ok.bs b o e).1 (I.ok.bs b o e).2 (I.ok.nofr e) (I.ok.noex b o e),I.base.free b o (I.ok.bs b o e).1 (I.ok.bs b o e).2 (I.ok.noex b o e)⟩
theorem Inv.bk (I:Inv X pins σ H s):∀b o,X.base.get? b=some o->s.heap.get? b=some o:=λb o e=>(I.bs b o e).1
theorem Inv.mod (I:Inv X pins σ H s):Mod X.K X.mg X.base:=I.ok.mod
theorem Inv.kIn (I:Inv X pins σ H s):X.K.In s.heap:=I.ok.mod.kin.keeps I.bk
theorem Inv.fr (I:Inv X pins σ H s):∃m,Fr X.base X.env.locals s.heap m :=
 let ⟨m,hn,_⟩:=I.loc
 ⟨m,hn,I.bk,Nat.le_trans I.ok.bsz I.ok.above⟩
theorem Inv.lt (I:Inv X pins σ H s):X.env.locals<s.heap.objs.size:=let ⟨_,hn,_⟩:=I.loc;hn.lt
theorem Inv.sz (I:Inv X pins σ H s):X.s_0.heap.objs.size<=s.heap.objs.size:=Nat.le_trans I.ok.above (Nat.le_of_lt I.lt)
theorem Inv.nofs (I:Inv X pins σ H s){a:Addr}(h:s.heap.objs.size<=a):a∉X.fs:=λhb=>by
 obtain⟨_,o,ho,_⟩:=I.ok.funs.mem hb
 exact absurd (Nat.lt_of_lt_of_le (Heap.lt_size ho) (Nat.le_trans I.sz h)) (Nat.lt_irrefl _)
theorem Inv.cne (I:Inv X pins σ H s):∀x c,X.env.cells.lookup x=some c->c≠X.env.locals:=λx c e z=>by
 obtain⟨v,o,ho,hd⟩:=I.cell x c e
 obtain⟨m,⟨o',es,ep,ho',hd',_⟩,_⟩:=I.loc
 rw[z,ho']at ho;cases ho;rw[hd']at hd;cases hd
theorem Inv.funs (I:Inv X pins σ H s):s.heap.FunFrames X.base X.outer:=by
 have all:∀(l:List Env),(∀b∈frs l,b∈X.fs)->X.s_0.heap.FunFrames X.base l->s.heap.FunFrames X.base l:=by
  intro l
  induction l with
  | nil=>intro _ _;trivial
  | cons env r ih =>
   intro hs hl
   obtain⟨hk,⟨L,o,hf,hn,ho,hd⟩,hr⟩:=hl
   have hL:L∈X.fs:=hs L (by unfold frs;rw[List.filterMap_cons,hf];exact List.mem_cons_self)
   obtain⟨sl,e⟩:=I.base.slot L o ho (I.ok.frf L hL) hL λz=>I.ok.exfs L z hL
   exact⟨hk,⟨L,_,hf,hn,e,hd⟩,ih (λb hb=>hs b (by unfold frs;rw[List.filterMap_cons,hf];exact List.mem_cons_of_mem _ hb)) hr⟩
 exact all X.outer (λ_ hb=>hb) I.ok.funs
theorem Inv.stack (I:Inv X pins σ H s):s.heap.FunFrames X.base X.stack:=by
 rcases I.ok.stk with e | ⟨e,hf⟩
 ·rw[e];exact I.funs
 ·rw[e]
  obtain⟨m,hn,_⟩:=I.loc
  refine .cons (by rw[I.ok.kind];decide) hf hn ?_ I.funs
  exact Heap.get?_none_of_le (Nat.le_trans I.ok.bsz I.ok.above)
theorem Inv.stkSub (I:Inv X pins σ H s):∀b∈frs X.stack,b∈X.env.locals::X.fs:=λb hb=>by
 rcases I.ok.stk with e | ⟨e,hf⟩
 ·rw[e]at hb;exact List.mem_cons_of_mem _ hb
 ·rw[e]at hb
  unfold frs at hb
  rw[List.filterMap_cons,hf]at hb
  exact hb
theorem Inv.stkFree (I:Inv X pins σ H s):∀b∈frs X.stack,H b=none:=λb hb=>by
 rcases List.mem_cons.mp (I.stkSub b hb) with e | hb
 ·rw[e];exact I.free
 ·obtain⟨_,o,ho,_⟩:=I.ok.funs.mem hb
  exact I.base.free b o ho (I.ok.frf b hb) λz=>I.ok.exfs b z hb
theorem Inv.step {g':Array GenState}{t':Nat}{d':Drawn}{ch:List Addr}(I:Inv X pins σ H s)
  (hch:∀b∈ch,(b∈X.ex\/X.s_0.heap.objs.size<=b)/\b≠X.env.locals/\(∀x c,X.env.cells.lookup x=some c->c≠b)/\∀p∈X.pn++pins,p.1≠b)
  (keep:∀b o,b≠X.env.locals->b∉X.fs->b∉ch->s.heap.get? b=some o->H b=none->h'.get? b=some o)
  (slot:∀b o,b≠X.env.locals->b∈X.fs->b∉ch->s.heap.get? b=some o->H b=none->∃sl,h'.get? b=some { o with slots:=sl }) (free:∀b o,b∉ch->s.heap.get? b=some o->H b=none->H' b=none)
  (there:∀b o,b∉ch->s.heap.get? b=some o->∃o',h'.get? b=some o')
  (tups:∀b xs,H b=some (.tup xs)->H' b=some (.tup xs)) (frzs:∀b o u,H b=some (.frz o u)->H' b=some (.frz o u)) (tbls:∀b ps,H b=some (.tbl ps)->∃more,H' b=some (.tbl (ps++more)))
  (ns:∀m,s.heap.Ns X.env.locals m->h'.Ns X.env.locals m) (hok:HOk X.prog X.w H' h') (hg:AllBare g') :
  Inv X pins σ H' { s with heap:=h',gens:=g',drawn:=d',toks:=t' }:=by
 have neL:∀b o,X.s_0.heap.get? b=some o->b≠X.env.locals:=λb o e=>Nat.ne_of_lt (Nat.lt_of_lt_of_le (Heap.lt_size e) I.ok.above)
 have neC:∀b o,X.s_0.heap.get? b=some o->b∉X.ex->b∉ch:=λb o e hx hb=>by
  rcases (hch b hb).1 with z | z
  ·exact hx z
  ·exact absurd (Nat.lt_of_lt_of_le (Heap.lt_size e) z) (Nat.lt_irrefl _)
 have cellK:∀x c,X.env.cells.lookup x=some c->∀v,s.heap.IsCell c v->h'.IsCell c v:=λx c e v ⟨o,ho,hd⟩=>by
  have nch:c∉ch:=λz=>(hch c z).2.2.1 x c e rfl
  by_cases hc:c∈X.fs
  ·obtain⟨sl,q⟩:=slot c o (I.cne x c e) hc nch ho (I.freeC x c e)
   exact⟨_,q,hd⟩
  ·exact⟨o,keep c o (I.cne x c e) hc nch ho (I.freeC x c e),hd⟩
 refine⟨I.ok,I.os,hg,⟨λb o e n hb hx=>?_,λb o e n hb hx=>?_,λb o e n hx=>?_,λb o e hx=>?_,λb xs e=>tups b xs (I.base.tups b xs e),λb o xs e=>frzs b o xs (I.base.frzs b o xs e),λb ps e=>?_⟩,?_,λx c e=>?_,?_,λx c e=>?_,λp hp=>?_,hok,I.len⟩
 ·exact keep b o (neL b o e) hb (neC b o e hx) (I.base.keep b o e n hb hx) (I.base.free b o e n hx)
 ·obtain⟨sl,e1⟩:=I.base.slot b o e n hb hx
  obtain⟨sl',e2⟩:=slot b _ (neL b o e) hb (neC b o e hx) e1 (I.base.free b o e n hx)
  exact⟨sl',e2⟩
 ·obtain⟨o',e1⟩:=I.base.there b o e hx
  exact free b o' (neC b o e hx) e1 (I.base.free b o e n hx)
 ·obtain⟨o',e1⟩:=I.base.there b o e hx
  exact there b o' (neC b o e hx) e1
 ·obtain⟨m1,e1⟩:=I.base.tbls b ps e
  obtain⟨m2,e2⟩:=tbls b _ e1
  exact⟨m1++m2,by rw[e2,Array.append_assoc]⟩
 ·obtain⟨m,hn,hl⟩:=I.loc
  refine⟨m,ns m hn,λi x v e1 e2 e3=>?_⟩
  obtain⟨u,r,l⟩:=hl i x v e1 e2 e3
  refine⟨u,r,?_⟩
  rcases l with l | ⟨k,c,e,z⟩
  ·exact .inl l
  ·exact .inr ⟨k,c,e,cellK x c e _ z⟩
 ·obtain⟨v,z⟩:=I.cell x c e
  exact⟨v,cellK x c e v z⟩
 ·obtain⟨m,⟨o,_,_,ho,_⟩,_⟩:=I.loc
  exact free _ o (λz=>(hch _ z).2.1 rfl) ho I.free
 ·obtain⟨v,o,ho,hd⟩:=I.cell x c e
  exact free c o (λz=>(hch c z).2.2.1 x c e rfl) ho (I.freeC x c e)
 ·obtain⟨e,n,ne,nf,d⟩:=I.pin p hp
  have nch:p.1∉ch:=λz=>(hch p.1 z).2.2.2 p hp rfl
  exact⟨keep p.1 p.2 ne nf nch e n,free p.1 p.2 nch e n,ne,nf,d⟩
theorem Inv.un {t':Nat}(I:Inv X pins σ H s) (u:Un X.fs [] H H' s.heap h') (hok:HOk X.prog X.w H' h'):Inv X pins σ H' { s with heap:=h',toks:=t' }:=by
 obtain⟨m,⟨o,es,ep,ho,r⟩,_⟩:=id I.loc
 obtain⟨sl,hL⟩:=u.any ho I.free (by simp)
 exact I.step (g':=s.gens) (d':=s.drawn) (ch:=[]) (λ_ z=>nomatch z) (λb o _ hb _ e n=>u.keep b o e n hb (by simp)) (λb o _ hb _ e n=>u.slot b o e n hb (by simp)) (λb o _ e n=>u.free b o e n (by simp)) (λb o _ e=>u.there b o e (by simp)) u.tups u.frzs u.tbls (λm' hm=>by
  obtain⟨o',es',ep',ho',r'⟩:=hm
  rw[ho]at ho';cases ho'
  exact⟨_,es',ep',hL,r'⟩) hok I.bare
theorem Inv.call {g':Array GenState}{t':Nat}{d':Drawn}{ch:List Addr}(I:Inv X pins σ H s) (u:Un (frs X.stack) ch H H' s.heap h') (hok:HOk X.prog X.w H' h') (hg:AllBare g')
  (hch:∀b∈ch,(b∈X.ex\/X.s_0.heap.objs.size<=b)/\b≠X.env.locals/\(∀x c,X.env.cells.lookup x=some c->c≠b)/\∀p∈X.pn++pins,p.1≠b) :
  Inv X pins σ H' { s with heap:=h',gens:=g',drawn:=d',toks:=t' }:=by
 obtain⟨m,⟨o,es,ep,ho,r⟩,_⟩:=id I.loc
 obtain⟨sl,hL⟩:=u.any ho I.free λz=>(hch _ z).2.1 rfl
 exact I.step (ch:=ch) hch (λb o hL hb hc e n=>u.keep b o e n (λz=>(List.mem_cons.mp (I.stkSub b z)).elim hL hb) hc) (λb o _ _ hc e n=>u.any e n hc) (λb o hc e n=>u.free b o e n hc) (λb o hc e=>u.there b o e hc) u.tups u.frzs u.tbls (λm' hm=>by
  obtain⟨o',es',ep',ho',r'⟩:=hm
  rw[ho]at ho';cases ho'
  exact⟨_,es',ep',hL,r'⟩) hok hg
theorem Inv.turned {t':Nat}{it:Addr}(I:Inv X pins σ H s) (k:∀b o,b≠it->s.heap.get? b=some o->h'.get? b=some o) (hn:H it=none) (hL:it≠X.env.locals)
  (h1:it∈X.ex\/X.s_0.heap.objs.size<=it) (h2:∀x c,X.env.cells.lookup x=some c->c≠it) (h3:∀p∈X.pn++pins,p.1≠it):Inv X pins σ H { s with heap:=h',toks:=t' }:=by
 have nit:∀b u,H b=some u->b≠it:=λb u e z=>by rw[z,hn]at e;cases e
 refine I.step (g':=s.gens) (d':=s.drawn) (ch:=[it]) (λb hb=>?_) (λb o _ _ hc e _=>k b o (λz=>hc (by simp[z])) e) (λb o _ _ hc e _=>⟨o.slots,k b o (λz=>hc (by simp[z])) e⟩) (λ_ _ _ _ n=>n)
  (λb o hc e=>⟨o,k b o (λz=>hc (by simp[z])) e⟩) (λ_ _ e=>e) (λ_ _ _ e=>e) (λb ps e=>⟨#[],by rw[e];simp⟩) (λm hm=>?_) (λb u e=>?_) I.bare
 ·have e:b=it:=by simpa using hb
  subst e
  exact⟨h1,hL,h2,h3⟩
 ·obtain⟨o,es,ep,ho,r⟩:=hm
  exact⟨o,es,ep,k _ o (Ne.symm hL) ho,r⟩
 ·refine (I.hok b u e).stay (λc v hc q=>k c v ?_ q) (λ_ q=>q) λ_ _ q=>q
  rcases hc with z | z
  ·rw[z];exact nit b u e
  ·exact nit c _ z
theorem Inv.tok (I:Inv X pins σ H s) (t:Nat):Inv X pins σ H { s with toks:=t }:=I.un (h':=s.heap) (t':=t) Un.refl I.hok
theorem Inv.kept {t':Nat}(I:Inv X pins σ H s) (k:∀b u,s.heap.get? b=some u->h'.get? b=some u):Inv X pins σ H { s with heap:=h',toks:=t' }:=I.un (Un.kept k) (I.hok.kept k)
theorem Inv.laid {a:Addr}{o:HO}{t':Nat}(I:Inv X pins σ H s) (k:∀b u,s.heap.get? b=some u->h'.get? b=some u) (hp:s.heap.objs.size<=a) (new:ObjOk X.prog X.w (upd H a o) h' a o) :
  Inv X pins σ (upd H a o) { s with heap:=h',toks:=t' }:=I.un (Un.laid k hp (I.hok.fresh hp)) (I.hok.laid k hp new)
theorem Inv.write {x e:Addr}{o:HO}{t':Nat}(I:Inv X pins σ H s) (mu:Mut (H x)) (he:e=x\/H e=some (.own x)) (k:∀b u,b≠e->s.heap.get? b=some u->h'.get? b=some u) (heo:∃u,h'.get? e=some u)
  (new:ObjOk X.prog X.w (upd H x o) h' x o):Inv X pins σ (upd H x o) { s with heap:=h',toks:=t' }:=I.un (Un.write mu he k heo) (I.hok.write mu he k heo new)
theorem Inv.weak {σ':List (Option V)}(I:Inv X pins σ H s) (hl:σ'.length=σ.length) (w:∀(i:Nat) v,σ'[i]?=some (some v)->σ[i]?=some (some v)):Inv X pins σ' H s :=
 ⟨I.ok,I.os,I.bare,I.base,let ⟨m,hn,hl'⟩:=I.loc;⟨m,hn,λi x v e1 e2 e3=>hl' i x v e1 (w i v e2) e3⟩,I.cell,I.free,I.freeC,I.pin,I.hok,hl.trans I.len⟩
theorem Inv.pins_of {pins':List (Addr×Obj)}(I:Inv X pins σ H s) (h:∀p∈pins',s.heap.get? p.1=some p.2/\H p.1=none/\p.1≠X.env.locals/\p.1∉X.fs/\∀v,p.2.data≠.cell v):Inv X pins' σ H s :=
 ⟨I.ok,I.os,I.bare,I.base,I.loc,I.cell,I.free,I.freeC,λp hp=>(List.mem_append.mp hp).elim (λz=>I.pin p (List.mem_append_left _ z)) (h p),I.hok,I.len⟩
theorem nodup_ix {N:List Str}(hN:N.Nodup){i j:Nat}{x:Str}(a:N[i]?=some x) (b:N[j]?=some x):i=j:=by
 obtain⟨h1,e1⟩:=List.getElem?_eq_some_iff.mp a
 obtain⟨h2,e2⟩:=List.getElem?_eq_some_iff.mp b
 exact (List.getElem_inj hN).mp (e1.trans e2.symm)
theorem store_ok2 {M:Model}{A:Around}{E:Value->Shared->Prop}{i:Nat}{x:Str}{v:V}{u:Value}{Q:Unit->Shared->Prop}(I:Inv X pins σ H s) (hN:X.N.Nodup) (hi:X.N[i]?=some x) (hx:Loc X.env.scope x) (r:RelV v u)
  (h:∀s',Inv X pins (σ.set i (some v)) H s'->(∃a,Heap.SameBut a s.heap s'.heap/\(a=X.env.locals\/X.env.cells.lookup x=some a))->Q () s') (hf:X.fn x=true\/X.env.scope.names.lookup x=some .local:=by first | exact .inl rfl | exact .inr rfl | assumption):wpAny M A (storeName X.env x u) Q E s:=by
 obtain⟨m,hn,hl⟩:=id I.loc
 have hcls:(X.env.scope.kind == .class||(X.env.scope.kind == .module&&X.env.locals != X.env.globals))=false:=by rw[I.ok.kind];rfl
 have hiσ:i < σ.length:=by rw[I.len];exact (List.getElem?_eq_some_iff.mp hi).1
 have cne:=I.cne
 have tracked:∀ {a:Addr}{h':Heap},(∃o,s.heap.get? a=some o/\H a=none)->Heap.SameBut a s.heap h'->HOk X.prog X.w H h':=λ{a h'} ha hs b ob e=>by
  obtain⟨_,_,hfree⟩:=ha
  refine (I.hok b ob e).stay (λc w' hc q=>(hs.2 c ?_).trans q) (λ_ q=>q) λ_ _ q=>q
  rintro rfl
  rcases hc with rfl | hc
  ·rw[hfree]at e;cases e
  ·rw[hfree]at hc;cases hc
 rcases hx with hk | hk
 ·refine wpAny_storeName_local hk hn (λh' hn' hs=>?_) hcls
  obtain⟨oL,_,_,hoL,_⟩:=id hn
  refine h _ ⟨I.ok,I.os,I.bare,⟨λb o e n hb hx=>?_,λb o e n hb hx=>?_,I.base.free,λb o e hx=>?_,I.base.tups,I.base.frzs,I.base.tbls⟩,⟨_,hn',λj y v' e1 e2 e3=>?_⟩,λy c e=>?_,I.free,I.freeC,λp hp=>?_,tracked ⟨oL,hoL,I.free⟩ hs,by simpa using I.len⟩ ⟨_,hs,.inl rfl⟩
  ·exact (hs.2 b (Nat.ne_of_lt (Nat.lt_of_lt_of_le (Heap.lt_size e) I.ok.above))).trans (I.base.keep b o e n hb hx)
  ·obtain⟨sl,e1⟩:=I.base.slot b o e n hb hx
   exact⟨sl,(hs.2 b (Nat.ne_of_lt (Nat.lt_of_lt_of_le (Heap.lt_size e) I.ok.above))).trans e1⟩
  ·obtain⟨o',e1⟩:=I.base.there b o e hx
   exact⟨o',(hs.2 b (Nat.ne_of_lt (Nat.lt_of_lt_of_le (Heap.lt_size e) I.ok.above))).trans e1⟩
  ·by_cases hj:j=i
   ·subst hj
    rw[hi]at e1;cases e1
    rw[List.getElem?_set_self hiσ]at e2
    cases e2
    exact⟨u,r,.inl ⟨hk,by simp⟩⟩
   ·rw[List.getElem?_set_ne (Ne.symm hj)]at e2
    obtain⟨u',r',q⟩:=hl j y v' e1 e2 e3
    refine⟨u',r',?_⟩
    rcases q with⟨k,e⟩|⟨k,c,e,z⟩
    ·refine .inl ⟨k,?_⟩
     have:y≠x:=λe=>hj (nodup_ix hN e1 (e▸hi))
     simp[this,e]
    ·exact .inr ⟨k,c,e,z.sameBut hs (cne y c e)⟩
  ·obtain⟨w',z⟩:=I.cell y c e
   exact⟨w',z.sameBut hs (cne y c e)⟩
  ·obtain⟨e,n,ne,nf,d⟩:=I.pin p hp
   exact⟨(hs.2 p.1 ne).trans e,n,ne,nf,d⟩
 ·have hfn:X.fn x=true:=by
   rcases hf with z | z
   ·exact z
   ·rw[z]at hk;cases hk
  obtain⟨c,hc⟩:=I.ok.has x (.inl hk)
  obtain⟨w',z⟩:=I.cell x c hc
  refine wpAny_storeName_cell I.ok.kind hk hc z (λh' hc' hs=>?_)
  obtain⟨oc,hoc,hocd⟩:=id z
  refine h { s with heap:=h' } ⟨I.ok,I.os,I.bare,⟨λb o e n hb hx=>?_,λb o e n hb hx=>?_,I.base.free,λb o e hx=>?_,I.base.tups,I.base.frzs,I.base.tbls⟩,⟨m,hn.sameBut hs (Ne.symm (cne x c hc)),λj y v' e1 e2 e3=>?_⟩,λy c' e=>?_,I.free,I.freeC,λp hp=>?_,tracked ⟨oc,hoc,I.freeC x c hc⟩ hs,by simpa using I.len⟩ ⟨c,hs,.inr hc⟩
  ·exact (hs.2 b (Nat.ne_of_lt (Nat.lt_of_lt_of_le (Heap.lt_size e) (I.ok.cab x c hfn hc)))).trans (I.base.keep b o e n hb hx)
  ·obtain⟨sl,e1⟩:=I.base.slot b o e n hb hx
   exact⟨sl,(hs.2 b (Nat.ne_of_lt (Nat.lt_of_lt_of_le (Heap.lt_size e) (I.ok.cab x c hfn hc)))).trans e1⟩
  ·obtain⟨o',e1⟩:=I.base.there b o e hx
   exact⟨o',(hs.2 b (Nat.ne_of_lt (Nat.lt_of_lt_of_le (Heap.lt_size e) (I.ok.cab x c hfn hc)))).trans e1⟩
  ·by_cases hj:j=i
   ·subst hj
    rw[hi]at e1;cases e1
    rw[List.getElem?_set_self hiσ]at e2
    cases e2
    exact⟨u,r,.inr ⟨.inl hk,c,hc,hc'⟩⟩
   ·rw[List.getElem?_set_ne (Ne.symm hj)]at e2
    obtain⟨u',r',q⟩:=hl j y v' e1 e2 e3
    refine⟨u',r',?_⟩
    rcases q with q | ⟨k,c',e,z'⟩
    ·exact .inl q
    ·refine .inr ⟨k,c',e,z'.sameBut hs ?_⟩
     rintro rfl
     exact hj (nodup_ix hN e1 (I.ok.inj _ _ _ e hc▸hi))
  ·by_cases hcc:c'=c
   ·subst hcc;exact⟨_,hc'⟩
   ·obtain⟨w2,z2⟩:=I.cell y c' e
    exact⟨w2,z2.sameBut hs hcc⟩
  ·obtain⟨e,n,ne,nf,d⟩:=I.pin p hp
   refine⟨(hs.2 p.1 ?_).trans e,n,ne,nf,d⟩
   intro q
   rw[q,hoc]at e
   have q':oc=p.2:=Option.some.inj e
   exact d w' (by rw[<-q'];exact hocd)
theorem store_ok {M:Model}{A:Around}{E:Value->Shared->Prop}{i:Nat}{x:Str}{v:V}{u:Value}{Q:Unit->Shared->Prop}(I:Inv X pins σ H s) (hN:X.N.Nodup) (hi:X.N[i]?=some x) (hx:Loc X.env.scope x) (r:RelV v u)
  (h:∀s',Inv X pins (σ.set i (some v)) H s'->Q () s') (hf:X.fn x=true\/X.env.scope.names.lookup x=some .local:=by first | exact .inl rfl | exact .inr rfl | assumption):wpAny M A (storeName X.env x u) Q E s :=
 store_ok2 I hN hi hx r (λs' I' _=>h s' I') hf
theorem Inv.call' {s':Shared}{ch:List Addr}(I:Inv X pins σ H s) (ho:s'.os=s.os) (u:Un (frs X.stack) ch H H' s.heap s'.heap) (hok:HOk X.prog X.w H' s'.heap) (hg:AllBare s'.gens)
  (hch:∀b∈ch,(b∈X.ex\/X.s_0.heap.objs.size<=b)/\b≠X.env.locals/\(∀x c,X.env.cells.lookup x=some c->c≠b)/\∀p∈X.pn++pins,p.1≠b):Inv X pins σ H' s':=by
 obtain⟨h',g',d',t',o'⟩:=s'
 have e:o'=s.os:=ho
 subst e
 exact I.call (g':=g') (t':=t') (d':=d') u hok hg hch
end
abbrev XK:=Value->Option Addr->Hp->Prop
abbrev St:=List (Option V)
abbrev VK:=V->Hp->Prop
abbrev TE:=St->Hp->VK->Prop
abbrev TT:=St->Hp->(Bool->Hp->Prop)->Prop
abbrev TA:=St->Hp->(List V->Hp->Prop)->Prop
structure Ends where
 nx:St->Hp->Prop
 rt:VK
 bk:St->Hp->Prop:=λ_ _=>False
 ct:St->Hp->Prop:=λ_ _=>False
abbrev TS:=Ends->St->Hp->Prop
def EP (X:Cx) (pins:List (Addr×Obj)) (σ:St) (Q:VK) (u:Value) (s':Shared):Prop:=∃v H',Inv X pins σ H' s'/\RelV v u/\Q v H'
def TP (X:Cx) (pins:List (Addr×Obj)) (σ:St) (Q:Bool->Hp->Prop) (b:Bool) (s':Shared):Prop:=∃H',Inv X pins σ H' s'/\Q b H'
def AP (X:Cx) (pins:List (Addr×Obj)) (σ:St) (Q:List V->Hp->Prop) (us:List Value) (s':Shared):Prop:=∃vs H',Inv X pins σ H' s'/\Vals vs us/\Q vs H'
def SP (X:Cx) (pins:List (Addr×Obj)) (D:Ends) (f:Flow) (s':Shared):Prop :=
 match f with
 | .next=>∃σ' H',Inv X pins σ' H' s'/\D.nx σ' H'
 | .brk=>∃σ' H',Inv X pins σ' H' s'/\D.bk σ' H'
 | .cont=>∃σ' H',Inv X pins σ' H' s'/\D.ct σ' H'
 | .ret u=>∃v σ' H',Inv X pins σ' H' s'/\RelV v u/\D.rt v H'
def PE (X:Cx) (e:Expr) (t:TE):Prop :=
 ∀(pins:List (Addr×Obj)) (s:Shared) (σ:St) (H:Hp) (Q:VK),Inv X pins σ H s->t σ H Q->wpAny (model X.prog X.w) X.A (eval e X.env) (EP X pins σ Q) X.xe s
def PT (X:Cx) (e:Expr) (t:TT):Prop :=
 ∀(pins:List (Addr×Obj)) (s:Shared) (σ:St) (H:Hp) (Q:Bool->Hp->Prop),Inv X pins σ H s->t σ H Q->wpAny (model X.prog X.w) X.A (isTrue e X.env (eval e X.env)) (TP X pins σ Q) X.xe s
def PW (X:Cx) (e:Expr) (t:TT):Prop :=
 ∀(whole:Sem Value) (pins:List (Addr×Obj)) (s:Shared) (σ:St) (H:Hp) (Q:Bool->Hp->Prop),Inv X pins σ H s->t σ H Q->wpAny (model X.prog X.w) X.A (isTrue e X.env whole) (TP X pins σ Q) X.xe s
theorem PW.pt {X:Cx}{e:Expr}{t:TT}(h:PW X e t):PT X e t:=h _
def PA (X:Cx) (es:List Expr) (t:TA):Prop :=
 ∀(pos:Pos) (pins:List (Addr×Obj)) (s:Shared) (σ:St) (H:Hp) (Q:List V->Hp->Prop),Inv X pins σ H s->t σ H Q->wpAny (model X.prog X.w) X.A (spliced (backTo pos (starEach es X.env))) (AP X pins σ Q) X.xe s
def PS (X:Cx) (st:Stmt) (t:TS):Prop :=
 ∀(pins:List (Addr×Obj)) (s:Shared) (σ:St) (H:Hp) (D:Ends),Inv X pins σ H s->t D σ H->wpAny (model X.prog X.w) X.A (exec st X.env) (SP X pins D) X.xe s
def PSs (X:Cx) (st:List Stmt) (t:TS):Prop :=
 ∀(pins:List (Addr×Obj)) (s:Shared) (σ:St) (H:Hp) (D:Ends),Inv X pins σ H s->t D σ H->wpAny (model X.prog X.w) X.A (execs st X.env) (SP X pins D) X.xe s
theorem thn {α:Type}{t:Sem α}{Q Q':α->Shared->Prop}{M:Model}{A:Around}{E:Value->Shared->Prop}{s:Shared}(h:wpAny M A t Q E s) (hQ:∀a s,Q a s->Q' a s):wpAny M A t Q' E s:=wpAny_mono h hQ λ_ _ x=>x
end L2
namespace L2
open PySem PySem.Spec PyProof.Rows
section
variable {X:Cx}
theorem bin {a b:Expr}{ta tb:TE}(ha:PE X a ta) (hb:PE X b tb){pins:List (Addr×Obj)}{s:Shared}{σ:St}{H:Hp}{R:V->V->Hp->Prop}(I:Inv X pins σ H s) (h:ta σ H λx H1=>tb σ H1 λy H2=>R x y H2)
  {α:Type}{Q:α->Shared->Prop}{f:Value->Value->Sem α}
  (hf:∀v u s2 x y H2,Inv X pins σ H2 s2->RelV x v->RelV y u->R x y H2->wpAny (model X.prog X.w) X.A (f v u) Q X.xe s2) :
  wpAny (model X.prog X.w) X.A (eval a X.env) (λv s₁=>wpAny (model X.prog X.w) X.A (eval b X.env) (λu s₂=>wpAny (model X.prog X.w) X.A (f v u) Q X.xe s₂) X.xe s₁) X.xe s:=by
 refine thn (ha pins s σ H _ I h) λv s1 ⟨x,H1,I1,r1,q1⟩=>?_
 refine thn (hb pins s1 σ H1 _ I1 q1) λu s2 ⟨y,H2,I2,r2,q2⟩=>?_
 exact hf v u s2 x y H2 I2 r1 r2 q2
def tVar (i:Nat):TE:=λσ H Q=>∃v,σ[i]?=some (some v)/\Q v H
def tC (v:V):TE:=λ_ H Q=>Q v H
theorem pe_var {i:Nat}{x:Str}{pos:Pos}(hN:X.N[i]?=some x) (hv:Vis X.env.scope x) (hd:(x == ("__debug__":Str))=false:=by decide) (hcd:(x == ("__classdict__":Str))=false:=by decide):PE X (.Name x pos) (tVar i):=by
 intro pins s σ H Q I h
 obtain⟨v,e,h⟩:=h
 obtain⟨m,hn,hl⟩:=I.loc
 obtain⟨u,r,l⟩:=hl i x v hN e hv
 have fin:EP X pins σ Q u s:=⟨v,H,I,r,h⟩
 rcases l with⟨hk,hm⟩|⟨hk,c,hc,hcell⟩
 ·exact wpAny_Name (wpAny_loadName_local I.ok.kind hk hn hm fin) hd
 ·rcases hk with hk | hk
  ·exact wpAny_Name (wpAny_loadName_cell I.ok.kind hk hc hcell fin) hd
  ·exact wpAny_Name (wpAny_loadName_free I.ok.kind hk hc hcell fin hcd) hd
theorem pei {i j pos}:PE X (.Constant (.int i) j pos) (tC (.int i)):=λ_ _ _ H _ I h=>wpAny_Constant_int ⟨.int i,H,I.tok _,⟨_,rfl⟩,h⟩
theorem pe_bl {b j pos}:PE X (.Constant (.bool b) j pos) (tC (.bl b)):=λ_ _ _ H _ I h=>Constant_bool ⟨.bl b,H,I,rfl,h⟩
theorem pe_non {j pos}:PE X (.Constant .none j pos) (tC .non):=λ_ _ _ H _ I h=>Constant_none ⟨.non,H,I,rfl,h⟩
theorem pe_str {x j pos}:PE X (.Constant (.str x) j pos) (tC (.str x)):=λ_ _ _ H _ I h=>Calls.Constant_str ⟨.str x,H,I.tok _,⟨_,rfl⟩,h⟩
def Gl (X:Cx) (x:Str):Prop:=X.env.kindOf x=some .globalImplicit
theorem ld_glob {E:Value->Shared->Prop}{pins:List (Addr×Obj)}{s:Shared}{σ:St}{H:Hp}{x:Str}{u:Value}{pos:Pos}{Q:Value->Shared->Prop}(I:Inv X pins σ H s) (hg:Gl X x) (hm:X.mg x=some u) (h:Q u s)
  (hd:(x == ("__debug__":Str))=false:=by decide):wpAny (model X.prog X.w) X.A (eval (.Name x pos) X.env) Q E s :=
 Calls.Name_function_global I.ok.kind hg (Calls.loadGlobal_global (by rw[I.ok.glob];exact I.mod.glob.keeps I.bk) hm h) hd
theorem ld_blt {E:Value->Shared->Prop}{pins:List (Addr×Obj)}{s:Shared}{σ:St}{H:Hp}{x:Str}{u:Value}{pos:Pos}{Q:Value->Shared->Prop}(I:Inv X pins σ H s) (hg:Gl X x) (hm:X.mg x=none) (hv:bootBuiltins x=some u) (h:Q u s)
  (hn:x≠"__name__":=by decide) (hd:(x == ("__debug__":Str))=false:=by decide):wpAny (model X.prog X.w) X.A (eval (.Name x pos) X.env) Q E s:=by
 obtain⟨mb,h1,h2⟩:=I.mod.blt
 exact Calls.Name_function_global I.ok.kind hg (Calls.loadGlobal_builtin (by rw[I.ok.glob];exact I.mod.glob.keeps I.bk) hm (by rw[I.ok.blt];exact h1.keeps I.bk) ((h2 x hn).trans hv) h) hd
theorem pe_glob {x:Str}{v:V}{u:Value}{pos:Pos}(hg:Gl X x) (hm:X.mg x=some u) (r:RelV v u) (hd:(x == ("__debug__":Str))=false:=by decide):PE X (.Name x pos) (tC v) :=
 λ_ _ _ H _ I h=>ld_glob I hg hm ⟨v,H,I,r,h⟩ hd
variable {a b:Expr}{ta tb:TE}{pos:Pos}
def PC (X:Cx) (op:CmpOp) (a b:Expr) (t:TE):Prop :=
 ∀(pins:List (Addr×Obj)) (s:Shared) (σ:St) (H:Hp) (Q:VK),Inv X pins σ H s->t σ H Q ->
  wpAny (model X.prog X.w) X.A (eval a X.env) (λv s₁=>wpAny (model X.prog X.w) X.A (eval b X.env) (λu s₂=>wpAny (model X.prog X.w) X.A (compareOp op v u) (EP X pins σ Q) X.xe s₂) X.xe s₁) X.xe s
theorem nobehind (b:Expr){op:CmpOp}(h:op≠.In) (h2:op≠.NotIn):behindInMarks op b=false:=by
 have e1:(op == CmpOp.In)=false:=by cases op <;> first | rfl | exact absurd rfl h
 have e2:(op == CmpOp.NotIn)=false:=by cases op <;> first | rfl | exact absurd rfl h2
 cases b <;> simp[behindInMarks,e1,e2]
def tIsN (ta:TE):TE:=λσ H Q=>ta σ H λx H1=>Q (.bl (decide (x=.non))) H1
theorem RelV.none_iff {x:V}{v:Value}(r:RelV x v):(v == Value.none)=decide (x=.non):=by
 cases x with
 | non=>cases r;rfl
 | bl _=>cases r;rfl
 | int _=>obtain⟨t,rfl⟩:=r;rfl
 | str _=>obtain⟨t,rfl⟩:=r;rfl
 | byt _=>obtain⟨t,rfl⟩:=r;rfl
 | flt _=>obtain⟨t,rfl⟩:=r;rfl
 | ref _=>cases r;rfl
 | ty _=>cases r;rfl
theorem pc_isN {j pos'}(ha:PE X a ta):PC X .Is a (.Constant .none j pos') (tIsN ta):=by
 intro pins s σ H Q I h
 refine thn (ha pins s σ H _ I h) λv s1 ⟨x,H1,I1,r1,q1⟩=>?_
 exact Constant_none (is_none_gen ⟨.bl _,H1,I1,by rw[r1.none_iff];rfl,q1⟩)
def tB (t:TE):TT:=λσ H Q=>t σ H λx H1=>∃c,x=.bl c/\Q c H1
theorem pt_cmp {op:CmpOp}{t:TE}(h:PC X op a b t) (h1:behindInMarks op b=false:=by first | exact nobehind _ (by decide) (by decide) | rfl):PT X (.Compare a [op] [b] pos) (tB t):=by
 intro pins s σ H Q I hw
 refine wpAny_isTrue_Compare1 (thn (h pins s σ H _ I hw) λv s1 h1=>thn h1 λu s2 h2=>thn h2 λc s3 ⟨x,H1,I1,r1,q1⟩=>?_) h1
 obtain⟨d,rfl,q⟩:=q1
 cases r1
 exact wpAny_truthy_bool ⟨H1,I1,q⟩
theorem pt_val {e:Expr}{t:TE}(h:PE X e t) (he:∀whole,isTrue e X.env whole=(do let v <- whole;standAt e.pos;holding [v] (truthy v)):=by intro _;rfl):PT X e (tB t):=by
 intro pins s σ H Q I hw
 refine isTrue_plain (thn (h pins s σ H _ I hw) λv s1 ⟨x,H1,I1,r1,q1⟩=>?_) (he _)
 obtain⟨d,rfl,q⟩:=q1
 cases r1
 exact wpAny_truthy_bool ⟨H1,I1,q⟩
variable {tA tB':TT}{rest:List Expr}
def tAnd (t u:TT):TT:=λσ H Q=>t σ H λc H1=>if c=true then u σ H1 Q else Q false H1
def tOr (t u:TT):TT:=λσ H Q=>t σ H λc H1=>if c=true then Q true H1 else u σ H1 Q
def tNot (t:TT):TT:=λσ H Q=>t σ H λc H1=>Q (!c) H1
theorem pw_and1 (ha:PT X a tA):PW X (.BoolOp .And [a] pos) tA:=by
 intro wh pins s σ H Q I h
 refine isTrue_and (thn (ha pins s σ H Q I h) λc s1 e=>?_)
 cases c with
 | true=>exact isTrue_and_nil e
 | false=>exact e
theorem pw_or1 (ha:PT X a tA):PW X (.BoolOp .Or [a] pos) tA:=by
 intro wh pins s σ H Q I h
 refine isTrue_or (thn (ha pins s σ H Q I h) λc s1 e=>?_)
 cases c with
 | false=>exact isTrue_or_nil e
 | true=>exact e
theorem pw_and (ha:PT X a tA) (hb:PW X (.BoolOp .And (b::rest) pos) tB'):PW X (.BoolOp .And (a::b::rest) pos) (tAnd tA tB'):=by
 intro wh pins s σ H Q I h
 refine isTrue_and (thn (ha pins s σ H _ I h) λc s1 ⟨H1,I1,q1⟩=>?_)
 cases c with
 | true=>exact hb wh pins s1 σ H1 Q I1 q1
 | false=>exact⟨H1,I1,q1⟩
theorem pw_or (ha:PT X a tA) (hb:PW X (.BoolOp .Or (b::rest) pos) tB'):PW X (.BoolOp .Or (a::b::rest) pos) (tOr tA tB'):=by
 intro wh pins s σ H Q I h
 refine isTrue_or (thn (ha pins s σ H _ I h) λc s1 ⟨H1,I1,q1⟩=>?_)
 cases c with
 | true=>exact⟨H1,I1,q1⟩
 | false=>exact hb wh pins s1 σ H1 Q I1 q1
theorem pt_not (ha:PT X a tA):PT X (.UnaryOp .Not a pos) (tNot tA):=by
 intro pins s σ H Q I h
 exact isTrue_not (ha pins s σ H (λc H1=>Q (!c) H1) I h)
def tAndV (ta tb:TE):TE:=λσ H Q=>ta σ H λx H1=>∃c,x=.bl c/\if c=true then tb σ H1 Q else Q (.bl false) H1
def tOrV (ta tb:TE):TE:=λσ H Q=>ta σ H λx H1=>∃c,x=.bl c/\if c=true then Q (.bl true) H1 else tb σ H1 Q
def tNotV (ta:TE):TE:=λσ H Q=>ta σ H λx H1=>∃c,x=.bl c/\Q (.bl (!c)) H1
theorem pe_one {op}{t:TE}(h:PE X a t):PE X (.BoolOp op [a] pos) t:=λpins s σ H Q I hw=>BoolOp_one (h pins s σ H Q I hw)
theorem pe_and (ha:PE X a ta) (hb:PE X (.BoolOp .And (b::rest) pos) tb):PE X (.BoolOp .And (a::b::rest) pos) (tAndV ta tb):=by
 intro pins s σ H Q I h
 refine BoolOp_and (thn (ha pins s σ H _ I h) λv s1 ⟨x,H1,I1,r1,q1⟩=>?_)
 obtain⟨c,rfl,q1⟩:=q1
 cases r1
 refine wpAny_truthy_bool ?_
 cases c with
 | true=>exact hb pins s1 σ H1 Q I1 q1
 | false=>exact⟨.bl false,H1,I1,rfl,q1⟩
theorem pe_or (ha:PE X a ta) (hb:PE X (.BoolOp .Or (b::rest) pos) tb):PE X (.BoolOp .Or (a::b::rest) pos) (tOrV ta tb):=by
 intro pins s σ H Q I h
 refine BoolOp_or (thn (ha pins s σ H _ I h) λv s1 ⟨x,H1,I1,r1,q1⟩=>?_)
 obtain⟨c,rfl,q1⟩:=q1
 cases r1
 refine wpAny_truthy_bool ?_
 cases c with
 | false=>exact hb pins s1 σ H1 Q I1 q1
 | true=>exact⟨.bl true,H1,I1,rfl,q1⟩
def tIf (t:TT) (ta tb:TE):TE:=λσ H Q=>t σ H λc H1=>if c=true then ta σ H1 Q else tb σ H1 Q
theorem pe_ifExp {c:Expr}(hc:PT X c tA) (ha:PE X a ta) (hb:PE X b tb):PE X (.IfExp c a b pos) (tIf tA ta tb):=by
 intro pins s σ H Q I h
 refine wpAny_IfExp (thn (hc pins s σ H _ I h) λd s1 ⟨H1,I1,q1⟩=>?_)
 cases d with
 | true=>exact ha pins s1 σ H1 Q I1 q1
 | false=>exact hb pins s1 σ H1 Q I1 q1
end
end L2
namespace L2
open PySem PySem.Spec PyProof.Rows
def SqL (K:PySem.W.Frag) (H:Hp) (a:Addr) (xs:List V):Prop :=
 Rd H a (.lst xs) \/
  ∃(o:Obj) (its:Array Value) (n:Nat),K.lookup a=some o/\o.cls=.type "list"/\o.dict=none/\o.data=.seq its n/\its.size<=sizeLine/\Vals xs its.toList
def SqT (K:PySem.W.Frag) (H:Hp) (a:Addr) (xs:List V):Prop :=
 Rd H a (.tup xs) \/
  ∃(o:Obj) (its:Array Value) (n:Nat),K.lookup a=some o/\o.cls=.type "tuple"/\o.data=.seq its n/\its.size<=sizeLine/\Vals xs its.toList
def absV:Value->Option V
 | .none=>some .non
 | .bool b=>some (.bl b)
 | .int i _=>some (.int i)
 | .str x _=>some (.str x)
 | .bytes b _=>some (.byt b)
 | .float b _=>some (.flt b)
 | .ref a=>some (.ref a)
 | .type n=>some (.ty n)
 | _=>none
theorem RelV.abs {x:V}{u:Value}(r:RelV x u):absV u=some x:=by
 cases x with
 | non=>cases r;rfl
 | bl _=>cases r;rfl
 | int _=>obtain⟨t,rfl⟩:=r;rfl
 | str _=>obtain⟨t,rfl⟩:=r;rfl
 | byt _=>obtain⟨t,rfl⟩:=r;rfl
 | flt _=>obtain⟨t,rfl⟩:=r;rfl
 | ref _=>cases r;rfl
 | ty _=>cases r;rfl
theorem RelV.inj {x y:V}{u:Value}(r:RelV x u) (q:RelV y u):x=y:=Option.some.inj (r.abs.symm.trans q.abs)
theorem Vals.inj:∀ {xs ys:List V}{us:List Value},Vals xs us->Vals ys us->xs=ys
 | _,_,_,.nil,.nil=>rfl
 | _,_,_,.cons r t,.cons r' t'=>by rw[r.inj r',Vals.inj t t']
section
variable {X:Cx}{pins:List (Addr×Obj)}{σ:St}{H:Hp}{s:Shared}{a:Addr}{xs ys:List V}
theorem SqL.of {K:PySem.W.Frag}(h:H a=some (.lst xs)):SqL K H a xs:=.inl (.inl h)
theorem SqT.of {K:PySem.W.Frag}(h:H a=some (.tup xs)):SqT K H a xs:=.inl (.inl h)
theorem Inv.list (I:Inv X pins σ H s) (h:SqL X.K H a xs):∃its:List Value,Vals xs its/\PlainL s.heap a its.toArray/\xs.length<=sizeLine:=by
 rcases h with h | ⟨o,its,n,hk,hc,hd,hs,hz,r⟩
 ·obtain⟨z,its,n,r,e⟩:=h.ok I.hok
  exact⟨its,r,⟨_,n,e,rfl,rfl,rfl⟩,z⟩
 ·refine⟨its.toList,r,⟨o,n,I.kIn a o hk,hc,hd,by simpa using hs⟩,?_⟩
  have e:=r.length
  simp only[Array.length_toList]at e
  omega
theorem Inv.tuple (I:Inv X pins σ H s) (h:SqT X.K H a xs):∃its:List Value,Vals xs its/\IsTup s.heap a its.toArray/\xs.length<=sizeLine:=by
 rcases h with h | ⟨o,its,n,hk,hc,hs,hz,r⟩
 ·obtain⟨z,its,r,p⟩:=h.ok I.hok
  exact⟨its,r,p,z⟩
 ·refine⟨its.toList,r,⟨o,I.kIn a o hk,hc,n,by simpa using hs⟩,?_⟩
  have e:=r.length
  simp only[Array.length_toList]at e
  omega
theorem Inv.list_inj (I:Inv X pins σ H s) (h:SqL X.K H a xs) (h':SqL X.K H a ys):xs=ys:=by
 obtain⟨its,r,⟨o,n,e,_,_,d⟩,_⟩:=I.list h
 obtain⟨its',r',⟨o',n',e',_,_,d'⟩,_⟩:=I.list h'
 rw[e]at e';cases e'
 rw[d]at d'
 injection d' with d1 _
 have:its=its':=by simpa using congrArg Array.toList d1
 subst this
 exact r.inj r'
theorem Inv.tuple_inj (I:Inv X pins σ H s) (h:SqT X.K H a xs) (h':SqT X.K H a ys):xs=ys:=by
 obtain⟨its,r,⟨o,e,_,n,d⟩,_⟩:=I.tuple h
 obtain⟨its',r',⟨o',e',_,n',d'⟩,_⟩:=I.tuple h'
 rw[e]at e';cases e'
 rw[d]at d'
 injection d' with d1 _
 have:its=its':=by simpa using congrArg Array.toList d1
 subst this
 exact r.inj r'
end
section
variable {X:Cx}{pins:List (Addr×Obj)}{σ:St}{H:Hp}{s:Shared}{E:Value->Shared->Prop}
end
section
variable {X:Cx}{st:Stmt}{rest:List Stmt}{t u:TS}{e:Expr}{te:TE}{pos:Pos}
def tNext:TS:=λD σ H=>D.nx σ H
def tSeq (t u:TS):TS:=λD σ H=>t { D with nx:=u D } σ H
theorem qqi:PSs X [] tNext:=λ_ _ σ H _ I h=>wpAny_execs_nil ⟨σ,H,I,h⟩
theorem psc (h1:PS X st t) (h2:PSs X rest u):PSs X (st::rest) (tSeq t u):=by
 intro pins s σ H D I h
 refine wpAny_execs_cons (thn (h1 pins s σ H { D with nx:=u D } I h) λf s1 q=>?_)
 cases f with
 | next =>
  obtain⟨σ',H',I',q⟩:=q
  exact h2 pins s1 σ' H' D I' q
 | ret v=>exact q
 | brk=>exact q
 | cont=>exact q
theorem pso (h1:PS X st t):PSs X [st] t:=by
 intro pins s σ H D I h
 refine wpAny_execs_cons (thn (h1 pins s σ H D I h) λf s1 q=>?_)
 cases f with
 | next=>exact wpAny_execs_nil q
 | ret v=>exact q
 | brk=>exact q
 | cont=>exact q
def tBreak:TS:=λD σ H=>D.bk σ H
def tCont:TS:=λD σ H=>D.ct σ H
theorem ps_break:PS X (.Break pos) tBreak:=λ_ _ σ H _ I h=>wpAny_Break ⟨σ,H,I,h⟩
theorem Inv.quiet {pins:List (Addr×Obj)}{σ:St}{H:Hp}{s:Shared}(I:Inv X pins σ H s):interactive X.env=false:=by simp[interactive,I.ok.kind]
def tDrop (te:TE):TS:=λD σ H=>te σ H λ_ H1=>D.nx σ H1
theorem qqj (he:PE X e te) (hs:swapsWith e none pos.line X.env=pure false:=by rfl):PS X (.Expr e pos) (tDrop te):=by
 intro pins s σ H D I h
 exact wpAny_Expr_any (thn (he pins s σ H _ I h) λv s1 ⟨x,H1,I1,r1,q1⟩=>⟨σ,H1,I1,q1⟩) I.quiet hs
def tRet (te:TE):TS:=λD σ H=>te σ H D.rt
theorem qqe (he:PE X e te):PS X (.Return (some e) pos) (tRet te):=by
 intro pins s σ H D I h
 exact wpAny_Return_some (thn (he pins s σ H _ I h) λv s1 ⟨x,H1,I1,r1,q1⟩=>⟨x,σ,H1,I1,r1,q1⟩)
def tRetN:TS:=λD _ H=>D.rt .non H
def tIfS (c:TT) (t u:TS):TS:=λD σ H=>c σ H λb H1=>if b=true then t D σ H1 else u D σ H1
theorem ps_if {c:Expr}{a b:List Stmt}{tc:TT}(hc:PT X c tc) (ha:PSs X a t) (hb:PSs X b u):PS X (.If c a b pos) (tIfS tc t u):=by
 intro pins s σ H D I h
 refine wpAny_If (thn (hc pins s σ H _ I h) λd s1 ⟨H1,I1,q1⟩=>?_)
 cases d with
 | true=>exact ha pins s1 σ H1 D I1 q1
 | false=>exact hb pins s1 σ H1 D I1 q1
end
abbrev TG:=V->St->Hp->(St->Hp->Prop)->Prop
abbrev TGs:=List V->St->Hp->(St->Hp->Prop)->Prop
def PG (X:Cx) (target:Expr) (t:TG):Prop :=
 ∀(pins:List (Addr×Obj)) (s:Shared) (σ:St) (H:Hp) (v:V) (u:Value) (Q:St->Hp->Prop),Inv X pins σ H s->RelV v u->t v σ H Q ->
  wpAny (model X.prog X.w) X.A (assign target X.env u) (λ_ s'=>∃σ' H',Inv X pins σ' H' s'/\Q σ' H') X.xe s
def PGs (X:Cx) (ts:List Expr) (t:TGs):Prop :=
 ∀(pins:List (Addr×Obj)) (s:Shared) (σ:St) (H:Hp) (vs:List V) (us:List Value) (Q:St->Hp->Prop),Inv X pins σ H s->Vals vs us->t vs σ H Q ->
  wpAny (model X.prog X.w) X.A (assignInOrder ((assignEach ts X.env).map (·.2)) us) (λ_ s'=>∃σ' H',Inv X pins σ' H' s'/\Q σ' H') X.xe s
section
variable {X:Cx}{pos:Pos}
def gName (i:Nat):TG:=λv σ H Q=>Q (σ.set i (some v)) H
theorem pg_name {i:Nat}{x:Str}(hN:X.N.Nodup) (hi:X.N[i]?=some x) (hx:Loc X.env.scope x) (hf:X.fn x=true\/X.env.scope.names.lookup x=some .local:=by first | exact .inl rfl | exact .inr rfl | assumption):PG X (.Name x pos) (gName i):=by
 intro pins s σ H v u Q I r h
 exact wpAny_assign_Name (store_ok I hN hi hx r (λs' I'=>⟨_,H,I',h⟩) hf)
def gNil:TGs:=λvs σ H Q=>vs=[]/\Q σ H
def gCons (t:TG) (u:TGs):TGs:=λvs σ H Q=>∃v r,vs=v::r/\t v σ H λσ' H'=>u r σ' H' Q
theorem pgs_nil:PGs X [] gNil:=by
 intro pins s σ H vs us Q I r h
 obtain⟨e,h⟩:=h
 subst e
 cases r
 exact assignInOrder_nil ⟨σ,H,I,h⟩
theorem pgs_cons {e:Expr}{es:List Expr}{t:TG}{u:TGs}(h1:PG X e t) (h2:PGs X es u)
  (hs:(assignEach (e::es) X.env).map (·.2)=assign e X.env::(assignEach es X.env).map (·.2):=by rfl):PGs X (e::es) (gCons t u):=by
 intro pins s σ H vs us Q I r h
 obtain⟨v,vr,e1,h⟩:=h
 subst e1
 cases r with
 | cons r rr =>
  rw[hs]
  refine assignInOrder_cons (thn (h1 pins s σ H _ _ _ I r h) λ_ s1 ⟨σ1,H1,I1,q1⟩=>?_)
  exact h2 pins s1 σ1 H1 _ _ Q I1 rr q1
def gTup (K:PySem.W.Frag) (n:Nat) (t:TGs):TG:=λv σ H Q=>∃a xs,v=.ref a/\SqT K H a xs/\xs.length=n/\t xs σ H Q
theorem pg_tup {es:List Expr}{k:Nat}{t:TGs}{n:Nat}(hc:X.calm=true) (h:PGs X es t)
  (hn:(assignEach es X.env).length=n:=by rfl) (hst:(assignEach es X.env).findIdx? (·.1)=none:=by rfl):PG X (.Tuple es k pos) (gTup X.K n t):=by
 intro pins s σ H v u Q I r hw
 obtain⟨a,xs,e1,hq,hl,hw⟩:=hw
 subst e1
 cases r
 obtain⟨its,rv,ht,hz⟩:=I.tuple hq
 refine assign_Tuple_tuple (I.ok.hd hc) ht (by simp[hn,<-hl,rv.length]) hst λh' hx=>?_
 have I1:Inv X pins σ H { s with heap:=h' }:=I.kept (t':=s.toks) λb o e=>hx b o (Nat.ne_of_lt (Heap.lt_size e)) e
 exact h pins _ σ H xs _ Q I1 (by simpa using rv) hw
def tAsg (te:TE) (g:TG):TS:=λD σ H=>te σ H λx H1=>g x σ H1 D.nx
theorem qqd {i:Nat}{x:Str}{e:Expr}{te:TE}{pos':Pos}(hN:X.N.Nodup) (hi:X.N[i]?=some x) (hx:Loc X.env.scope x) (he:PE X e te) (hs:swapsWith e (some (.Name x pos')) pos.line X.env=pure false:=by rfl) (hf:X.fn x=true\/X.env.scope.names.lookup x=some .local:=by first | exact .inl rfl | exact .inr rfl | assumption) :
  PS X (.Assign [.Name x pos'] e pos) (tAsg te (gName i)):=by
 intro pins s σ H D I h
 refine wpAny_Assign_Name (thn (he pins s σ H _ I h) λv s1 ⟨y,H1,I1,r1,q1⟩=>?_) hs
 exact store_ok I1 hN hi hx r1 (λs2 I2=>⟨_,H1,I2,q1⟩) hf
end
section
variable {X:Cx}{pos:Pos}
def tWhile (c:TT) (tb:TS):TS:=λD σ H=>∃W:Nat->St->Hp->Prop,(∃m,W m σ H)/\∀m σ H,W m σ H ->
 c σ H λb H1=>if b=true then ∃N:St->Hp->Prop,(∀σ' H',N σ' H'->∃m',m'<m/\W m' σ' H')/\tb { D with nx:=N,ct:=N,bk:=D.nx } σ H1 else D.nx σ H1
theorem ps_while {c:Expr}{body:List Stmt}{tc:TT}{tb:TS}(hp:PassesOwn (model X.prog X.w) X.A X.env X.xe) (hc:PT X c tc) (hb:PSs X body tb):PS X (.While c body [] pos) (tWhile tc tb):=by
 intro pins s σ H D I h
 obtain⟨W,⟨m0,w0⟩,turn⟩:=h
 refine wpAny_While (codeAny_whileLoop (λn s'=>∃σ' H',Inv X pins σ' H' s'/\W n σ' H') ?_ m0 ⟨σ,H,I,w0⟩)
 rintro n s1 ⟨σ1,H1,I1,w1⟩
 refine wpAny_passesOwn hp (thn (hc pins s1 σ1 H1 _ I1 (turn n σ1 H1 w1)) λb s2 ⟨H2,I2,q2⟩=>?_)
 cases b with
 | true =>
  obtain⟨N,hN,q2⟩:=q2
  rw[if_pos rfl]
  refine wpAny_passesOwn hp (thn (hb pins s2 σ1 H2 _ I2 q2) λf s3 q3=>?_)
  cases f with
  | next =>
   obtain⟨σ3,H3,I3,n3⟩:=q3
   obtain⟨m',hm,w3⟩:=hN σ3 H3 n3
   exact⟨m',hm,σ3,H3,I3,w3⟩
  | cont =>
   obtain⟨σ3,H3,I3,n3⟩:=q3
   obtain⟨m',hm,w3⟩:=hN σ3 H3 n3
   exact⟨m',hm,σ3,H3,I3,w3⟩
  | brk=>exact q3
  | ret v=>exact q3
 | false =>
  rw[if_neg Bool.false_ne_true]
  exact wpAny_execs_nil ⟨σ1,H2,I2,q2⟩
end
structure It where
 go:Nat->Hp->Prop
 yld:Nat->Hp->V->Hp->Prop
 stop:Nat->Hp->Prop
def FpOk (X:Cx) (pins:List (Addr×Obj)) (H:Hp) (b:Addr):Prop :=
 H b=none/\b≠X.env.locals/\b∉X.fs/\(b∈X.ex\/X.s_0.heap.objs.size<=b)/\(∀x c,X.env.cells.lookup x=some c->c≠b)/\∀p∈X.pn++pins,p.1≠b
theorem Inv.fpOk {X:Cx}{pins:List (Addr×Obj)}{σ:St}{H H':Hp}{s:Shared}{b:Addr}(I:Inv X pins σ H s) (hb:s.heap.objs.size<=b) (hn:H' b=none):FpOk X pins H' b:=by
 refine⟨hn,Nat.ne_of_gt (Nat.lt_of_lt_of_le I.lt hb),I.nofs hb,.inr (Nat.le_trans I.sz hb),λx c e z=>?_,λp hp z=>?_⟩
 ·obtain⟨v,q⟩:=I.cell x c e
  exact absurd (Nat.lt_of_lt_of_le q.lt (by rw[z];exact hb)) (Nat.lt_irrefl _)
 ·exact absurd (Nat.lt_of_lt_of_le (Heap.lt_size (I.pin p hp).1) (by rw[z];exact hb)) (Nat.lt_irrefl _)
structure Turn (P:Program) (w:World) (K:PySem.W.Frag) (tg:Expr) (J:It) (fp:List Addr) (it:Addr) (tn:Nat->Heap->Prop):Prop where
 mem:it∈fp
 obj:∀i h,tn i h->∀b∈fp,∃o,h.get? b=some o/\∀v,o.data≠.cell v
 keep:∀i h h',tn i h->(∀b∈fp,∀o,h.get? b=some o->h'.get? b=some o)->tn i h'
 item:∀(X:Cx),X.prog=P->X.w=w->X.K=K->X.calm=true->∀(i:Nat) (pins:List (Addr×Obj)) (s:Shared) (σ:St) (H:Hp) (E:Value->Shared->Prop),Inv X pins σ H s->(∀b∈fp,FpOk X pins H b)->tn i s.heap->J.go i H ->
  wpAny (model P w) X.A (pyNext (.ref it)) (λr s1=>∃u,r=some u /\
   wpAny (model P w) X.A (letOwnedTupleGo tg (.ref it) u) (λ_ s2=>∃x H',Inv X pins σ H' s2/\RelV x u/\J.yld i H x H'/\tn (i+1) s2.heap/\∀b∈fp,H' b=none) E s1) E s
 done:∀(X:Cx),X.prog=P->X.w=w->X.K=K->X.calm=true->∀(i:Nat) (pins:List (Addr×Obj)) (s:Shared) (σ:St) (H:Hp) (E:Value->Shared->Prop),Inv X pins σ H s->(∀b∈fp,FpOk X pins H b)->tn i s.heap->J.stop i H ->
  wpAny (model P w) X.A (pyNext (.ref it)) (λr s1=>r=none/\Inv X pins σ H s1) E s
 self:∀(A:Around) (i:Nat) (s:Shared) (Q:Value->Shared->Prop) (E:Value->Shared->Prop),tn i s.heap->Q (.ref it) s->wpAny (model P w) A (pyIter (.ref it)) Q E s
abbrev TI:=St->Hp->(It->Hp->Prop)->Prop
def PIE (X:Cx) (pins:List (Addr×Obj)) (σ:St) (tg:Expr) (R:It->Hp->Prop) (itv:Value) (s2:Shared):Prop :=
 ∃(it:Addr) (fp:List Addr) (tn:Nat->Heap->Prop) (J:It) (H':Hp),itv=.ref it/\Inv X pins σ H' s2/\Turn X.prog X.w X.K tg J fp it tn/\tn 0 s2.heap/\(∀b∈fp,FpOk X pins H' b)/\R J H'
def PI (X:Cx) (tg iter:Expr) (wi:TI):Prop :=
 ∀(pins:List (Addr×Obj)) (s:Shared) (σ:St) (H:Hp) (R:It->Hp->Prop),Inv X pins σ H s->wi σ H R ->
  wpAny (model X.prog X.w) X.A (eval iter X.env) (λv s1=>wpAny (model X.prog X.w) X.A (pyIter v) (PIE X pins σ tg R) X.xe s1) X.xe s
theorem go_of {M:Model}{A:Around}{E:Value->Shared->Prop}{s:Shared}{tg:Expr}{it:Addr}{u:Value}{o:Obj}{n:String}{vs:Array Value}{Q:Unit->Shared->Prop}(ho:s.heap.get? it=some o) (hc:o.cls=.type n) (hd:o.data=.fields vs)
  (hn:["enumerate","zip","dict_itemiterator","dict_reverseitemiterator","odict_iterator","itertools.zip_longest","itertools.pairwise"].contains n=false) (hQ:Q () s):wpAny M A (letOwnedTupleGo tg (.ref it) u) Q E s:=by
 unfold letOwnedTupleGo
 cases tg <;> first
  | exact wpAny_pure hQ
  | (cases u <;> first
    | exact wpAny_pure hQ
    | (refine wpAny_bind (wpAny_load ho ?_);rw[hc,hd];(show wpAny M A (if (["enumerate","zip","dict_itemiterator","dict_reverseitemiterator","odict_iterator","itertools.zip_longest","itertools.pairwise"].contains n&&vs[0]? == some (rawInt _))=true then _ else _) Q E s);rw[if_neg (by intro h;rw[hn,Bool.false_and]at h;cases h)];exact wpAny_pure hQ))
def Itl (K:PySem.W.Frag) (a:Addr):It :=
 ⟨λi H=>∃xs x,SqL K H a xs/\xs[i]?=some x,λi H x H'=>H'=H/\∀xs,SqL K H a xs->xs[i]?=some x,λi H=>∃xs,SqL K H a xs/\xs.length<=i⟩
def Itr (lo:Int) (n:Nat):It:=⟨λi _=>i<n,λi H x H'=>H'=H/\x=.int (lo+i),λi _=>n<=i⟩
theorem turn_list {P:Program}{w:World}{K:PySem.W.Frag}{tg:Expr}(a it:Addr):Turn P w K tg (Itl K a) [it] it (λi h=>h.IsListIter it a i) where
 mem:=by simp
 obj:=λi h st b hb=>by
  have e:b=it:=by simpa using hb
  subst e
  obtain⟨o,e,c,d⟩:=st
  exact⟨o,e,λv z=>by rw[d]at z;cases z⟩
 keep:=λi h h' st k=>st.at λo e=>k it (by simp) o e
 item:=by
  intro X hP hw hK hc i pins s σ H E I hf st hg
  subst hP hw hK
  obtain⟨xs,x,hq,hx⟩:=hg
  obtain⟨its,rv,p,hz⟩:=I.list hq
  obtain⟨u,hu,ru⟩:=rv.get hx
  obtain⟨f0,f1,f2,f3,f4,f5⟩:=hf it (by simp)
  refine wpAny_pyNext_list_item st p.isList (x:=u) (by simpa using hu) λh' st' sb=>?_
  have I1:Inv X pins σ H { s with heap:=h' }:=I.turned (t':=s.toks) (λb o hb e=>(sb.2 b hb).trans e) f0 f1 f3 f4 f5
  obtain⟨o,e,c,d⟩:=id st'
  exact⟨u,rfl,go_of (s:={ s with heap:=h' }) e c d (by decide) ⟨x,H,I1,ru,⟨rfl,λys hy=>by rw[I.list_inj hy hq];exact hx⟩,st',λb hb=>(hf b hb).1⟩⟩
 done:=by
  intro X hP hw hK hc i pins s σ H E I hf st hg
  subst hP hw hK
  obtain⟨xs,hq,hx⟩:=hg
  obtain⟨its,rv,p,hz⟩:=I.list hq
  obtain⟨f0,f1,f2,f3,f4,f5⟩:=hf it (by simp)
  have hl:=rv.length
  exact wpAny_pyNext_list_end (I.ok.hd hc) st p.isList (by simp;omega) λh' eb=>⟨rfl,I.turned (t':=s.toks) (λb o hb e=>eb b o hb e) f0 f1 f3 f4 f5⟩
 self:=λ_ _ _ _ _ st h=>wpAny_pyIter_listiter st h
theorem turn_range {P:Program}{w:World}{K:PySem.W.Frag}{tg:Expr}(it:Addr) (lo:Int) (n:Nat):Turn P w K tg (Itr lo n) [it] it (λi h=>IsRangeIter h it (lo+(i:Nat)*1) ((n:Int) - (i:Nat)) 1) where
 mem:=by simp
 obj:=λi h st b hb=>by
  have e:b=it:=by simpa using hb
  subst e
  exact⟨_,st,λv z=>by
   have z':Data.fields _=Data.cell v:=z
   cases z'⟩
 keep:=λi h h' st k=>k it (by simp) _ st
 item:=by
  intro X hP hw hK hc i pins s σ H E I hf st hg
  subst hP hw hK
  obtain⟨f0,f1,f2,f3,f4,f5⟩:=hf it (by simp)
  have W:=Walks.range (prog:=X.prog) (w:=X.w) (I.ok.hd hc) it lo 1 n
  refine W.item i s _ _ hg st λv h' tk hv st' kk=>?_
  obtain⟨t,rfl⟩:=hv
  have I1:Inv X pins σ H { s with heap:=h',toks:=tk }:=I.turned (λb o hb e=>kk b o (by simpa using hb) e) f0 f1 f3 f4 f5
  refine⟨_,rfl,go_of (s:={ s with heap:=h',toks:=tk }) (n:="range_iterator") st' rfl rfl (by decide) ⟨.int (lo+i),H,I1,⟨t,?_⟩,⟨rfl,rfl⟩,st',λb hb=>(hf b hb).1⟩⟩
  rw[Int.mul_one]
 done:=by
  intro X hP hw hK hc i pins s σ H E I hf st hg
  subst hP hw hK
  obtain⟨f0,f1,f2,f3,f4,f5⟩:=hf it (by simp)
  exact wpAny_pyNext_range_end (I.ok.hd hc) st (by have:n<=i:=hg;omega) λh' eb=>⟨rfl,I.turned (t':=s.toks) (λb o hb e=>eb b o hb e) f0 f1 f3 f4 f5⟩
 self:=λ_ _ _ _ _ st h=>wpAny_pyIter_rangeiter st h
end L2
namespace L2
open PySem PySem.Spec PyProof.Rows
section
variable {X:Cx}{tg:Expr}
def iList (K:PySem.W.Frag) (tl:TE):TI:=λσ H R=>tl σ H λx H1=>∃a,x=.ref a/\(∃xs,SqL K H1 a xs)/\R (Itl K a) H1
theorem pi_list {l:Expr}{tl:TE}(hl:PE X l tl):PI X tg l (iList X.K tl):=by
 intro pins s σ H R I h
 refine thn (hl pins s σ H _ I h) λv s1 ⟨x,H1,I1,r1,q1⟩=>?_
 obtain⟨a,e,⟨xs,hq⟩,q⟩:=q1
 subst e
 cases r1
 obtain⟨its,rv,p,hz⟩:=I1.list hq
 refine wpAny_pyIter_list p.isList ?_
 refine⟨s1.heap.objs.size,[s1.heap.objs.size],_,_,H1,rfl,I1.kept (t':=s1.toks) λb o e=>Heap.get?_push_of_some _ e,turn_list a _,⟨_,Heap.get?_push_size _ rfl,rfl,rfl⟩,λb hb=>?_,q⟩
 have e:b=s1.heap.objs.size:=by simpa using hb
 subst e
 exact I1.fpOk (Nat.le_refl _) (I1.hok.fresh (Nat.le_refl _))
theorem range_it {pins:List (Addr×Obj)}{σ:St}{H:Hp}{s:Shared}{R:It->Hp->Prop}{E:Value->Shared->Prop}{lo hi:Int}{t u v:Tok}{tk:Nat}(I:Inv X pins σ H s) (h1:-(2 ^ 62)<=lo) (h2:lo<2 ^ 62) (h3:-(2 ^ 62)<=hi) (h4:hi<2 ^ 62)
  (q:R (Itr lo (hi - lo).toNat) H):wpAny (model X.prog X.w) X.A (pyIter (.ref s.heap.objs.size)) (PIE X pins σ tg R) E { s with heap:=s.heap.push { cls:=.type "range",data:=.fields #[.int lo t,.int hi u,.int 1 v] },toks:=tk }:=by
 refine wpAny_pyIter_range (IsRange.new ..) (small_one h1 h2 h3 h4) ?_
 have I1:Inv X pins σ H { s with heap:=s.heap.push { cls:=.type "range",data:=.fields #[.int lo t,.int hi u,.int 1 v] },toks:=tk }:=I.kept λb o e=>Heap.get?_push_of_some _ e
 refine⟨(s.heap.push { cls:=.type "range",data:=.fields #[.int lo t,.int hi u,.int 1 v] }).objs.size,[(s.heap.push { cls:=.type "range",data:=.fields #[.int lo t,.int hi u,.int 1 v] }).objs.size],_,_,H,rfl,
  I1.kept (t':=tk) λb o e=>Heap.get?_push_of_some _ e,turn_range _ lo (hi - lo).toNat,?_,λb hb=>?_,q⟩
 ·have e1:lo+((0:Nat):Int)*1=lo:=by simp
  have e2:(((hi - lo).toNat:Nat):Int) - ((0:Nat):Int)=Builtin.Range.rangeSize lo hi 1:=by rw[rangeSize_one];split <;> omega
  show IsRangeIter _ _ (lo+((0:Nat):Int)*1) ((((hi - lo).toNat:Nat):Int) - ((0:Nat):Int)) 1
  rw[e1,e2]
  exact Heap.get?_push_size _ rfl
 ·have e:b=(s.heap.push { cls:=.type "range",data:=.fields #[.int lo t,.int hi u,.int 1 v] }).objs.size:=by simpa using hb
  subst e
  exact I1.fpOk (Nat.le_refl _) (I1.hok.fresh (Nat.le_refl _))
def iRng1 (ta:TA):TI:=λσ H R=>ta σ H λvs H1=>∃j:Int,vs=[.int j]/\-(2 ^ 62)<=j/\j<2 ^ 62/\R (Itr 0 j.toNat) H1
def iRng2 (ta:TA):TI:=λσ H R=>ta σ H λvs H1=>∃i j:Int,vs=[.int i,.int j]/\(-(2 ^ 62)<=i/\i<2 ^ 62/\-(2 ^ 62)<=j/\j<2 ^ 62)/\R (Itr i (j - i).toNat) H1
theorem pi_range1 {a:Expr}{ta:TA}{p pos:Pos}(hg:Gl X "range") (hm:X.mg "range"=none) (ha:PA X [a] ta) (hs:starEach [a] X.env=[(false,eval a X.env)]:=by rfl):PI X tg (.Call (.Name "range" p) [a] [] pos) (iRng1 ta):=by
 intro pins s σ H R I h
 refine Call_ (ld_blt I hg hm boot_range (PyProof.Rows.callWith_type1 (thn (ha pos pins s σ H _ I h) λus s1 ⟨vs,H1,I1,r1,q1⟩=>?_) hs rfl))
 obtain⟨j,e,q1,q2,q⟩:=q1
 subst e
 cases r1 with
 | cons r rr =>
  cases rr
  obtain⟨t,rfl⟩:=r
  exact call_range_1 (range_it I1 (by omega) (by omega) q1 q2 (by simpa using q))
theorem pi_range2 {a b:Expr}{ta:TA}{p pos:Pos}(hg:Gl X "range") (hm:X.mg "range"=none) (ha:PA X [a,b] ta) (hs:starEach [a,b] X.env=[(false,eval a X.env),(false,eval b X.env)]:=by rfl) (hs2:starEach [b] X.env=[(false,eval b X.env)]:=by rfl) :
  PI X tg (.Call (.Name "range" p) [a,b] [] pos) (iRng2 ta):=by
 intro pins s σ H R I h
 refine Call_ (ld_blt I hg hm boot_range (PyProof.Rows.callWith_type1 (thn (ha pos pins s σ H _ I h) λus s1 ⟨vs,H1,I1,r1,q1⟩=>?_) (by rw[hs,hs2]) (by rw[hs2];rfl)))
 obtain⟨i,j,e,⟨q1,q2,q3,q4⟩,q⟩:=q1
 subst e
 cases r1 with
 | cons r rr =>
  cases rr with
  | cons r' rr =>
   cases rr
   obtain⟨t,rfl⟩:=r
   obtain⟨t',rfl⟩:=r'
   exact call_range_2 (range_it I1 q1 q2 q3 q4 q)
def tFor (wi:TI) (g:TG) (tb:TS):TS:=λD σ H=>wi σ H λJ H1=>∃W:Nat->Nat->St->Hp->Prop,(∃m,W 0 m σ H1)/\∀i m σ H,W i m σ H ->
 (J.stop i H/\D.nx σ H)\/(J.go i H/\∃N:St->Hp->Prop,(∀σ' H',N σ' H'->∃m',m'<m/\W (i+1) m' σ' H')/\∀x H',J.yld i H x H'->g x σ H' λσ2 H2=>tb { D with nx:=N,ct:=N,bk:=D.nx } σ2 H2)
def pinsAt (fp:List Addr) (h:Heap):List (Addr×Obj):=fp.filterMap λb=>(h.get? b).map λo=>(b,o)
theorem mem_pinsAt {fp:List Addr}{h:Heap}{b:Addr}{o:Obj}(hb:b∈fp) (e:h.get? b=some o):(b,o)∈pinsAt fp h:=List.mem_filterMap.mpr ⟨b,hb,by rw[e];rfl⟩
theorem of_pinsAt {fp:List Addr}{h:Heap}{p:Addr×Obj}(hp:p∈pinsAt fp h):p.1∈fp/\h.get? p.1=some p.2:=by
 obtain⟨b,hb,e⟩:=List.mem_filterMap.mp hp
 cases q:h.get? b with
 | none=>rw[q]at e;cases e
 | some o =>
  rw[q]at e
  have e':(b,o)=p:=Option.some.inj e
  subst e'
  exact⟨hb,q⟩
theorem Inv.pinned {pins:List (Addr×Obj)}{σ:St}{H:Hp}{s:Shared}{fp:List Addr}(I:Inv X pins σ H s) (hf:∀b∈fp,FpOk X pins H b) (ho:∀b∈fp,∃o,s.heap.get? b=some o/\∀v,o.data≠.cell v):Inv X (pins++pinsAt fp s.heap) σ H s :=
 I.pins_of λp hp=>(List.mem_append.mp hp).elim (λz=>I.pin p (List.mem_append_right _ z)) λz=>by
  obtain⟨hb,e⟩:=of_pinsAt z
  obtain⟨f0,f1,f2,_⟩:=hf p.1 hb
  obtain⟨o,e',d⟩:=ho p.1 hb
  rw[e]at e';cases e'
  exact⟨e,f0,f1,f2,d⟩
theorem Inv.unpinned {pins pl:List (Addr×Obj)}{σ:St}{H:Hp}{s:Shared}(I:Inv X (pins++pl) σ H s):Inv X pins σ H s:=I.pins_of λp hp=>I.pin p (List.mem_append_right _ (List.mem_append_left _ hp))
theorem ps_for {iter:Expr}{body:List Stmt}{wi:TI}{g:TG}{tb:TS}{pos:Pos}(hp:PassesOwn (model X.prog X.w) X.A X.env X.xe) (hc:X.calm=true) (hi:PI X tg iter wi) (hg:PG X tg g) (hb:PSs X body tb)
  (hs:∀x,foldedSetIterable iter X.env x=pure x:=by intro _;rfl):PS X (.For tg iter body [] pos) (tFor wi g tb):=by
 intro pins s σ H D I h
 refine wpAny_For (thn (hi pins s σ H _ I h) λv s1 h1=>thn h1 λitv s2 h2=>?_) hs
 obtain⟨it,fp,tn,J,H2,e,I2,T,st2,f2,W,⟨m0,w0⟩,turn⟩:=h2
 subst e
 have stat:∀ {H':Hp},(∀b∈fp,H' b=none)->∀b∈fp,FpOk X pins H' b:=λhn b hb=>⟨hn b hb,(f2 b hb).2⟩
 refine codeAny_forLoop_any (λn s'=>∃i σ' H',Inv X pins σ' H' s'/\tn i s'.heap/\(∀b∈fp,H' b=none)/\W i n σ' H') ?_ m0 ⟨0,σ,H2,I2,st2,λb hb=>(f2 b hb).1,w0⟩
 rintro n s3 ⟨i,σ3,H3,I3,st3,fr3,w3⟩
 rcases turn i n σ3 H3 w3 with⟨stop,qn⟩|⟨go,N,hN,step⟩
 ·refine wpAny_passesOwn hp (thn (T.done X rfl rfl rfl hc i pins s3 σ3 H3 X.xe I3 (stat fr3) st3 stop) λr s4 ⟨hr,I4⟩=>?_)
  subst hr
  exact wpAny_execs_nil ⟨σ3,H3,I4,qn⟩
 ·refine wpAny_passesOwn hp (thn (T.item X rfl rfl rfl hc i pins s3 σ3 H3 X.xe I3 (stat fr3) st3 go) λr s4 ⟨u,hr,h4⟩=>?_)
  subst hr
  refine wpAny_passesOwn hp (thn h4 λ_ s5 ⟨x,H5,I5,r5,y5,st5,fr5⟩=>?_)
  have I5':=I5.pinned (stat fr5) (T.obj _ _ st5)
  refine wpAny_passesOwn hp (thn (hg _ s5 σ3 H5 x u _ I5' r5 (step x H5 y5)) λ_ s6 ⟨σ6,H6,I6,q6⟩=>?_)
  refine wpAny_passesOwn hp (thn (hb _ s6 σ6 H6 _ I6 q6) λf s7 q7=>?_)
  have again:∀ {σ7:St}{H7:Hp},Inv X (pins++pinsAt fp s5.heap) σ7 H7 s7->N σ7 H7->∃m,m<n/\∃i σ' H',Inv X pins σ' H' s7/\tn i s7.heap/\(∀b∈fp,H' b=none)/\W i m σ' H':=λ{σ7 H7} I7 n7=>by
   obtain⟨m',hm,w7⟩:=hN σ7 H7 n7
   refine⟨m',hm,i+1,σ7,H7,I7.unpinned,T.keep _ _ _ st5 λb hb o e=>(I7.pin (b,o) (List.mem_append_right _ (List.mem_append_right _ (mem_pinsAt hb e)))).1,λb hb=>?_,w7⟩
   obtain⟨o,e,d⟩:=T.obj _ _ st5 b hb
   exact (I7.pin (b,o) (List.mem_append_right _ (List.mem_append_right _ (mem_pinsAt hb e)))).2.1
  cases f with
  | next=>obtain⟨σ7,H7,I7,n7⟩:=q7;exact again I7 n7
  | cont=>obtain⟨σ7,H7,I7,n7⟩:=q7;exact again I7 n7
  | brk=>obtain⟨σ7,H7,I7,q7⟩:=q7;exact⟨σ7,H7,I7.unpinned,q7⟩
  | ret v=>obtain⟨x7,σ7,H7,I7,r7,q7⟩:=q7;exact⟨x7,σ7,H7,I7.unpinned,r7,q7⟩
end
theorem for_list {K:PySem.W.Frag}{a:Addr}{xs:List V}{g:TG}{tb:TS}{D:Ends}{σ:St}{H:Hp}(Pv:Nat->St->Hp->Prop) (h0:Pv 0 σ H) (hl:∀i σ H,i<=xs.length->Pv i σ H->SqL K H a xs)
  (hs:∀i x σ H,xs[i]?=some x->Pv i σ H->g x σ H λσ2 H2=>tb { D with nx:=Pv (i+1),ct:=Pv (i+1),bk:=D.nx } σ2 H2) (hd:∀σ H,Pv xs.length σ H->D.nx σ H) :
  ∃W:Nat->Nat->St->Hp->Prop,(∃m,W 0 m σ H)/\∀i m σ H,W i m σ H ->
   ((Itl K a).stop i H/\D.nx σ H)\/((Itl K a).go i H/\∃N:St->Hp->Prop,(∀σ' H',N σ' H'->∃m',m'<m/\W (i+1) m' σ' H')/\∀x H',(Itl K a).yld i H x H'->g x σ H' λσ2 H2=>tb { D with nx:=N,ct:=N,bk:=D.nx } σ2 H2):=by
 refine⟨λi m σ H=>m=xs.length - i/\i<=xs.length/\Pv i σ H,⟨xs.length,by simp,Nat.zero_le _,h0⟩,?_⟩
 rintro i m σ H ⟨rfl,hi,p⟩
 have q:=hl i σ H hi p
 by_cases hlt:i<xs.length
 ·refine .inr ⟨⟨xs,xs[i],q,by simp[hlt]⟩,Pv (i+1),λσ' H' p'=>⟨xs.length - (i+1),by omega,rfl,hlt,p'⟩,λx H' y=>?_⟩
  obtain⟨e,y⟩:=y
  subst e
  exact hs i x σ _ (y xs q) p
 ·have e:i=xs.length:=by omega
  subst e
  exact .inl ⟨⟨xs,q,Nat.le_refl _⟩,hd σ H p⟩
theorem for_range {lo:Int}{n:Nat}{g:TG}{tb:TS}{D:Ends}{σ:St}{H:Hp}(Pv:Nat->St->Hp->Prop) (h0:Pv 0 σ H)
  (hs:∀i σ H,i<n->Pv i σ H->g (.int (lo+i)) σ H λσ2 H2=>tb { D with nx:=Pv (i+1),ct:=Pv (i+1),bk:=D.nx } σ2 H2) (hd:∀σ H,Pv n σ H->D.nx σ H) :
  ∃W:Nat->Nat->St->Hp->Prop,(∃m,W 0 m σ H)/\∀i m σ H,W i m σ H ->
   ((Itr lo n).stop i H/\D.nx σ H)\/((Itr lo n).go i H/\∃N:St->Hp->Prop,(∀σ' H',N σ' H'->∃m',m'<m/\W (i+1) m' σ' H')/\∀x H',(Itr lo n).yld i H x H'->g x σ H' λσ2 H2=>tb { D with nx:=N,ct:=N,bk:=D.nx } σ2 H2):=by
 refine⟨λi m σ H=>m=n - i/\i<=n/\Pv i σ H,⟨n,by simp,Nat.zero_le _,h0⟩,?_⟩
 rintro i m σ H ⟨rfl,hi,p⟩
 by_cases hlt:i<n
 ·refine .inr ⟨hlt,Pv (i+1),λσ' H' p'=>⟨n - (i+1),by omega,rfl,hlt,p'⟩,λx H' y=>?_⟩
  obtain⟨e,y⟩:=y
  subst e y
  exact hs i σ _ hlt p
 ·have e:i=n:=by omega
  subst e
  exact .inl ⟨Nat.le_refl _,hd σ H p⟩
end L2
namespace L2
open PySem PySem.Spec PyProof.Rows
abbrev R2:=V->V->Hp->VK->Prop
def OpR (X:Cx) (f:Value->Value->Sem Value) (r:R2):Prop :=
 ∀(pins:List (Addr×Obj)) (s:Shared) (σ:St) (H:Hp) (x y:V) (v u:Value) (Q:VK),Inv X pins σ H s->RelV x v->RelV y u->r x y H Q ->
  wpAny (model X.prog X.w) X.A (f v u) (EP X pins σ Q) X.xe s
def UnR (X:Cx) (f:Value->Sem Value) (r:V->Hp->VK->Prop):Prop :=
 ∀(pins:List (Addr×Obj)) (s:Shared) (σ:St) (H:Hp) (x:V) (v:Value) (Q:VK),Inv X pins σ H s->RelV x v->r x H Q ->
  wpAny (model X.prog X.w) X.A (f v) (EP X pins σ Q) X.xe s
def CallR (X:Cx) (f:Value) (r:List V->Hp->VK->Prop):Prop :=
 ∀(pins:List (Addr×Obj)) (s:Shared) (σ:St) (H:Hp) (xs:List V) (us:List Value) (Q:VK),Inv X pins σ H s->Vals xs us->r xs H Q ->
  wpAny (model X.prog X.w) X.A (call f us) (EP X pins σ Q) X.xe s
def tOp (r:R2) (ta tb:TE):TE:=λσ H Q=>ta σ H λx H1=>tb σ H1 λy H2=>r x y H2 Q
def tUn (r:V->Hp->VK->Prop) (ta:TE):TE:=λσ H Q=>ta σ H λx H1=>r x H1 Q
def rI (C:Int->Int->Prop) (g:Int->Int->V):R2:=λx y H Q=>∃i j,x=.int i/\y=.int j/\C i j/\Q (g i j) H
def rI0 (g:Int->Int->V):R2:=λx y H Q=>∃i j,x=.int i/\y=.int j/\Q (g i j) H
def rU (g:Int->V):V->Hp->VK->Prop:=λx H Q=>∃i,x=.int i/\Q (g i) H
section
variable {X:Cx}{a b c:Expr}{ta tb tc:TE}{pos:Pos}
theorem binT (ha:PE X a ta) (hb:PE X b tb){pins:List (Addr×Obj)}{s:Shared}{σ:St}{H:Hp}{R:V->V->Hp->Prop}(I:Inv X pins σ H s)
  (h:ta σ H λx H1=>tb σ H1 λy H2=>R x y H2){Q:Value->Shared->Prop}{f:Value->Value->Sem Value}
  (hf:∀v u s2 x y H2,Inv X pins σ H2 s2->RelV x v->RelV y u->R x y H2->wpAny (model X.prog X.w) X.A (f v u) Q X.xe s2) :
  wpAny (model X.prog X.w) X.A (eval a X.env) (λv s₁=>wpAny (model X.prog X.w) X.A (eval b X.env) (λu s₂=>wpAny (model X.prog X.w) X.A (f v u) Q X.xe s₂) X.xe s₁) X.xe s:=by
 refine thn (ha pins s σ H _ I h) λv s1 ⟨x,H1,I1,r1,q1⟩=>?_
 refine thn (hb pins s1 σ H1 _ I1 q1) λu s2 ⟨y,H2,I2,r2,q2⟩=>?_
 exact hf v u s2 x y H2 I2 r1 r2 q2
theorem pe_op {op:Operator}{r:R2}(ho:OpR X (binaryOp op) r) (ha:PE X a ta) (hb:PE X b tb):PE X (.BinOp a op b pos) (tOp r ta tb):=by
 intro pins s σ H Q I h
 exact wpAny_BinOp (binT ha hb I h λv u s2 x y H2 I2 rx ry q=>ho pins s2 σ H2 x y v u Q I2 rx ry q)
theorem pe_un {op:UnaryOp}{r:V->Hp->VK->Prop}(ho:UnR X (unaryOp op) r) (ha:PE X a ta):PE X (.UnaryOp op a pos) (tUn r ta):=by
 intro pins s σ H Q I h
 exact UnaryOp_ (thn (ha pins s σ H _ I h) λv s1 ⟨x,H1,I1,r1,q1⟩=>ho pins s1 σ H1 x v Q I1 r1 q1)
theorem opI {f:Value->Value->Sem Value}{C:Int->Int->Prop}{g:Int->Int->Int}
  (rule:∀(i j:Int) (t u:Tok) (s:Shared) (Q:Value->Shared->Prop) (E:Value->Shared->Prop),C i j->Q (.int (g i j) s.toks) { s with toks:=s.toks+1 }->wpAny (model X.prog X.w) X.A (f (.int i t) (.int j u)) Q E s) :
  OpR X f (rI C λi j=>.int (g i j)):=by
 intro pins s σ H x y v u Q I rx ry h
 obtain⟨i,j,rfl,rfl,hc,q⟩:=h
 obtain⟨t,rfl⟩:=rx
 obtain⟨t',rfl⟩:=ry
 exact rule i j t t' s _ _ hc ⟨.int (g i j),H,I.tok _,⟨_,rfl⟩,q⟩
theorem opI0 {f:Value->Value->Sem Value}{g:Int->Int->Int}
  (rule:∀(i j:Int) (t u:Tok) (s:Shared) (Q:Value->Shared->Prop) (E:Value->Shared->Prop),Q (.int (g i j) s.toks) { s with toks:=s.toks+1 }->wpAny (model X.prog X.w) X.A (f (.int i t) (.int j u)) Q E s) :
  OpR X f (rI0 λi j=>.int (g i j)):=by
 intro pins s σ H x y v u Q I rx ry h
 obtain⟨i,j,rfl,rfl,q⟩:=h
 obtain⟨t,rfl⟩:=rx
 obtain⟨t',rfl⟩:=ry
 exact rule i j t t' s _ _ ⟨.int (g i j),H,I.tok _,⟨_,rfl⟩,q⟩
theorem opB0 {f:Value->Value->Sem Value}{g:Int->Int->Bool}
  (rule:∀(i j:Int) (t u:Tok) (s:Shared) (Q:Value->Shared->Prop) (E:Value->Shared->Prop),Q (.bool (g i j)) s->wpAny (model X.prog X.w) X.A (f (.int i t) (.int j u)) Q E s) :
  OpR X f (rI0 λi j=>.bl (g i j)):=by
 intro pins s σ H x y v u Q I rx ry h
 obtain⟨i,j,rfl,rfl,q⟩:=h
 obtain⟨t,rfl⟩:=rx
 obtain⟨t',rfl⟩:=ry
 exact rule i j t t' s _ _ ⟨.bl (g i j),H,I,rfl,q⟩
def CDiv (i j:Int):Prop:=0<j/\j<1073741824
def CMul (i j:Int):Prop:=(-(2 ^ 64)<i/\i<2 ^ 64)\/(-(2 ^ 64)<j/\j<2 ^ 64)
theorem CMul.ok {i j:Int}(h:CMul i j):IntMulOk i j:=by
 rcases h with⟨h1,h2⟩|⟨h1,h2⟩
 ·exact .of_left (intBits_le_64 h1 h2)
 ·exact .of_right (intBits_le_64 h1 h2)
theorem op_add:OpR X (binaryOp .Add) (rI0 λi j=>.int (i+j)):=opI0 λ_ _ _ _ _ _ _ q=>add_int q
theorem op_sub:OpR X (binaryOp .Sub) (rI0 λi j=>.int (i - j)):=opI0 λ_ _ _ _ _ _ _ q=>sub_int q
theorem op_mul:OpR X (binaryOp .Mult) (rI CMul λi j=>.int (i*j)):=opI λ_ _ _ _ _ _ _ hc q=>mul_int q hc.ok
theorem op_fdiv:OpR X (binaryOp .FloorDiv) (rI CDiv λi j=>.int (i / j)):=opI λi j _ _ _ _ _ hc q=>by
 have h1:(0:Int)<j:=hc.1
 have h2:j<1073741824:=hc.2
 exact floordiv_int (by omega) (by rw[Int.fdiv_eq_ediv_of_nonneg i (by omega)];exact q) (.inl (PyProof.noPylong_small (by omega)))
theorem op_mod:OpR X (binaryOp .Mod) (rI (λ_ j=>0<j) λi j=>.int (i % j)):=opI λi j _ _ _ _ _ hc q=>by
 have h1:(0:Int)<j:=hc
 exact mod_int' (by omega) (by rw[Int.fmod_eq_emod_of_nonneg i (by omega)];exact q)
theorem unI {f:Value->Sem Value}{g:Int->Int}
  (rule:∀(i:Int) (t:Tok) (s:Shared) (Q:Value->Shared->Prop) (E:Value->Shared->Prop),Q (.int (g i) s.toks) { s with toks:=s.toks+1 }->wpAny (model X.prog X.w) X.A (f (.int i t)) Q E s) :
  UnR X f (rU λi=>.int (g i)):=by
 intro pins s σ H x v Q I rx h
 obtain⟨i,rfl,q⟩:=h
 obtain⟨t,rfl⟩:=rx
 exact rule i t s _ _ ⟨.int (g i),H,I.tok _,⟨_,rfl⟩,q⟩
theorem un_neg:UnR X (unaryOp .USub) (rU λi=>.int (-i)):=unI λ_ _ _ _ _ q=>neg_int q
end
def scal:V->V->Bool
 | .non,.non=>true | .non,.int _=>true | .int _,.non=>true | .non,.bl _=>true | .bl _,.non=>true | .non,.str _=>true | .str _,.non=>true
 | .int _,.int _=>true | .bl _,.bl _=>true | .str _,.str _=>true | .byt _,.byt _=>true
 | .int _,.str _=>true | .str _,.int _=>true | .bl _,.str _=>true | .str _,.bl _=>true
 | _,_=>false
def rEq:R2:=λx y H Q=>scal x y=true/\Q (.bl (decide (x=y))) H
def rNe:R2:=λx y H Q=>scal x y=true/\Q (.bl (!decide (x=y))) H
theorem dec_int {i j:Int}:decide (V.int i=V.int j)=(i == j):=by
 rw[Bool.eq_iff_iff]
 simp
theorem dec_bl {i j:Bool}:decide (V.bl i=V.bl j)=(i == j):=by
 rw[Bool.eq_iff_iff]
 simp
theorem dec_str {i j:Str}:decide (V.str i=V.str j)=(i == j):=by
 rw[Bool.eq_iff_iff]
 simp
theorem dec_byt {i j:Array UInt8}:decide (V.byt i=V.byt j)=(i.toList == j.toList):=by
 rw[Bool.eq_iff_iff]
 cases i
 cases j
 simp
section
variable {X:Cx}{a b c:Expr}{ta tb tc:TE}{pos:Pos}
theorem fin_bl {pins:List (Addr×Obj)}{σ:St}{H:Hp}{s:Shared}{Q:VK}{k k':Bool}(I:Inv X pins σ H s) (q:Q (.bl k) H) (e:k=k'):EP X pins σ Q (.bool k') s:=by
 subst e
 exact⟨.bl k,H,I,rfl,q⟩
theorem op_eq:OpR X (compareOp .Eq) rEq:=by
 intro pins s σ H x y v u Q I rx ry h
 obtain⟨hs,q⟩:=h
 cases x with
 | non =>
  cases rx
  cases y with
  | non=>cases ry;exact PySem.EqNone.eq_none_none (fin_bl I q (by simp))
  | bl j=>cases ry;exact PySem.EqNone.eq_none_bool (fin_bl I q (by simp))
  | int j=>obtain⟨t',rfl⟩:=ry;exact PySem.EqNone.eq_none_int (fin_bl I q (by simp))
  | str j=>obtain⟨t',rfl⟩:=ry;exact PySem.EqNone.eq_none_str (fin_bl I q (by simp))
  | _=>exact absurd (show false=true from hs) Bool.false_ne_true
 | bl i =>
  cases rx
  cases y with
  | non=>cases ry;exact PySem.EqNone.eq_bool_none (fin_bl I q (by simp))
  | bl j=>cases ry;exact eq_bool (fin_bl I q dec_bl)
  | str j=>obtain⟨t',rfl⟩:=ry;exact PySem.EqMixed.eq_bool_str (fin_bl I q (by simp))
  | _=>exact absurd (show false=true from hs) Bool.false_ne_true
 | int i =>
  obtain⟨t,rfl⟩:=rx
  cases y with
  | non=>cases ry;exact PySem.EqNone.eq_int_none (fin_bl I q (by simp))
  | int j=>obtain⟨t',rfl⟩:=ry;exact eq_int (fin_bl I q dec_int)
  | str j=>obtain⟨t',rfl⟩:=ry;exact PySem.EqMixed.eq_int_str (fin_bl I q (by simp))
  | _=>exact absurd (show false=true from hs) Bool.false_ne_true
 | str i =>
  obtain⟨t,rfl⟩:=rx
  cases y with
  | non=>cases ry;exact PySem.EqNone.eq_str_none (fin_bl I q (by simp))
  | bl j=>cases ry;exact PySem.EqMixed.eq_str_bool (fin_bl I q (by simp))
  | int j=>obtain⟨t',rfl⟩:=ry;exact PySem.EqMixed.eq_str_int (fin_bl I q (by simp))
  | str j=>obtain⟨t',rfl⟩:=ry;exact eq_str (fin_bl I q dec_str)
  | _=>exact absurd (show false=true from hs) Bool.false_ne_true
 | byt i =>
  obtain⟨t,rfl⟩:=rx
  cases y with
  | byt j=>obtain⟨t',rfl⟩:=ry;exact PySem.W.eq_bytes (fin_bl I q dec_byt)
  | _=>exact absurd (show false=true from hs) Bool.false_ne_true
 | _=>cases y <;> exact absurd (show false=true from hs) Bool.false_ne_true
theorem op_ne:OpR X (compareOp .NotEq) rNe:=by
 intro pins s σ H x y v u Q I rx ry h
 obtain⟨hs,q⟩:=h
 cases x with
 | non =>
  cases rx
  cases y with
  | non=>cases ry;exact PySem.EqNone.ne_none_none (fin_bl I q (by simp))
  | bl j=>cases ry;exact PySem.EqNone.ne_none_bool (fin_bl I q (by simp))
  | int j=>obtain⟨t',rfl⟩:=ry;exact PySem.EqNone.ne_none_int (fin_bl I q (by simp))
  | str j=>obtain⟨t',rfl⟩:=ry;exact PySem.EqNone.ne_none_str (fin_bl I q (by simp))
  | _=>exact absurd (show false=true from hs) Bool.false_ne_true
 | bl i =>
  cases rx
  cases y with
  | non=>cases ry;exact PySem.EqNone.ne_bool_none (fin_bl I q (by simp))
  | bl j=>cases ry;exact ne_bool (fin_bl I q (congrArg not dec_bl))
  | str j=>obtain⟨t',rfl⟩:=ry;exact PySem.EqMixed.ne_bool_str (fin_bl I q (by simp))
  | _=>exact absurd (show false=true from hs) Bool.false_ne_true
 | int i =>
  obtain⟨t,rfl⟩:=rx
  cases y with
  | non=>cases ry;exact PySem.EqNone.ne_int_none (fin_bl I q (by simp))
  | int j=>obtain⟨t',rfl⟩:=ry;exact ne_int (fin_bl I q (congrArg not dec_int))
  | str j=>obtain⟨t',rfl⟩:=ry;exact PySem.EqMixed.ne_int_str (fin_bl I q (by simp))
  | _=>exact absurd (show false=true from hs) Bool.false_ne_true
 | str i =>
  obtain⟨t,rfl⟩:=rx
  cases y with
  | non=>cases ry;exact PySem.EqNone.ne_str_none (fin_bl I q (by simp))
  | bl j=>cases ry;exact PySem.EqMixed.ne_str_bool (fin_bl I q (by simp))
  | int j=>obtain⟨t',rfl⟩:=ry;exact PySem.EqMixed.ne_str_int (fin_bl I q (by simp))
  | str j=>obtain⟨t',rfl⟩:=ry;exact ne_str (fin_bl I q (congrArg not dec_str))
  | _=>exact absurd (show false=true from hs) Bool.false_ne_true
 | byt i =>
  obtain⟨t,rfl⟩:=rx
  cases y with
  | byt j=>obtain⟨t',rfl⟩:=ry;exact PySem.W.ne_bytes (fin_bl I q (congrArg not dec_byt))
  | _=>exact absurd (show false=true from hs) Bool.false_ne_true
 | _=>cases y <;> exact absurd (show false=true from hs) Bool.false_ne_true
theorem op_lt:OpR X (compareOp .Lt) (rI0 λi j=>.bl (decide (i<j))):=opB0 λ_ _ _ _ _ _ _ q=>lt_int q
theorem op_le:OpR X (compareOp .LtE) (rI0 λi j=>.bl (decide (i<=j))):=opB0 λ_ _ _ _ _ _ _ q=>le_int q
theorem op_gt:OpR X (compareOp .Gt) (rI0 λi j=>.bl (decide (j<i))):=opB0 λ_ _ _ _ _ _ _ q=>gt_int q
theorem op_ge:OpR X (compareOp .GtE) (rI0 λi j=>.bl (decide (j<=i))):=opB0 λ_ _ _ _ _ _ _ q=>ge_int q
theorem qqg (b:Expr){op:CmpOp}(h:op≠.In:=by decide) (h2:op≠.NotIn:=by decide):behindInMarks op b=false:=by
 have e1:(op == CmpOp.In)=false:=by cases op <;> first | rfl | exact absurd rfl h
 have e2:(op == CmpOp.NotIn)=false:=by cases op <;> first | rfl | exact absurd rfl h2
 cases b <;> simp[behindInMarks,e1,e2]
theorem pe_cmpR {op:CmpOp}{r:R2}(ho:OpR X (compareOp op) r) (ha:PE X a ta) (hb:PE X b tb) (hm:behindInMarks op b=false):PE X (.Compare a [op] [b] pos) (tOp r ta tb):=by
 intro pins s σ H Q I h
 exact wpAny_Compare1 (binT ha hb I h λv u s2 x y H2 I2 rx ry q=>ho pins s2 σ H2 x y v u Q I2 rx ry q) hm
def tTest (t:TE):TT:=λσ H Q=>t σ H λx H'=>∃k,x=.bl k/\Q k H'
theorem qqh {op:CmpOp}{r:R2}(ho:OpR X (compareOp op) r) (ha:PE X a ta) (hb:PE X b tb) (hm:behindInMarks op b=false):PT X (.Compare a [op] [b] pos) (tTest (tOp r ta tb)):=by
 intro pins s σ H Q I h
 refine wpAny_isTrue_Compare1 (thn (ha pins s σ H _ I h) λv s1 ⟨x,H1,I1,r1,q1⟩=>thn (hb pins s1 σ H1 _ I1 q1) λu s2 ⟨y,H2,I2,r2,q2⟩ =>
  thn (ho pins s2 σ H2 x y v u _ I2 r1 r2 q2) λc s3 ⟨z,H3,I3,r3,k,e,q3⟩=>?_) hm
 subst e
 cases r3
 exact wpAny_truthy_bool ⟨H3,I3,q3⟩
theorem line63:(sizeLine:Nat)<2 ^ 63:=by rw[sizeLine_eq];decide
theorem op_add_str:OpR X (binaryOp .Add) (λx y H Q=>∃i j,x=.str i/\y=.str j/\i.length+j.length<=sizeLine/\Q (.str (i++j)) H):=by
 intro pins s σ H x y v u Q I rx ry h
 obtain⟨i,j,rfl,rfl,hz,q⟩:=h
 obtain⟨t,rfl⟩:=rx
 obtain⟨t',rfl⟩:=ry
 exact add_str (λt' tk=>⟨.str (i++j),H,I.tok _,⟨_,rfl⟩,q⟩) hz
theorem vals1 {x:V}{us:List Value}(r:Vals [x] us):∃u,us=[u]/\RelV x u:=by
 cases r with
 | cons r1 r2=>cases r2;exact⟨_,rfl,r1⟩
theorem vals2 {x y:V}{us:List Value}(r:Vals [x,y] us):∃u w',us=[u,w']/\RelV x u/\RelV y w':=by
 cases r with
 | cons r1 r2 =>
  cases r2 with
  | cons r3 r4=>cases r4;exact⟨_,_,rfl,r1,r3⟩
theorem call_str_int:CallR X (.type "str") (λxs H Q=>∃i,xs=[.int i]/\i.natAbs.log2<1920/\Q (.str (toString i)) H):=by
 intro pins s σ H xs us Q I r h
 obtain⟨i,rfl,hz,q⟩:=h
 obtain⟨u,rfl,t,rfl⟩:=vals1 r
 exact PySem.P.str_of_int hz ⟨.str _,H,I.tok _,⟨_,rfl⟩,q⟩
theorem call_ord:CallR X (.builtin "ord") (λxs H Q=>∃x,xs=[.str x]/\x.length=1/\Q (.int (x.cps.getD 0 0:Nat)) H):=by
 intro pins s σ H xs us Q I r h
 obtain⟨x,rfl,hz,q⟩:=h
 obtain⟨u,rfl,t,rfl⟩:=vals1 r
 exact ord_of_one hz ⟨.int _,H,I.tok _,⟨_,rfl⟩,q⟩
end
end L2
namespace L2
open PySem PySem.Spec PyProof.Rows
structure ObjM (h:Heap) (x dx C:Addr) (mA:Str->Option Value):Prop where
 obj:h.get? x=some (PySem.W.instObj C dx)
 ns:h.Ns1 dx mA
 ne:dx≠x
theorem lookIn_ns {h:Heap}{dx:Addr}{mA:Str->Option Value}(n:h.Ns1 dx mA):∃od,h.get? dx=some od/\∀name,PySem.W.lookIn name od=some (mA name):=by
 obtain⟨o,es,ep,ho,hd,hk,_,hm⟩:=n
 refine⟨o,ho,λname=>?_⟩
 have e:=hm name
 unfold nsFind findBy at e
 rw[<-Array.find?_toList]at e
 unfold PySem.W.lookIn
 rw[hd]
 dsimp only
 split
 ·rename_i y q
  rw[q]at e
  exact congrArg some e
 ·rename_i q
  rw[q]at e
  have a:es.toList.any (·.refKey)=false:=by
   rw[List.any_eq_false]
   intro y hy
   obtain⟨z,t,hkey⟩:=hk y (Array.mem_toList_iff.mp hy)
   simp[DictEntry.refKey,hkey]
  have a':¬es.toList.any (·.refKey)=true:=by rw[a];exact Bool.false_ne_true
  rw[if_neg a']
  exact congrArg some e
theorem ObjM.look {h:Heap}{x dx C:Addr}{mA:Str->Option Value}(I:ObjM h x dx C mA):∃od,PySem.W.InstAt h x (PySem.W.instObj C dx) C (some od)/\∀name,PySem.W.lookIn name od=some (mA name) :=
 let ⟨od,ho,hl⟩:=lookIn_ns I.ns
 ⟨od,⟨I.obj,rfl,rfl,ho⟩,hl⟩
section
variable {prog:Program}{w:World}{A:Around}{E:Value->Shared->Prop}{s:Shared}{K:PySem.W.Frag}{x dx C f:Addr}{mA:Str->Option Value}{name:Str}{v:Value}
theorem get_map {expr:Bool}{Q:Value->Shared->Prop}(X:K.In s.heap) (I:ObjM s.heap x dx C mA) (hg:PySem.W.plainGet K C name=true) (hh:PySem.W.hasDictIn K C=true)
  (ha:PySem.W.findIn K (.ref C) name=some none) (hv:mA name=some v) (hv':PySem.W.handedIn v=true) (h:Q v { s with toks:=s.toks+1 }) :
  wpAny (model prog w) A (getAttr (.ref x) name expr) Q E s:=by
 obtain⟨od,J,hl⟩:=I.look
 exact PySem.W.get_value X J (PySem.W.plainGet_of hg).1 (PySem.W.findObj_own hh ha rfl (by rw[hl,hv])) hv' h
theorem get_meth {pl:Sem Bool}{Q:Value×List Value->Shared->Prop}(X:K.In s.heap) (I:ObjM s.heap x dx C mA) (hg:PySem.W.plainGet K C name=true)
  (hf:PySem.W.findIn K (.ref C) name=some (some (.ref f))) (ht:PySem.W.isFn K (.ref f)=true) (hv:mA name=none) (h:Q (.ref f,[.ref x]) s) :
  wpAny (model prog w) A (getMethod (.ref x) name pl) Q E s:=by
 obtain⟨od,J,hl⟩:=I.look
 exact PySem.W.method_fn X J (PySem.W.plainGet_of hg).1 (PySem.W.plainGet_of hg).2 hf (beq_iff_eq.mp ht) (by show (PySem.W.lookIn name od).map (·.isSome)=some false;rw[hl,hv];rfl) h
theorem set_map {ns:List Str}{Q:Unit->Shared->Prop}(X:K.In s.heap) (I:ObjM s.heap x dx C mA)
  (hs:PySem.W.findIn K (.ref C) "__setattr__"=some (some (.builtin "object.__setattr__"))) (hp:PySem.W.plainOver K C=true) (ht:PySem.W.takerIn K C name=some none) (hh:PySem.W.hasDictIn K C=true)
  (hw:PySem.Within mA ns) (hsz:ns.length<=sizeLine)
  (h:∀h',ObjM h' x dx C (λy=>if y=name then some v else mA y)->Heap.SameBut dx s.heap h'->Q () { s with heap:=h',toks:=s.toks+2 }) :
  wpAny (model prog w) A (setAttr (.ref x) name v) Q E s:=by
 obtain⟨od,J,hl⟩:=I.look
 refine PySem.W.set_plain X J hs (PySem.W.osa_open (s:={ s with toks:=s.toks+1 }) (r:=none) X J hp ht λb=>?_)
 obtain⟨cd,hc,hd'⟩:=PySem.W.any_some hh
 have hx:s.heap.get? x=some ⟨.ref C,some dx,.plain,#[]⟩:=I.obj
 refine wpAny_bind (wpAny_pure (wpAny_bind (wpAny_bind (wpAny_loadPart hx (wpAny_bind (PySem.W.Looks.here (s:={ s with toks:=s.toks+1 }) (PySem.W.looks_clsIn X hc) ?_))))))
 rw[hd']
 refine wpAny_pure (a:=some dx) (wpAny_bind (wpAny_pure (wpAny_bind ?_)))
 refine wpAny_nsSet1 (s:={ s with toks:=s.toks+1 }) I.ns λh' hn2 hs2=>?_
 obtain⟨oD,esD,epD,hoD,hdD,hcD⟩:=hn2.count (PySem.Within.cons name v hw)
 refine wpAny_bind (wpAny_lookBehind hoD (by rw[hdD];exact pastItsLine_dict (Nat.le_trans hcD (by rw[List.length_cons];omega))) ?_)
 exact wpAny_pure (h _ ⟨(hs2.2 _ (Ne.symm I.ne)).trans I.obj,hn2,I.ne⟩ hs2)
theorem make_map {R:Result->Shared->Prop}{vs:List Value}{kw:List (Str×Value)}(X:K.In s.heap) (hm:PySem.W.makesIn K C=true)
  (hi:PySem.W.findIn K (.ref C) "__init__"=some (some (.ref f))) (hf:PySem.W.typeIn K (.ref f)=some (.type "function"))
  (h:codeAny (model prog w) (A.under (.builtin "type.__call__" ⟨.ref C::vs,kw⟩)) (.call (.ref f) ⟨.ref (s.heap.objs.size+1)::vs,kw⟩) (PySem.W.InitBack (s.heap.objs.size+1) R)
   { s with heap:=(s.heap.push PySem.W.emptyDict).push (PySem.W.instObj C s.heap.objs.size) }) :
  codeAny (model prog w) A (.call (.ref C) ⟨vs,kw⟩) R s:=by
 obtain⟨hh,g,d,t,os⟩:=s
 exact PySem.W.make_core (PySem.W.makes_of X hm) (PySem.W.looks_findIn X hi) (λself=>PySem.W.bind_fn X self hf) (.inl rfl) h
end
def putF (f:Str) (v:V):List (Str×V)->List (Str×V)
 | []=>[(f,v)]
 | (g,x)::r=>if g=f then (g,v)::r else (g,x)::putF f v r
theorem lookup_putF (f g:Str) (v:V):∀fs:List (Str×V),(putF f v fs).lookup g=if g=f then some v else fs.lookup g
 | []=>by
  show List.lookup g [(f,v)]=_
  by_cases h:g=f
  ·have hb:(g == f)=true:=beq_iff_eq.mpr h
   simp only[List.lookup,hb,if_pos h]
  ·have hb:(g == f)=false:=beq_eq_false_iff_ne.mpr h
   simp only[List.lookup,hb,if_neg h]
 | (k,x)::r=>by
  have ih:=lookup_putF f g v r
  rw[show putF f v ((k,x)::r)=(if k=f then (k,v)::r else (k,x)::putF f v r) from rfl]
  by_cases hk:k=f
  ·rw[if_pos hk]
   by_cases h:g=k
   ·have hb:(g == k)=true:=beq_iff_eq.mpr h
    simp only[List.lookup,hb,if_pos (h.trans hk)]
   ·have hb:(g == k)=false:=beq_eq_false_iff_ne.mpr h
    simp only[List.lookup,hb,if_neg (λe:g=f=>h (e.trans hk.symm))]
  ·rw[if_neg hk]
   by_cases h:g=k
   ·have hb:(g == k)=true:=beq_iff_eq.mpr h
    simp only[List.lookup,hb,if_neg (λe:g=f=>hk (h.symm.trans e))]
   ·have hb:(g == k)=false:=beq_eq_false_iff_ne.mpr h
    simp only[List.lookup,hb]
    exact ih
theorem keys_putF (f:Str) (v:V):∀fs:List (Str×V),f∈(putF f v fs).map (·.1)/\∀g,g∈fs.map (·.1)->g∈(putF f v fs).map (·.1)
 | []=>⟨by simp[putF],λg h=>by simp at h⟩
 | (k,x)::r=>by
  obtain⟨i1,i2⟩:=keys_putF f v r
  rw[show putF f v ((k,x)::r)=(if k=f then (k,v)::r else (k,x)::putF f v r) from rfl]
  by_cases hk:k=f
  ·rw[if_pos hk]
   subst hk
   exact⟨by simp,λg h=>by simpa using h⟩
  ·rw[if_neg hk]
   refine⟨?_,λg h=>?_⟩
   ·rw[List.map_cons]
    exact List.mem_cons_of_mem _ i1
   ·rw[List.map_cons]at h ⊢
    rcases List.mem_cons.mp h with e | e
    ·exact List.mem_cons.mpr (.inl e)
    ·exact List.mem_cons_of_mem _ (i2 g e)
theorem length_putF (f:Str) (v:V):∀fs:List (Str×V),(putF f v fs).length<=fs.length+1
 | []=>by simp[putF]
 | (k,x)::r=>by
  have ih:=length_putF f v r
  rw[show putF f v ((k,x)::r)=(if k=f then (k,v)::r else (k,x)::putF f v r) from rfl]
  by_cases hk:k=f
  ·rw[if_pos hk,List.length_cons,List.length_cons];omega
  ·rw[if_neg hk,List.length_cons,List.length_cons];omega
theorem RelO.some_of {v:V}{o:Option Value}(r:RelO (some v) o):∃u,o=some u/\RelV v u:=by
 cases o with
 | none=>exact (show False from r).elim
 | some u=>exact⟨u,rfl,r⟩
theorem RelO.none_of {o:Option Value}(r:RelO none o):o=none:=by
 cases o with
 | none=>rfl
 | some u=>exact (show False from r).elim
theorem handed_of {v:V}{u:Value}(r:RelV v u):PySem.W.handedIn u=true:=by
 cases v with
 | non=>cases (show u=Value.none from r);rfl
 | bl b=>cases (show u=Value.bool b from r);rfl
 | int i=>obtain⟨t,e⟩:=(show ∃t,u=Value.int i t from r);cases e;rfl
 | str x=>obtain⟨t,e⟩:=(show ∃t,u=Value.str x t from r);cases e;rfl
 | byt b=>obtain⟨t,e⟩:=(show ∃t,u=Value.bytes b t from r);cases e;rfl
 | flt b=>obtain⟨t,e⟩:=(show ∃t,u=Value.float b t from r);cases e;rfl
 | ref a=>cases (show u=Value.ref a from r);rfl
 | ty n=>cases (show u=Value.type n from r);rfl
section
variable {P:Program}{w:World}{H H':Hp}{h h':Heap}{a C dx:Addr}{fs fs':List (Str×V)}
theorem ins_get (hok:HOk P w H h) (e:H a=some (.ins C dx fs)):∃mA,ObjM h a dx C mA/\(∀f,RelO (fs.lookup f) (mA f))/\PySem.Within mA (fs.map (·.1))/\fs.length<=1000/\H dx=some (.own a):=by
 obtain⟨d,z,ne,ob,mA,n,r,q⟩:=(show ObjOk P w H h a (.ins C dx fs) from hok a _ e)
 exact⟨mA,⟨ob,n,ne⟩,r,q,z,d⟩
end
structure Cls (K:PySem.W.Frag) (C:Addr):Prop where
 pg:PySem.W.plainGet K C Str.empty=true
 hd:PySem.W.hasDictIn K C=true
 po:PySem.W.plainOver K C=true
 sa:PySem.W.findIn K (.ref C) "__setattr__"=some (some (.builtin "object.__setattr__"))
theorem Cls.get {K:PySem.W.Frag}{C:Addr}(c:Cls K C) (f:Str):PySem.W.plainGet K C f=true:=c.pg
def NoAttr (K:PySem.W.Frag) (C:Addr) (f:Str):Prop:=PySem.W.findIn K (.ref C) f=some none
theorem NoAttr.taker {K:PySem.W.Frag}{C:Addr}{f:Str}(n:NoAttr K C f):PySem.W.takerIn K C f=some none:=by
 unfold PySem.W.takerIn
 rw[show PySem.W.findIn K (.ref C) f=some none from n]
 rfl
structure Meth (K:PySem.W.Frag) (C:Addr) (m:Str) (f:Addr):Prop where
 at_:PySem.W.findIn K (.ref C) m=some (some (.ref f))
 fn:PySem.W.isFn K (.ref f)=true
 kp:PySem.W.keepIn K (.ref f)=true
section
variable {X:Cx}{pins:List (Addr×Obj)}{σ:St}{H:Hp}{s:Shared}{a C dx:Addr}{fs:List (Str×V)}{f:Str}{v:V}{A:Around}{E:Value->Shared->Prop}
theorem getattr_ok {b:Bool}{Q:Value->Shared->Prop}(I:Inv X pins σ H s) (e:H a=some (.ins C dx fs)) (c:Cls X.K C) (n:NoAttr X.K C f) (l:fs.lookup f=some v)
  (h:∀u s',Inv X pins σ H s'->RelV v u->Q u s'):wpAny (model X.prog X.w) A (getAttr (.ref a) f b) Q E s:=by
 obtain⟨mA,O,r,_,_,_⟩:=ins_get I.hok e
 obtain⟨u,hu,ru⟩:=RelO.some_of (v:=v) (o:=mA f) (by rw[<-l];exact r f)
 exact get_map I.kIn O (c.get f) c.hd n hu (handed_of ru) (h u _ (I.tok _) ru)
theorem getmeth_ok {m:Str}{g:Addr}{pl:Sem Bool}{Q:Value×List Value->Shared->Prop}(I:Inv X pins σ H s) (e:H a=some (.ins C dx fs)) (c:Cls X.K C) (k:Meth X.K C m g) (l:fs.lookup m=none)
  (h:Q (.ref g,[.ref a]) s):wpAny (model X.prog X.w) A (getMethod (.ref a) m pl) Q E s:=by
 obtain⟨mA,O,r,_,_,_⟩:=ins_get I.hok e
 have hn:mA m=none:=RelO.none_of (by rw[<-l];exact r m)
 exact get_meth I.kIn O (c.get m) k.at_ k.fn hn h
theorem setattr_ok {y:V}{u:Value}{Q:Unit->Shared->Prop}(I:Inv X pins σ H s) (e:H a=some (.ins C dx fs)) (c:Cls X.K C) (n:NoAttr X.K C f) (hl:fs.length<1000) (ry:RelV y u)
  (h:∀s',Inv X pins σ (upd H a (.ins C dx (putF f y fs))) s'->Q () s'):wpAny (model X.prog X.w) A (setAttr (.ref a) f u) Q E s:=by
 obtain⟨mA,O,r,wi,_,ho⟩:=ins_get I.hok e
 have hz:(fs.map (·.1)).length<=sizeLine:=by rw[List.length_map,sizeLine_eq];omega
 refine set_map I.kIn O c.sa c.po n.taker c.hd wi hz λh' O' sb=>h _ ?_
 have hd:∃o,h'.get? dx=some o:=let ⟨o,_,_,e',_⟩:=O'.ns;⟨o,e'⟩
 refine I.write (x:=a) (e:=dx) (by rw[e];exact True.intro) (.inr ho) (λb q hb z=>(sb.2 b hb).trans z) hd ?_
 refine⟨by rw[qqa O.ne];exact ho,?_,O.ne,O'.obj,_,O'.ns,λg=>?_,λg hg=>?_⟩
 ·have:=length_putF f y fs;omega
 ·show RelO ((putF f y fs).lookup g) (if g=f then some u else mA g)
  rw[lookup_putF]
  by_cases q:g=f
  ·rw[if_pos q,if_pos q];exact ry
  ·rw[if_neg q,if_neg q];exact r g
 ·by_cases q:g=f
  ·rw[q];exact (keys_putF f y fs).1
  ·refine (keys_putF f y fs).2 g (wi g λz=>hg ?_)
   show (if g=f then some u else mA g)=none
   rw[if_neg q];exact z
theorem Inv.made (I:Inv X pins σ H s):Inv X pins σ (upd (upd H s.heap.objs.size (.own (s.heap.objs.size+1))) (s.heap.objs.size+1) (.ins C s.heap.objs.size []))
  { s with heap:=(s.heap.push PySem.W.emptyDict).push (PySem.W.instObj C s.heap.objs.size) }:=by
 have e1:(s.heap.push PySem.W.emptyDict).get? s.heap.objs.size=some PySem.W.emptyDict:=Heap.get?_push_size s.heap rfl
 have e2:((s.heap.push PySem.W.emptyDict).push (PySem.W.instObj C s.heap.objs.size)).get? (s.heap.objs.size+1)=some (PySem.W.instObj C s.heap.objs.size):=by
  have:=Heap.get?_push_size (s.heap.push PySem.W.emptyDict) (o:=PySem.W.instObj C s.heap.objs.size) rfl
  rwa [Heap.size_push]at this
 have e3:(s.heap.push PySem.W.emptyDict).Ns s.heap.objs.size (λ_=>none):=⟨PySem.W.emptyDict,#[],_,e1,rfl,(λe he=>absurd he (by simp)),λ_=>rfl⟩
 have I1:=I.laid (a:=s.heap.objs.size) (o:=.own (s.heap.objs.size+1)) (h':=s.heap.push PySem.W.emptyDict) (t':=s.toks) (λb u q=>Heap.get?_push_of_some _ q) (Nat.le_refl _) ⟨_,e1⟩
 refine I1.laid (a:=s.heap.objs.size+1) (o:=.ins C s.heap.objs.size []) (t':=s.toks) (λb u q=>Heap.get?_push_of_some _ q) (Nat.le_of_eq (Heap.size_push _ _)) ?_
 have ne:s.heap.objs.size≠s.heap.objs.size+1:=Nat.ne_of_lt (Nat.lt_succ_self _)
 refine⟨by rw[qqa ne,ups],Nat.zero_le _,ne,e2,λ_=>none,(Heap.Ns1.of_empty e3).at λo q=>Heap.get?_push_of_some _ q,λ_=>True.intro,λy hy=>absurd rfl hy⟩
theorem attr_of {prog:Program}{w:World}{env:Env}{e:Expr}{f:Str}{pos:Pos}{s:Shared}{Q:Value->Shared->Prop}(hb:attributeBase e f env (eval e env)=eval e env)
  (h:wpAny (model prog w) A (eval e env) (λo s₁=>wpAny (model prog w) A (getAttr o f true) Q E s₁) E s):wpAny (model prog w) A (eval (.Attribute e f pos) env) Q E s :=
 Attribute_any_ h (by rw[arm_eval_Attribute,hb])
end
def tFld (K:PySem.W.Frag) (ta:TE) (f:Str):TE:=λσ H Q=>ta σ H λx H1=>∃a C dx fs v,x=.ref a/\H1 a=some (.ins C dx fs)/\Cls K C/\NoAttr K C f/\fs.lookup f=some v/\Q v H1
def sFld (K:PySem.W.Frag) (ta tv:TE) (f:Str):TS:=λD σ H=>tv σ H λy H1=>ta σ H1 λx H2=>∃a C dx fs,x=.ref a/\H2 a=some (.ins C dx fs)/\Cls K C/\NoAttr K C f/\fs.length<1000 /\
 D.nx σ (upd H2 a (.ins C dx (putF f y fs)))
section
variable {X:Cx}{o e value:Expr}{f:Str}{pos pos' tpos:Pos}{ta tv:TE}
end
section
variable {X:Cx}{pins:List (Addr×Obj)}{σ:St}{H:Hp}{s:Shared}{A:Around}{E:Value->Shared->Prop}{Q:Value->Shared->Prop}{c:Value}{b:Bool}
end
end L2
namespace L2
open PySem PySem.Spec PyProof.Rows
structure Room (k:Nat) (A:Around):Prop where
 hd:A.handled=none
 dp:A.depth+3*k+5<recursionLimit
 un:A.units+16*k+200<cLine
theorem Room.mono {j k:Nat}{A:Around}(r:Room k A) (h:j<=k):Room j A:=⟨r.hd,by have:=r.dp;omega,by have:=r.un;omega⟩
theorem Room.deeper {k:Nat}{A:Around}(r:Room (k+1) A) (env:Env):Room k (A.deeper env) :=
 ⟨r.hd,by have:=r.dp;show A.depth+1+3*k+5<_;omega,by have:=r.un;show A.units+3+16*k+200<_;omega⟩
theorem make_depth {A:Around}{C:Addr}{us:List Value}{kw:List (Str×Value)}:(A.under (.builtin "type.__call__" ⟨.ref C::us,kw⟩)).depth=A.depth+1:=by
 first | rfl | simp[Around.under,Code.weight,Code.isCreation,Code.isGuard,Code.isCaller,Code.frames,Code.isFrame,guardIds]
theorem make_units {A:Around}{C:Addr}{us:List Value}{kw:List (Str×Value)}:(A.under (.builtin "type.__call__" ⟨.ref C::us,kw⟩)).units=A.units+1:=by
 first | rfl | simp[Around.under,Code.cUnits,Code.frames,Code.isFrame]
theorem Room.make {k:Nat}{A:Around}(r:Room (k+1) A) (C:Addr) (us:List Value) (kw:List (Str×Value)):Room k (A.under (.builtin "type.__call__" ⟨.ref C::us,kw⟩)) :=
 ⟨r.hd,by have:=r.dp;rw[make_depth];omega,by have:=r.un;rw[make_units];omega⟩
theorem Room.depth {k:Nat}{A:Around}(r:Room k A):A.depth<recursionLimit:=by have:=r.dp;omega
theorem Room.units {k:Nat}{A:Around}(r:Room k A):A.units+64<cLine:=by have:=r.un;omega
def tNil:TA:=λ_ H Q=>Q [] H
def tCons (ta:TE) (tr:TA):TA:=λσ H Q=>ta σ H λx H1=>tr σ H1 λxs H2=>Q (x::xs) H2
section
variable {X:Cx}{e:Expr}{es:List Expr}{te:TE}{t:TA}{pos:Pos}
theorem pan:PA X [] tNil:=λ_ _ _ _ H Q I h=>Calls.spliced_nil ⟨[],H,I,.nil,h⟩
theorem pac (ha:PE X e te) (hr:PA X es t) (hs:starEach (e::es) X.env=(false,eval e X.env)::starEach es X.env:=by rfl):PA X (e::es) (tCons te t):=by
 intro pos pins s σ H Q I h
 rw[hs]
 show wpAny _ _ (spliced ((false,eval e X.env)::backTo pos (starEach es X.env))) _ _ s
 refine Calls.spliced_cons (thn (ha pins s σ H _ I h) λu s1 ⟨x,H1,I1,r1,q1⟩=>?_)
 exact thn (hr pos pins s1 σ H1 _ I1 q1) λus s2 ⟨xs,H2,I2,r2,q2⟩=>⟨x::xs,H2,I2,.cons r1 r2,q2⟩
def tTup (t:TA):TE:=λσ H Q=>t σ H λxs H1=>xs.length<=sizeLine/\∀p,H1 p=none->Q (.ref p) (upd H1 p (.tup xs))
def tLst (t:TA):TE:=λσ H Q=>t σ H λxs H1=>xs.length<=sizeLine/\∀p,H1 p=none->Q (.ref p) (upd H1 p (.lst xs))
theorem pe_tup {x1}(h:PA X es t):PE X (.Tuple es x1 pos) (tTup t):=by
 intro pins s σ H Q I hq
 refine wpAny_Tuple_spliced (thn (h pos pins s σ H _ I hq) λus s1 ⟨xs,H1,I1,r,z,q⟩=>⟨by rw[<-r.length];exact z,?_⟩)
 have hf:H1 s1.heap.objs.size=none:=I1.hok.fresh (Nat.le_refl _)
 refine⟨.ref s1.heap.objs.size,upd H1 s1.heap.objs.size (.tup xs),I1.laid (t':=s1.toks) (λb u e=>Heap.get?_push_of_some _ e) (Nat.le_refl _) ?_,rfl,q _ hf⟩
 exact⟨z,us,r,⟨_,Heap.get?_push_size _ rfl,rfl,_,rfl⟩⟩
theorem pe_lst (h:PA X es t):PE X (.List es pos) (tLst t):=by
 intro pins s σ H Q I hq
 refine wpAny_List_spliced (thn (h pos pins s σ H _ I hq) λus s1 ⟨xs,H1,I1,r,z,q⟩=>⟨by rw[<-r.length];exact z,?_⟩)
 have hf:H1 s1.heap.objs.size=none:=I1.hok.fresh (Nat.le_refl _)
 refine⟨.ref s1.heap.objs.size,upd H1 s1.heap.objs.size (.lst xs),I1.laid (t':=s1.toks) (λb u e=>Heap.get?_push_of_some _ e) (Nat.le_refl _) ?_,rfl,q _ hf⟩
 exact⟨z,us,0,r,Heap.get?_push_size _ rfl⟩
end
abbrev Sp:=List V->Hp->VK->XK->Prop
abbrev CXT:=List Env->Hp->Shared->XK->Value->Shared->Prop
structure Env0 (P:Program) (w:World) (K:PySem.W.Frag) (mg:Str->Option Value) (base:Heap) (A:Around) (outer:List Env) (s:Shared) (H:Hp):Prop where
 frames:A.frames=some outer
 mod:Mod K mg base
 bs:∀b o,base.get? b=some o->s.heap.get? b=some o/\H b=none
 bsz:base.objs.size<=s.heap.objs.size
 funs:s.heap.FunFrames base outer
 frf:∀b∈frs outer,H b=none
 hok:HOk P w H s.heap
 bare:AllBare s.gens
def CE (outer:List Env) (P:Program) (w:World) (H:Hp) (s:Shared) (Q:VK) (u:Value) (s':Shared):Prop :=
 ∃v H',s'.os=s.os/\AllBare s'.gens/\Un (frs outer) [] H H' s.heap s'.heap/\HOk P w H' s'.heap/\RelV v u/\Q v H'
def CR (CX:CXT) (outer:List Env) (P:Program) (w:World) (H:Hp) (s:Shared) (Q:VK) (E:XK) (r:Result) (s':Shared):Prop :=
 match r with
 | .ok (.ret u)=>CE outer P w H s Q u s'
 | .ok _=>False
 | .error e=>CX outer H s E e s'
structure FnOk (P:Program) (w:World) (K:PySem.W.Frag) (mg:Str->Option Value) (base:Heap) (CX:CXT) (k:Nat) (f:Addr) (fd:FuncData) (ps:List Str) (sp:Sp):Prop where
 len:∀vs H Q E,sp vs H Q E->vs.length=ps.length
 run:∀(A:Around) (outer:List Env) (s:Shared) (H:Hp) (args:Args) (us:List Value) (vs:List V) (Q:VK) (E:XK),Room k A->Env0 P w K mg base A outer s H->BindsTo s fd args (ps.zip us)->Vals vs us->sp vs H Q E ->
  codeAny (model P w) A (.call (.ref f) args) (CR CX outer P w H s Q E) s
theorem Env0.make {P:Program}{w:World}{K:PySem.W.Frag}{mg:Str->Option Value}{base:Heap}{A:Around}{outer:List Env}{s:Shared}{H:Hp}(e:Env0 P w K mg base A outer s H) (C:Addr) (us:List Value) (kw:List (Str×Value)) :
  Env0 P w K mg base (A.under (.builtin "type.__call__" ⟨.ref C::us,kw⟩)) outer s H:=⟨by first | exact e.frames | (simpa[Around.under,Code.envs,Code.isFrame,pushEnvs] using e.frames),e.mod,e.bs,e.bsz,e.funs,e.frf,e.hok,e.bare⟩
section
variable {X:Cx}{pins:List (Addr×Obj)}{σ:St}{H:Hp}{s s':Shared}
theorem Inv.env0 (I:Inv X pins σ H s):Env0 X.prog X.w X.K X.mg X.base X.A X.stack s H :=
 ⟨I.ok.frames,I.ok.mod,I.bs,Nat.le_trans I.ok.bsz I.sz,I.stack,I.stkFree,I.hok,I.bare⟩
theorem Inv.after {Q:VK}{u:Value}(I:Inv X pins σ H s) (h:CE X.stack X.prog X.w H s Q u s'):EP X pins σ Q u s':=by
 obtain⟨v,H',os,bare,un,hok,r,q⟩:=h
 obtain⟨hh,g,d,t,os'⟩:=s'
 obtain rfl:os'=s.os:=os
 exact⟨v,H',I.call (h':=hh) (g':=g) (d':=d) (t':=t) (ch:=[]) un hok bare (λb z=>absurd z (by simp)),r,q⟩
end
def tMake (C:Addr) (sp:Sp) (dvs:List V) (E:XK) (t:TA):TE:=λσ H Q=>t σ H λvs H1=>∀x dx,H1 x=none->H1 dx=none->dx≠x ->
 sp (.ref x::(vs++dvs)) (upd (upd H1 dx (.own x)) x (.ins C dx [])) (λv H2=>v=.non/\Q (.ref x) H2) E
def Binds (K:PySem.W.Frag) (fd:FuncData) (ps:List Str) (ds:List Value):Prop :=
 ∀(s:Shared) (us:List Value),K.In s.heap->(us++ds).length=ps.length->BindsTo s fd ⟨us,[]⟩ (ps.zip (us++ds))
theorem Binds.all {K:PySem.W.Frag}{fd:FuncData}{ps:List Str}(h:∀us:List Value,us.length=ps.length->bindArgs fd ⟨us,[]⟩=pure (ps.zip us)):Binds K fd ps []:=λs us _ hl=>by
 rw[List.append_nil]at hl ⊢
 exact .of_eq (h us hl)
def Passes (CX:CXT) (X:Cx) (E:XK):Prop:=∀(pins:List (Addr×Obj)) (σ:St) (H:Hp) (s:Shared) (e:Value) (s':Shared),Inv X pins σ H s->CX X.stack H s E e s'->X.xe e s'
section
variable {X:Cx}{CX:CXT}{k:Nat}{f C:Addr}{fd:FuncData}{ps:List Str}{sp:Sp}{dvs:List V}{ds:List Value}{E:XK}{x m:Str}{p pos apos:Pos}{e o:Expr}{es:List Expr}{ta:TE}{t:TA}
structure Mk (K:PySem.W.Frag) (C f:Addr):Prop where
 makes:PySem.W.makesIn K C=true
 init:PySem.W.findIn K (.ref C) "__init__"=some (some (.ref f))
 fn:PySem.W.isFn K (.ref f)=true
 kp:PySem.W.keepIn K (.ref C)=true
theorem run_make {pins:List (Addr×Obj)}{σ:St}{H:Hp}{s:Shared}{Q:VK}{us:List Value}{vs:List V}(M:Mk X.K C f) (F:FnOk X.prog X.w X.K X.mg X.base CX k f fd ps sp) (hr:Room (k+1) X.A) (hb:Binds X.K fd ps ds) (hd:Vals dvs ds)
  (hx:Passes CX X E) (I:Inv X pins σ H s) (r:Vals vs us)
  (h:∀x dx,H x=none->H dx=none->dx≠x->sp (.ref x::(vs++dvs)) (upd (upd H dx (.own x)) x (.ins C dx [])) (λv H2=>v=.non/\Q (.ref x) H2) E) :
  wpAny (model X.prog X.w) X.A (call (.ref C) us) (EP X pins σ Q) X.xe s:=by
 have hq:=h (s.heap.objs.size+1) s.heap.objs.size (I.hok.fresh (Nat.le_succ _)) (I.hok.fresh (Nat.le_refl _)) (Nat.ne_of_lt (Nat.lt_succ_self _))
 have I2:=Inv.made (C:=C) I
 have r2:Vals (V.ref (s.heap.objs.size+1)::(vs++dvs)) (Value.ref (s.heap.objs.size+1)::(us++ds)):=.cons rfl (r.append hd)
 have hl:(Value.ref (s.heap.objs.size+1)::us++ds).length=ps.length:=by
  have e:=r2.length
  rw[F.len _ _ _ _ hq]at e
  exact e.symm
 refine wpAny_call (make_map (f:=f) I.kIn M.makes M.init (beq_iff_eq.mp M.fn) (codeAny_mono (F.run _ X.stack _ _ ⟨Value.ref (s.heap.objs.size+1)::us,[]⟩ (Value.ref (s.heap.objs.size+1)::(us++ds)) _ _ E (hr.make C us [])
  (I2.env0.make C us []) (hb _ (Value.ref (s.heap.objs.size+1)::us) I2.kIn hl) r2 hq) λr s' hq'=>?_))
 cases r with
 | error e=>exact hx pins σ _ _ e s' I2 hq'
 | ok fl =>
  cases fl with
  | ret u =>
   obtain⟨v,H',I3,rv,ev,q3⟩:=I2.after hq'
   subst ev
   exact⟨rv,⟨V.ref (s.heap.objs.size+1),H',I3,rfl,q3⟩⟩
  | next=>exact False.elim hq'
  | brk=>exact False.elim hq'
  | cont=>exact False.elim hq'
theorem pe_make (M:Mk X.K C f) (F:FnOk X.prog X.w X.K X.mg X.base CX k f fd ps sp) (hr:Room (k+1) X.A) (hg:Gl X x) (hm:X.mg x=some (.ref C)) (hb:Binds X.K fd ps ds) (hd:Vals dvs ds) (hx:Passes CX X E)
  (ha:PA X (e::es) t) (hdb:(x == ("__debug__":Str))=false:=by decide) (he:starEach (e::es) X.env=(false,eval e X.env)::starEach es X.env:=by rfl) (hpl:(backTo pos (starEach es X.env)).any (·.1)=false:=by rfl) :
  PE X (.Call (.Name x p) (e::es) [] pos) (tMake C sp dvs E t):=by
 intro pins s σ H Q I h
 refine wpAny_Call_Name_kw (ld_glob I hg hm ?_ hdb)
 refine PySem.W.callWith_K (h₀:=X.base) I.ok.mod.kin M.kp (thn (ha pos pins s σ H _ I h) λus s1 ⟨vs,H1,I1,r,q⟩=>⟨I1.kIn,?_⟩) he hpl
 exact run_make M F hr hb hd hx I1 r q
theorem pe_make0 (M:Mk X.K C f) (F:FnOk X.prog X.w X.K X.mg X.base CX k f fd ps sp) (hr:Room (k+1) X.A) (hg:Gl X x) (hm:X.mg x=some (.ref C)) (hb:Binds X.K fd ps ds) (hd:Vals dvs ds) (hx:Passes CX X E)
  (hdb:(x == ("__debug__":Str))=false:=by decide):PE X (.Call (.Name x p) [] [] pos) (tMake C sp dvs E tNil):=by
 intro pins s σ H Q I h
 refine wpAny_Call_Name_kw (ld_glob I hg hm ?_ hdb)
 exact PySem.W.callWith_K0 I.kIn M.kp (run_make (us:=[]) M F hr hb hd hx I .nil h)
end
def PK (X:Cx) (kws:List Keyword) (t:TA):Prop :=
 ∀(pos:Pos) (pins:List (Addr×Obj)) (s:Shared) (σ:St) (H:Hp) (Q:List V->Hp->Prop),Inv X pins σ H s->t σ H Q->wpAny (model X.prog X.w) X.A (evalAll ((backToKw pos (keywordEach kws X.env)).map (·.2))) (AP X pins σ Q) X.xe s
section
variable {X:Cx}{CX:CXT}{k:Nat}{f C:Addr}{fd:FuncData}{ps ks:List Str}{sp:Sp}{E:XK}{x m:Str}{p pos apos kpos:Pos}{e o:Expr}{es:List Expr}{kws:List Keyword}{te ta:TE}{t tk:TA}{nm:Option Str}
theorem pk_nil:PK X [] tNil:=λ_ _ _ _ H Q I h=>wpAny_evalAll_nil ⟨[],H,I,.nil,h⟩
theorem pk_cons (ha:PE X e te) (hr:PK X kws t):PK X (⟨nm,e,kpos⟩::kws) (tCons te t):=by
 intro pos pins s σ H Q I h
 show wpAny _ _ (evalAll ((do let v <- eval e X.env;standAt pos;pure v)::(backToKw pos (keywordEach kws X.env)).map (·.2))) _ _ s
 refine wpAny_evalAll_cons (wpAny_bind (thn (ha pins s σ H _ I h) λu s1 ⟨x,H1,I1,r1,q1⟩=>wpAny_bind (wpAny_standAt (wpAny_pure ?_))))
 exact thn (hr pos pins s1 σ H1 _ I1 q1) λus s2 ⟨xs,H2,I2,r2,q2⟩=>⟨x::xs,H2,I2,.cons r1 r2,q2⟩
variable {g:List Value->List Value->List Value}{gV:List V->List V->List V}
end
structure qqb (N P:List Str) (sc:Scope):Prop where
 kind:sc.kind=.function
 co:sc.isCoroutine=false
 gen:sc.isGenerator=false
 nd:N.Nodup
 pre:N.take P.length=P
 par:∀x∈P,sc.names.lookup x=some .local\/sc.names.lookup x=some .cell
 nofree:∀y∈sc.names,y.2≠.free
theorem bindL_out {kindOf:Str->Option NameKind}{x:Str}:∀ {binds:List (Str×Value)}{m:Str->Option Value},(∀v,(x,v)∉binds)->bindL kindOf binds m x=m x
 | [],_,_=>rfl
 | (n,v)::r,m,h=>by
  unfold bindL
  rw[bindL_out λw hw=>h w (List.mem_cons_of_mem _ hw)]
  split
  ·have:x≠n:=by rintro rfl;exact h v List.mem_cons_self
   simp[this]
  ·rfl
theorem bindC_out {kindOf:Str->Option NameKind}{x:Str}:∀ {binds:List (Str×Value)}{m:Str->Option Value},(∀v,(x,v)∉binds)->bindC kindOf binds m x=m x
 | [],_,_=>rfl
 | (n,v)::r,m,h=>by
  unfold bindC
  rw[bindC_out λw hw=>h w (List.mem_cons_of_mem _ hw)]
  split
  ·rfl
  ·have:x≠n:=by rintro rfl;exact h v List.mem_cons_self
   simp[this]
theorem bindL_get {kindOf:Str->Option NameKind}{x:Str}{v:Value}:∀ {P:List Str}{vs:List Value}{i:Nat}{m:Str->Option Value},P.Nodup->P[i]?=some x->vs[i]?=some v->kindOf x=some .local ->
  bindL kindOf (P.zip vs) m x=some v
 | [],_,_,_,_,h,_,_=>by simp at h
 | _::_,[],_,_,_,_,h,_=>by simp at h
 | p::P,w::vs,0,m,nd,h1,h2,hk=>by
  simp at h1 h2;subst h1;subst h2
  show bindL kindOf ((p,w)::P.zip vs) m p=_
  unfold bindL
  rw[bindL_out λv hv=>(List.nodup_cons.mp nd).1 (List.of_mem_zip hv).1,if_pos hk]
  simp
 | p::P,w::vs,i+1,m,nd,h1,h2,hk=>by
  show bindL kindOf ((p,w)::P.zip vs) m x=_
  unfold bindL
  exact bindL_get (i:=i) (List.nodup_cons.mp nd).2 (by simpa using h1) (by simpa using h2) hk
theorem bindC_get {kindOf:Str->Option NameKind}{x:Str}{v:Value}:∀ {P:List Str}{vs:List Value}{i:Nat}{m:Str->Option Value},P.Nodup->P[i]?=some x->vs[i]?=some v->kindOf x≠some .local ->
  bindC kindOf (P.zip vs) m x=some v
 | [],_,_,_,_,h,_,_=>by simp at h
 | _::_,[],_,_,_,_,h,_=>by simp at h
 | p::P,w::vs,0,m,nd,h1,h2,hk=>by
  simp at h1 h2;subst h1;subst h2
  show bindC kindOf ((p,w)::P.zip vs) m p=_
  unfold bindC
  rw[bindC_out λv hv=>(List.nodup_cons.mp nd).1 (List.of_mem_zip hv).1,if_neg hk]
  simp
 | p::P,w::vs,i+1,m,nd,h1,h2,hk=>by
  show bindC kindOf ((p,w)::P.zip vs) m x=_
  unfold bindC
  exact bindC_get (i:=i) (List.nodup_cons.mp nd).2 (by simpa using h1) (by simpa using h2) hk
def start (N:List Str) (vs:List V):St:=vs.map some++List.replicate (N.length - vs.length) none
def cxOf (CX:CXT) (P:Program) (w:World) (K:PySem.W.Frag) (mg:Str->Option Value) (base:Heap) (N:List Str) (qual:Str) (scope:Scope) (f:Addr) (cd:Value) (A:Around) (outer:List Env) (s:Shared) (H:Hp) (E:XK):Cx where
 prog:=P
 w:=w
 K:=K
 mg:=mg
 base:=base
 A:=A.deeper (envOfC qual scope s.heap.objs.size f cd)
 N:=N
 s_0:=s
 H_0:=H
 env:=envOfC qual scope s.heap.objs.size f cd
 outer:=outer
 stack:=envOfC qual scope s.heap.objs.size f cd::outer
 ex:=[]
 calm:=true
 fn:=λ_=>true
 pn:=[]
 xe:=λe s'=>wpAny (model P w) (A.deeper (envOfC qual scope s.heap.objs.size f cd)) (leaving (envOfC qual scope s.heap.objs.size f cd) e) (λ_ s''=>CX outer H s E e s'') (λe' s''=>CX outer H s E e' s'') s'
theorem cell_has {sc:Scope}{n:Nat}{x:Str}(h:sc.names.lookup x=some .cell):∃c,(cellsFrom n sc.names []).lookup x=some c:=by
 have q:=PySem.W.cellsFrom_some sc.names n [] (.inl h)
 exact Option.isSome_iff_exists.mp q
theorem inv_start {CX:CXT}{P:Program}{w:World}{K:PySem.W.Frag}{mg:Str->Option Value}{base:Heap}{N ps:List Str}{qual:Str}{scope:Scope}{f:Addr}{cd:Value}{A:Around}{outer:List Env}{s s1:Shared}{H:Hp}{E:XK}{us:List Value}{vs:List V}
  (S:qqb N ps scope) (hd:A.handled=none) (e0:Env0 P w K mg base A outer s H) (hl:vs.length=ps.length) (r:Vals vs us)
  (x:InCallC s s.heap.objs.size (bindL (envOfC qual scope s.heap.objs.size f cd).kindOf (ps.zip us) λ_=>none) (cellsFrom (s.heap.objs.size+1) scope.names []) (bindC (envOfC qual scope s.heap.objs.size f cd).kindOf (ps.zip us) λ_=>none) s1) :
  Inv (cxOf CX P w K mg base N qual scope f cd A outer s H E) [] (start N vs) H s1:=by
 have hpl:ps.length<=N.length:=by have:=congrArg List.length S.pre;rw[List.length_take]at this;omega
 obtain⟨h1,tk,rfl,hk⟩:=x.done
 have noA:∀b:Addr,b∉(cxOf CX P w K mg base N qual scope f cd A outer s H E).ex:=λb z=>absurd (show b∈([]:List Addr) from z) (by simp)
 refine⟨⟨e0.mod,S.kind,rfl,rfl,Nat.le_refl _,λy z c h1 h2=>?_,λy hy=>?_,λy c _ h=>?_,λ_=>hd,Around.frames_deeper e0.frames,.inr ⟨rfl,rfl⟩,λb z=>absurd z (noA b),e0.bs,e0.bsz,λb _ _=>noA b,λb z=>absurd z (noA b),e0.funs,e0.frf⟩,
  rfl,e0.bare,Un.kept hk,⟨_,x.toInCall.ns,λi y v h1 h2 h3=>?_⟩,λy c h=>⟨_,x.cell y c h⟩,e0.hok.fresh (Nat.le_refl _),λy c h=>?_,λp hp=>absurd (show p∈([]:List (Addr×Obj)) from hp) (by simp),e0.hok.kept hk,?_⟩
 ·exact name_of_addr x.apart (PySem.mem_of_lookup h1) (PySem.mem_of_lookup h2)
 ·have hy:scope.names.lookup y=some .cell\/scope.names.lookup y=some .free:=hy
  rcases hy with hy | hy
  ·exact cell_has hy
  ·exact absurd rfl (S.nofree _ (PySem.mem_of_lookup hy))
 ·exact Nat.le_of_lt (x.above y c (PySem.mem_of_lookup h))
 ·have hi:i<vs.length:=by
   unfold start at h2
   by_cases hi:i<vs.length
   ·exact hi
   ·rw[List.getElem?_append_right (by simpa using hi)]at h2
    rw[List.getElem?_replicate]at h2
    split at h2 <;> cases h2
  have ha:vs[i]?=some v:=by
   unfold start at h2
   rw[List.getElem?_append_left (by simpa using hi),List.getElem?_map]at h2
   cases e:vs[i]? with
   | none=>rw[e]at h2;cases h2
   | some a=>rw[e]at h2;cases h2;rfl
  obtain⟨u,hu,rv⟩:=r.get ha
  have hp:ps[i]?=some y:=by
   rw[<-S.pre,List.getElem?_take_of_lt (by omega)];exact h1
  have ndP:ps.Nodup:=by rw[<-S.pre];exact S.nd.sublist (List.take_sublist _ _)
  refine⟨u,rv,?_⟩
  rcases S.par y (List.mem_of_getElem? hp) with k | k
  ·exact .inl ⟨k,bindL_get ndP hp hu k⟩
  ·obtain⟨c,e⟩:=cell_has (n:=s.heap.objs.size+1) k
   refine .inr ⟨.inl k,c,e,?_⟩
   have q:=x.cell y c e
   rw[bindC_get ndP hp hu (by show scope.names.lookup y≠_;rw[k];decide)]at q
   exact q
 ·exact e0.hok.fresh (Nat.le_of_lt (x.above y c (PySem.mem_of_lookup h)))
 ·unfold start
  show _=N.length
  rw[List.length_append,List.length_map,List.length_replicate]
  omega
theorem fn_of {CX:CXT}{P:Program}{w:World}{K:PySem.W.Frag}{mg:Str->Option Value}{base:Heap}{k:Nat}{f:Addr}{name qual:Str}{params:Arguments}{body:List Stmt}{scope:Scope}{dV kV doc pm cdv ct oc:Value}{an od:Option Addr}
  {osl:Array (Option Value)}{N ps:List Str}{sp:Sp}(lk:K.lookup f=some ⟨oc,od,.func (PySem.W.fnOf name qual params body scope dV kV doc pm an cdv ct),osl⟩) (hcd:PySem.W.codeIn K cdv qual=true) (S:qqb N ps scope)
  (len:∀vs H Q E,sp vs H Q E->vs.length=ps.length)
  (hbody:∀(A:Around) (outer:List Env) (s:Shared) (H:Hp) (vs:List V) (Q:VK) (E:XK),Room k (A.deeper (envOfC qual scope s.heap.objs.size f cdv))->sp vs H Q E ->
   ∃t,PSs (cxOf CX P w K mg base N qual scope f cdv A outer s H E) body t/\t { nx:=λ_ H'=>Q .non H',rt:=Q } (start N vs) H) :
  FnOk P w K mg base CX (k+1) f (PySem.W.fnOf name qual params body scope dV kV doc pm an cdv ct) ps sp:=by
 refine⟨len,λA outer s H args us vs Q E hr e0 hb r hsp=>?_⟩
 have hl:=len _ _ _ _ hsp
 have KX:K.In s.heap:=e0.mod.kin.keeps λb o e=>(e0.bs b o e).1
 have lim:s.heap.NoLimit:=e0.mod.nolimit.keeps λb o e=>(e0.bs b o e).1
 have hkind:∀y∈ps.zip us,scope.names.lookup y.1=some .local\/(scope.names.lookup y.1=some .cell/\((cellsFrom (s.heap.objs.size+1) scope.names []).lookup y.1).isSome=true):=λ⟨n,v⟩ hy=>by
  rcases S.par n (List.of_mem_zip hy).1 with q | q
  ·exact .inl q
  ·exact .inr ⟨q,PySem.W.cellsFrom_some _ _ _ (.inl q)⟩
 refine codeAny_call_function hr.depth (KX _ _ lk) rfl S.co S.gen rfl (PySem.W.codeRec_of KX hcd) (hb _ _ _ _ ?_)
 refine wpAny_newFunctionEnv_cells S.kind hkind λenv he s1 x=>?_
 subst he
 refine⟨lim.keeps x.toInCall.keep,codeAny_func ?_⟩
 obtain⟨t,ht,hq⟩:=hbody A outer s H vs Q E (hr.deeper _) hsp
 have I:Inv (cxOf CX P w K mg base N qual scope f cdv A outer s H E) [] (start N vs) H s1:=inv_start S hr.hd e0 hl r x
 refine wpAny_mono (ht [] s1 (start N vs) H _ I hq) (λfl s' hs=>?_) λe s' hs=>hs
 have fin:∀ {σ':St}{H':Hp}{v:V}{u:Value},Inv (cxOf CX P w K mg base N qual scope f cdv A outer s H E) [] σ' H' s'->RelV v u->Q v H'->CE outer P w H s Q u s' :=
  λ{σ' H' v u} J rv q=>⟨v,H',J.os,J.bare,J.base,J.hok,rv,q⟩
 cases fl with
 | ret u =>
  obtain⟨v,σ',H',J,rv,q⟩:=hs
  exact fin J rv q
 | next =>
  obtain⟨σ',H',J,q⟩:=hs
  exact fin (v:=V.non) (u:=Value.none) J rfl q
 | brk =>
  obtain⟨_,_,_,q⟩:=hs
  exact False.elim q
 | cont =>
  obtain⟨_,_,_,q⟩:=hs
  exact False.elim q
end L2
namespace L2
open PySem PySem.Spec PyProof.Rows
section
variable {X:Cx}{x:Str}{p pos:Pos}{e:Expr}{es:List Expr}{t:TA}{id T:String}{r:List V->Hp->VK->Prop}
def tCB (r:List V->Hp->VK->Prop) (t:TA):TE:=λσ H Q=>t σ H λvs H1=>r vs H1 Q
theorem pe_callB (hc:CallR X (.builtin id) r) (hg:Gl X x) (hm:X.mg x=none) (hv:bootBuiltins x=some (.builtin id)) (ha:PA X (e::es) t) (hn:x≠"__name__":=by decide) (hdb:(x == ("__debug__":Str))=false:=by decide)
  (he:starEach (e::es) X.env=(false,eval e X.env)::starEach es X.env:=by rfl) (hpl:(backTo pos (starEach es X.env)).any (·.1)=false:=by rfl):PE X (.Call (.Name x p) (e::es) [] pos) (tCB r t):=by
 intro pins s σ H Q I h
 refine wpAny_Call_Name_kw (ld_blt I hg hm hv ?_ hn hdb)
 exact PyProof.Rows.callWith_builtin1 (thn (ha pos pins s σ H _ I h) λus s1 ⟨vs,H1,I1,r1,q1⟩=>hc pins s1 σ H1 vs us Q I1 r1 q1) he hpl
theorem pe_callTy (hc:CallR X (.type T) r) (hg:Gl X x) (hm:X.mg x=none) (hv:bootBuiltins x=some (.type T)) (ha:PA X (e::es) t) (hn:x≠"__name__":=by decide) (hdb:(x == ("__debug__":Str))=false:=by decide)
  (he:starEach (e::es) X.env=(false,eval e X.env)::starEach es X.env:=by rfl) (hpl:(backTo pos (starEach es X.env)).any (·.1)=false:=by rfl):PE X (.Call (.Name x p) (e::es) [] pos) (tCB r t):=by
 intro pins s σ H Q I h
 refine wpAny_Call_Name_kw (ld_blt I hg hm hv ?_ hn hdb)
 exact PyProof.Rows.callWith_type1 (thn (ha pos pins s σ H _ I h) λus s1 ⟨vs,H1,I1,r1,q1⟩=>hc pins s1 σ H1 vs us Q I1 r1 q1) he hpl
end
end L2
namespace HT
open PySem PyProof.Rows
def lexLt:List Int->List Int->Bool
 | [],[]=>false
 | [],_::_=>true
 | _::_,[]=>false
 | x::xs,y::ys=>if x=y then lexLt xs ys else decide (x<y)
theorem lexLt_cons (x y:Int) (xs ys:List Int):lexLt (x::xs) (y::ys)=if x=y then lexLt xs ys else decide (x<y):=rfl
theorem lexLt_nil_nil:lexLt [] []=false:=rfl
theorem lexLt_nil_cons (y:Int) (ys:List Int):lexLt [] (y::ys)=true:=rfl
theorem lexLt_cons_nil (x:Int) (xs:List Int):lexLt (x::xs) []=false:=rfl
theorem eqAt_int (A:Around) (s:Shared) (a:Int) (t:Tok) (c:Int) (u:Tok):∃e,SeqAt.EqAt A s (.int a t) (.int c u) e/\(e=true↔a=c) :=
 ⟨(a == c),SeqAt.EqAt.int_int a t c u,by simp⟩
theorem rcLt_int (A:Around) (s:Shared) (a:Int) (t:Tok) (c:Int) (u:Tok) (prog:Program) (w:World) (E:Value->Shared->Prop) (Q:Value->Shared->Prop) (h:Q (.bool (decide (a<c))) s) :
  wpAny (model prog w) A (richCompare .Lt (.int a t) (.int c u)) Q E s :=
 (PyProof.Rows.lt_int h:wpAny (model prog w) A (compareOp .Lt (.int a t) (.int c u)) Q E s)
section
open PySem.SeqAt
open PySem.AutoSeq1 (wpAny_loadPart')
open PySem.MeetsSeq PySem.MeetsSeq2 PySem.MeetsSeq3
theorem tuple_lt_ints (l b:Addr) (items items2:Array Value) (n n2:Nat) (dd dd2:Option Addr) (sl sl2:Array (Option Value)) (ns ms:List Int) (hi:IntsAre items.toList ns) (hj:IntsAre items2.toList ms) :
  Meets (Builtin.«tuple.__lt__» ⟨[.ref l,.ref b],[]⟩)
   (λ_ R s=>s.heap.get? l=some { cls:=.type "tuple",dict:=dd,data:=.seq items n,slots:=sl }/\s.heap.get? b=some { cls:=.type "tuple",dict:=dd2,data:=.seq items2 n2,slots:=sl2 } /\
    R (.ok (.ret (.bool (lexLt ns ms)))) s) :=
 .of_wp λprog w A R s h=>by
  obtain⟨hp,g,d,tk,os⟩:=s;obtain⟨hl,hb,h⟩:=h
  have f2:=AutoSeq1.sub_tuple_tuple
  have z1:items.size=ns.length:=by rw[<-hi.length];simp
  have z2:items2.size=ms.length:=by rw[<-hj.length];simp
  wp_walk using wpAny_loadPart' hl,wpAny_loadPart' hb,wpAny_forIn_list _ (λrest b s'=>b.1=none/\s'=⟨hp,g,d,tk,os⟩/\∃(vs ws:List Value) (ns' ms':List Int),rest=vs.zip ws /\
   IntsAre vs ns'/\IntsAre ws ms'/\ns'.length+items2.size=ms'.length+items.size/\R (.ok (.ret (.bool (lexLt ns' ms')))) ⟨hp,g,d,tk,os⟩) _
  case turn =>
   rintro⟨y,x⟩ rest b s' ⟨hb',rfl,vs,ws,ns',ms',hz,hvi,hwi,hlen,hR⟩
   cases hvi with
   | nil=>rw[List.zip_nil_left]at hz;cases hz
   | cons a t hvi' =>
    cases hwi with
    | nil=>rw[List.zip_nil_right]at hz;cases hz
    | cons c u hwi' =>
     rw[List.zip_cons_cons]at hz
     injection hz with hyx hrest
     injection hyx with hy hx
     subst hy hx
     rw[lexLt_cons]at hR
     simp only[List.length_cons]at hlen
     obtain⟨e,he,hiff⟩:=eqAt_int A.in1 ⟨hp,g,d,tk,os⟩ a t c u
     refine wpAny_bind (he prog w _ _ ?_)
     cases e with
     | true =>
      rw[if_pos (hiff.mp rfl)]at hR
      wp_walk
      exact⟨rfl,rfl,_,_,_,_,hrest,hvi',hwi',by omega,hR⟩
     | false =>
      rw[if_neg (λq=>absurd (hiff.mpr q) Bool.false_ne_true)]at hR
      have hri:=rcLt_int A.in1 ⟨hp,g,d,tk,os⟩ a t c u prog w
      wp_walk using hri
      exact⟨_,rfl,by simpa using hR⟩
  case fin =>
   rintro⟨b1,b2⟩ s' ⟨hb',rfl,vs,ws,ns',ms',hz,hvi,hwi,hlen,hR⟩
   simp only at hb'
   subst hb'
   have hv:lexLt ns' ms'=decide (items.size<items2.size):=by
    cases hvi with
    | nil =>
     cases hwi with
     | nil =>
      simp only[List.length_nil]at hlen
      rw[lexLt_nil_nil]
      exact (decide_eq_false (by omega)).symm
     | cons c u hw =>
      simp only[List.length_nil,List.length_cons]at hlen
      rw[lexLt_nil_cons]
      exact (decide_eq_true (by omega)).symm
    | cons a t hv =>
     cases hwi with
     | nil =>
      simp only[List.length_nil,List.length_cons]at hlen
      rw[lexLt_cons_nil]
      exact (decide_eq_false (by omega)).symm
     | cons c u hw =>
      rw[List.zip_cons_cons]at hz
      cases hz
   rw[hv]at hR
   wp_walk
   exact⟨_,rfl,by simpa[Builtin.Tuple.tupleCompareSizes] using hR⟩
  case h =>
   exact⟨rfl,rfl,items.toList,items2.toList,ns,ms,rfl,hi,hj,by omega,h⟩
end
section
variable {prog:Program}{w:World}{A:Around}{E:Value->Shared->Prop}{s:Shared}
theorem lt_tupInts {l b:Addr}{items items2:Array Value}{ns ms:List Int}{Q:Value->Shared->Prop}(hl:IsTup s.heap l items) (hb:IsTup s.heap b items2) (hi:IntsAre items.toList ns) (hj:IntsAre items2.toList ms)
  (hu:A.units<cLine) (h:Q (.bool (lexLt ns ms)) s):wpAny (model prog w) A (compareOp .Lt (.ref l) (.ref b)) Q E s:=by
 obtain⟨⟨cls,dd,data,sl⟩,ho,hc,n,hd⟩:=id hl
 obtain⟨⟨cls2,dd2,data2,sl2⟩,ho2,hc2,n2,hd2⟩:=id hb
 simp only at hc hd hc2 hd2
 subst hc hd hc2 hd2
 exact richCompare_meets_room (op:=.Lt) ⟨_,ho,rfl⟩ ⟨_,ho2,rfl⟩ PySem.F.slot_tuple_lt PySem.F.entry_tuple_lt (PySem.F.args_tuple_lt_2 _ _) (tuple_lt_ints l b items items2 n n2 dd dd2 sl sl2 ns ms hi hj)
  ⟨ho,ho2,show Value.bool (lexLt ns ms)≠Value.notImplemented/\Q (.bool (lexLt ns ms)) s from⟨(λx=>nomatch x),h⟩⟩ hu
def sIx (n d:Nat):Option Int->Nat
 | none=>d
 | some v=>if v<0 then (v+(n:Int)).toNat else min v.toNat n
theorem sIx_nat (n d k:Nat):sIx n d (some (k:Int))=min k n:=by
 show (if (k:Int)<0 then ((k:Int)+(n:Int)).toNat else min (k:Int).toNat n)=min k n
 rw[if_neg (by omega),Int.toNat_natCast]
end
end HT
namespace L2
open PySem PySem.Spec PyProof.Rows
abbrev TO:=St->Hp->(Option Int->Hp->Prop)->Prop
def PO (X:Cx) (e:Option Expr) (t:TO):Prop :=
 ∀(pins:List (Addr×Obj)) (s:Shared) (σ:St) (H:Hp) (Q:Option Int->Hp->Prop),Inv X pins σ H s->t σ H Q ->
  wpAny (model X.prog X.w) X.A (evalPart e X.env) (λu s'=>∃o H',Inv X pins σ H' s'/\IsPart u o/\Q o H') X.xe s
def tNoPart:TO:=λ_ H Q=>Q none H
def tPart (t:TE):TO:=λσ H Q=>t σ H λx H1=>∃i,x=.int i/\Q (some i) H1
theorem intsAre_of {ns:List Int}:∀ {us:List Value},Vals (ns.map V.int) us->IntsAre us ns:=by
 induction ns with
 | nil=>intro us r;rw[List.map_nil]at r;cases r;exact .nil
 | cons n ns ih =>
  intro us r
  rw[List.map_cons]at r
  cases r with
  | cons r1 r2 =>
   obtain⟨t,e⟩:=r1
   subst e
   exact .cons n t (ih r2)
section
variable {X:Cx}{e:Expr}{te:TE}{lo hi:Option Expr}{tl th:TO}{pos p2:Pos}
theorem po_none:PO X none tNoPart:=by
 intro pins s σ H Q I h
 rw[evalPart_none]
 exact wpAny_pure ⟨none,H,I,.none,h⟩
theorem po_some (h:PE X e te):PO X (some e) (tPart te):=by
 intro pins s σ H Q I hw
 rw[evalPart_some]
 refine thn (h pins s σ H _ I hw) λu s1 ⟨x,H1,I1,r1,q1⟩=>?_
 obtain⟨i,rfl,q⟩:=q1
 obtain⟨t,rfl⟩:=r1
 exact⟨some i,H1,I1,.int i t,q⟩
def SlR (X:Cx) (r:V->Option Int->Option Int->Hp->VK->Prop):Prop :=
 ∀(pins:List (Addr×Obj)) (s:Shared) (σ:St) (H:Hp) (x:V) (v vl vu:Value) (lo hi:Option Int) (sl:Addr) (Q:VK),Inv X pins σ H s->RelV x v->s.heap.IsSliceOf sl vl vu .none->IsPart vl lo->IsPart vu hi->r x lo hi H Q ->
  ∃T id,typeLookup (.type T) "__getitem__"=pure (some (.builtin id))/\s.TypeIs v T/\wpAny (model X.prog X.w) X.A (getItem v (.ref sl)) (EP X pins σ Q) X.xe s
def tSl (r:V->Option Int->Option Int->Hp->VK->Prop) (te:TE) (tl th:TO):TE:=λσ H Q=>te σ H λx H1=>tl σ H1 λl H2=>th σ H2 λu H3=>r x l u H3 Q
theorem pe_slice {r:V->Option Int->Option Int->Hp->VK->Prop}(hr:SlR X r) (he:PE X e te) (hl:PO X lo tl) (hu:PO X hi th):PE X (.Subscript e (.Slice lo hi none p2) pos) (tSl r te tl th):=by
 intro pins s σ H Q I h
 refine Subscript_ (thn (he pins s σ H _ I h) λv s1 ⟨x,H1,I1,r1,q1⟩=>?_)
 refine wpAny_Slice (thn (hl pins s1 σ H1 _ I1 q1) λvl s2 ⟨l,H2,I2,pl,q2⟩=>thn (hu pins s2 σ H2 _ I2 q2) λvu s3 ⟨u,H3,I3,pu,q3⟩=>?_)
 rw[evalPart_none]
 refine wpAny_pure ?_
 have I4:Inv X pins σ H3 { s3 with heap:=s3.heap.push { cls:=.type "slice",data:=.fields #[vl,vu,.none] } }:=I3.kept (t':=s3.toks) λb ob q=>Heap.get?_push_of_some _ q
 obtain⟨T,id,hT,ht,hg⟩:=hr pins { s3 with heap:=s3.heap.push { cls:=.type "slice",data:=.fields #[vl,vu,.none] } } σ H3 x v vl vu l u s3.heap.objs.size Q I4 r1 (Heap.IsSliceOf.new ..) pl pu q3
 show wpAny (model X.prog X.w) X.A (subscriptTail e (.Slice lo hi none p2) v (.ref s3.heap.objs.size)) (EP X pins σ Q) X.xe { s3 with heap:=s3.heap.push { cls:=.type "slice",data:=.fields #[vl,vu,.none] } }
 exact tail_any (ops:=[.ref s3.heap.objs.size,v]) ht hT hg (by with_unfolding_all rfl)
def cutV (xs:List V) (lo hi:Option Int):List V:=(xs.drop (HT.sIx xs.length 0 lo)).take (HT.sIx xs.length xs.length hi - HT.sIx xs.length 0 lo)
theorem cutV_length (xs:List V) (lo hi:Option Int):(cutV xs lo hi).length<=xs.length:=by
 unfold cutV
 rw[List.length_take,List.length_drop]
 omega
end
end L2
namespace L2
open PySem PySem.Spec PyProof.Rows
def ixN (n:Nat) (i:Int):Option Nat:=if 0<=i then (if i<n then some i.toNat else none) else if -(n:Int)<=i then some (i+n).toNat else none
def atI {α:Type}(xs:List α) (i:Int):Option α:=(ixN xs.length i).bind λj=>xs[j]?
theorem ixN_seq {n:Nat}{i:Int}{j:Nat}(h:ixN n i=some j):seqIndex? i n=some j/\j<n/\-(n:Int)<=i/\i<n:=by
 unfold ixN at h
 by_cases h0:0<=i
 ·rw[if_pos h0]at h
  by_cases h1:i<n
  ·rw[if_pos h1]at h
   have e:i.toNat=j:=Option.some.inj h
   exact⟨by rw[seqIndex_of h0 h1,e],by omega,by omega,h1⟩
  ·rw[if_neg h1]at h;cases h
 ·rw[if_neg h0]at h
  by_cases h1:-(n:Int)<=i
  ·rw[if_pos h1]at h
   have e:(i+n).toNat=j:=Option.some.inj h
   exact⟨by rw[seqIndex_neg (by omega) h1,e],by omega,h1,by omega⟩
  ·rw[if_neg h1]at h;cases h
theorem atI_get {α:Type}{xs:List α}{i:Int}{v:α}(h:atI xs i=some v):∃j,seqIndex? i xs.length=some j/\xs[j]?=some v/\j<xs.length/\-(xs.length:Int)<=i/\i<xs.length:=by
 unfold atI at h
 cases e:ixN xs.length i with
 | none=>rw[e]at h;cases h
 | some j =>
  rw[e]at h
  obtain⟨h1,h2,h3,h4⟩:=ixN_seq e
  exact⟨j,h1,h,h2,h3,h4⟩
theorem atI_nat {α:Type}{xs:List α}{j:Nat}{v:α}(h:xs[j]?=some v):atI xs (j:Int)=some v:=by
 have hj:j<xs.length:=(List.getElem?_eq_some_iff.mp h).1
 have e:ixN xs.length (j:Int)=some j:=by
  unfold ixN
  rw[if_pos (by omega),if_pos (by omega)];simp
 unfold atI;rw[e];exact h
def PlainIx (b:Expr):Prop:=∀o i,subscripted b false o i=operate [o,i] (getItem o i)
def IxR (X:Cx) (r:R2):Prop :=
 ∀(value slice:Expr) (pins:List (Addr×Obj)) (s:Shared) (σ:St) (H:Hp) (x y:V) (v u:Value) (Q:VK),Inv X pins σ H s->RelV x v->RelV y u->r x y H Q ->
  subscripted slice false v u=operate [v,u] (getItem v u)->wpAny (model X.prog X.w) X.A (subscriptTail value slice v u) (EP X pins σ Q) X.xe s
def MtR (X:Cx) (id:String) (r:V->List V->Hp->VK->Prop):Prop :=
 ∀(pins:List (Addr×Obj)) (s:Shared) (σ:St) (H:Hp) (x:V) (xs:List V) (v:Value) (us:List Value) (Q:VK),Inv X pins σ H s->RelV x v->Vals xs us->r x xs H Q ->
  wpAny (model X.prog X.w) X.A (call (.builtin id) (v::us)) (EP X pins σ Q) X.xe s
section
variable {X:Cx}{a b:Expr}{ta tb:TE}{pos:Pos}
theorem pe_ix {r:R2}(hr:IxR X r) (ha:PE X a ta) (hb:PE X b tb) (hs:PlainIx b):PE X (.Subscript a b pos) (tOp r ta tb):=by
 intro pins s σ H Q I h
 exact Subscript_ (binT ha hb I h λv u s2 x y H2 I2 rx ry q=>hr a b pins s2 σ H2 x y v u Q I2 rx ry q (hs _ _))
def rIxL (K:PySem.W.Frag):R2:=λx y H Q=>∃p xs i v,x=.ref p/\y=.int i/\SqL K H p xs/\atI xs i=some v/\Q v H
def rIxT (K:PySem.W.Frag):R2:=λx y H Q=>∃p xs i v,x=.ref p/\y=.int i/\SqT K H p xs/\atI xs i=some v/\Q v H
def rIxS:R2:=λx y H Q=>∃z i c,x=.str z/\y=.int i/\z.length<=sizeLine/\atI z.cps.toList i=some c/\Q (.str ⟨#[c]⟩) H
theorem ix_list:IxR X (rIxL X.K):=by
 intro value slice pins s σ H x y v u Q I rx ry h hs
 obtain⟨p,xs,i,z,rfl,rfl,hq,he,q⟩:=h
 cases rx
 obtain⟨t,rfl⟩:=ry
 obtain⟨its,r,pl,hz⟩:=I.list hq
 obtain⟨j,h1,h2,h3,h4,h5⟩:=atI_get he
 obtain⟨w,ew,rw'⟩:=r.get h2
 have hl:=r.length
 have hn:=line63
 have fin:EP X pins σ Q w s:=⟨z,H,I,rw',q⟩
 by_cases h0:0<=i
 ·have hj:i.toNat=j:=by
   rw[seqIndex_of h0 h5]at h1
   exact Option.some.inj h1
  exact item_listR pl.isList h0 (by omega) (by rw[hj];simpa using ew) fin hs
 ·have hj:(i+(its.toArray.size:Int)).toNat=j:=by
   rw[seqIndex_neg (by omega) h4]at h1
   rw[List.size_toArray,<-hl]
   exact Option.some.inj h1
  exact subscriptTail_builtinR (x:=w) pl.isList.typeIs slot_list_getitem.lookup
   (wpAny_getItem_list_neg (Q:=λr s'=>r=w/\EP X pins σ Q r s') pl.isList (by omega) (by rw[List.size_toArray] <;> omega) (by omega) (by rw[hj];simpa using ew) ⟨rfl,fin⟩) hs
theorem ix_tup:IxR X (rIxT X.K):=by
 intro value slice pins s σ H x y v u Q I rx ry h hs
 obtain⟨p,xs,i,z,rfl,rfl,hq,he,q⟩:=h
 cases rx
 obtain⟨t,rfl⟩:=ry
 obtain⟨its,r,pl,hz⟩:=I.tuple hq
 obtain⟨j,h1,h2,h3,h4,h5⟩:=atI_get he
 obtain⟨w,ew,rw'⟩:=r.get h2
 have hl:=r.length
 have hn:=line63
 have fin:EP X pins σ Q w s:=⟨z,H,I,rw',q⟩
 exact subscriptTail_builtinR (x:=w) pl.typeIs slot_tuple_getitem.lookup
  (getItem_tuple (j:=j) (Q:=λr s'=>r=w/\EP X pins σ Q r s') pl (by omega) (by omega) (by rw[List.size_toArray,<-hl];exact h1) (by simpa using ew) ⟨rfl,fin⟩) hs
theorem ix_str:IxR X rIxS:=by
 intro value slice pins s σ H x y v u Q I rx ry h hs
 obtain⟨z,i,c,rfl,rfl,hz,he,q⟩:=h
 obtain⟨t,rfl⟩:=rx
 obtain⟨t',rfl⟩:=ry
 obtain⟨j,h1,h2,h3,h4,h5⟩:=atI_get he
 have hl:z.cps.toList.length=z.length:=by simp[Str.length]
 rw[hl]at h1 h4 h5
 have hn:=line63
 exact tail_any (typeIs_str s z t) slot_str_getitem.lookup (getItem_str (c:=c) (by
  have e1:decide (i < -(2 ^ 63:Int))=false:=decide_eq_false (by omega)
  have e2:decide (i ≥ 2 ^ 63)=false:=decide_eq_false (by omega)
  rw[e1,e2,Bool.or_false]) (by rw[h1];simpa using h2) ⟨.str ⟨#[c]⟩,H,I.tok _,⟨_,rfl⟩,q⟩) hs
theorem slice_bounds (lo hi:Option Int) (n:Nat):(sliceBounds lo hi none n).1=((HT.sIx n 0 lo:Nat):Int)/\(sliceBounds lo hi none n).2.1=((HT.sIx n n hi:Nat):Int)/\(sliceBounds lo hi none n).2.2=1:=by
 refine⟨?_,?_,rfl⟩
 ·cases lo with
  | none=>simp[sliceBounds,HT.sIx]
  | some i =>
   simp only[sliceBounds,HT.sIx,Option.getD_none,show (1:Int) > 0 by decide,if_true]
   by_cases h:i<0
   ·simp only[h,if_true] <;> omega
   ·simp only[h,if_false] <;> omega
 ·cases hi with
  | none=>simp[sliceBounds,HT.sIx]
  | some i =>
   simp only[sliceBounds,HT.sIx,Option.getD_none,show (1:Int) > 0 by decide,if_true]
   by_cases h:i<0
   ·simp only[h,if_true] <;> omega
   ·simp only[h,if_false] <;> omega
theorem slicePick_cut (its:List Value) (lo hi:Option Int):slicePick its.toArray lo hi none=((its.drop (HT.sIx its.length 0 lo)).take (HT.sIx its.length its.length hi - HT.sIx its.length 0 lo)).toArray:=by
 obtain⟨h1,h2,h3⟩:=slice_bounds lo hi its.toArray.size
 unfold slicePick
 rw[h1,h2,h3]
 simp only[sliceRange_one,pick_run,List.size_toArray] <;> rfl
def rSlL (K:PySem.W.Frag):V->Option Int->Option Int->Hp->VK->Prop:=λx lo hi H Q=>∃a xs,x=.ref a/\SqL K H a xs/\∀p,H p=none->Q (.ref p) (upd H p (.lst (cutV xs lo hi)))
theorem sl_list:SlR X (rSlL X.K):=by
 intro pins s σ H x v vl vu lo hi sl Q I rx hs pl pu h
 obtain⟨a,xs,rfl,hx,q⟩:=h
 cases rx
 obtain⟨its,r,ht,hz⟩:=I.list hx
 have hlen:=r.length
 refine⟨"list",_,slot_list_getitem.lookup,ht.isList.typeIs,?_⟩
 refine wpAny_getItem_list_slice ht.isList hs pl pu .none (by simp) ?_ (by rw[List.size_toArray] <;> omega)
 rw[slicePick_cut,<-hlen]
 refine⟨.ref s.heap.objs.size,_,I.laid (t':=s.toks) (o:=.lst (cutV xs lo hi)) (λb ob q=>Heap.get?_push_of_some _ q) (Nat.le_refl _) ?_,rfl,q _ (I.hok.fresh (Nat.le_refl _))⟩
 exact⟨Nat.le_trans (cutV_length xs lo hi) hz,_,0,(r.drop (HT.sIx xs.length 0 lo)).take (HT.sIx xs.length xs.length hi - HT.sIx xs.length 0 lo),Heap.get?_push_size _ rfl⟩
def flatV:V->Bool
 | .non=>true
 | .bl _=>true
 | .int _=>true
 | .str _=>true
 | _=>false
def eqV:V->V->Bool
 | .non,.non=>true
 | .bl a,.bl b=>a == b
 | .bl a,.int b=>(if a then 1 else 0) == b
 | .int a,.bl b=>a == (if b then 1 else 0)
 | .int a,.int b=>a == b
 | .str a,.str b=>a == b
 | _,_=>false
theorem eqAt_V {A:Around}{s:Shared}{y x:V}{u v:Value}(ry:RelV y u) (rx:RelV x v) (fy:flatV y=true) (fx:flatV x=true):SeqAt.EqAt A s u v (eqV y x):=by
 cases y with
 | non =>
  cases ry
  cases x with
  | non=>cases rx;exact SeqAt.EqAt.same _
  | bl b=>cases rx;exact SeqAt.EqAt.none_bool b
  | int b=>obtain⟨t,rfl⟩:=rx;exact SeqAt.EqAt.none_int b t
  | str b=>obtain⟨t,rfl⟩:=rx;exact SeqAt.EqAt.none_str b t
  | _=>exact absurd (show false=true from fx) Bool.false_ne_true
 | bl a =>
  cases ry
  cases x with
  | non=>cases rx;exact SeqAt.EqAt.bool_none a
  | bl b=>cases rx;exact SeqAt.EqAt.bool_bool a b
  | int b=>obtain⟨t,rfl⟩:=rx;exact SeqAt.EqAt.bool_int a b t
  | str b=>obtain⟨t,rfl⟩:=rx;exact SeqAt.EqAt.bool_str a b t
  | _=>exact absurd (show false=true from fx) Bool.false_ne_true
 | int a =>
  obtain⟨t',rfl⟩:=ry
  cases x with
  | non=>cases rx;exact SeqAt.EqAt.int_none a t'
  | bl b=>cases rx;exact SeqAt.EqAt.int_bool a t' b
  | int b=>obtain⟨t,rfl⟩:=rx;exact SeqAt.EqAt.int_int a t' b t
  | str b=>obtain⟨t,rfl⟩:=rx;exact SeqAt.EqAt.int_str a t' b t
  | _=>exact absurd (show false=true from fx) Bool.false_ne_true
 | str a =>
  obtain⟨t',rfl⟩:=ry
  cases x with
  | non=>cases rx;exact SeqAt.EqAt.str_none a t'
  | bl b=>cases rx;exact SeqAt.EqAt.str_bool a t' b
  | int b=>obtain⟨t,rfl⟩:=rx;exact SeqAt.EqAt.str_int a t' b t
  | str b=>obtain⟨t,rfl⟩:=rx;exact SeqAt.EqAt.str_str a t' b t
  | _=>exact absurd (show false=true from fx) Bool.false_ne_true
 | _=>exact absurd (show false=true from fy) Bool.false_ne_true
def eqU (x:V) (u:Value):Bool:=match u with
 | .none=>eqV .non x
 | .bool b=>eqV (.bl b) x
 | .int i _=>eqV (.int i) x
 | .str z _=>eqV (.str z) x
 | _=>false
theorem eqU_of {x y:V}{u:Value}(r:RelV y u) (f:flatV y=true):eqU x u=eqV y x:=by
 cases y with
 | non=>cases r;rfl
 | bl b=>cases r;rfl
 | int i=>obtain⟨t,rfl⟩:=r;rfl
 | str z=>obtain⟨t,rfl⟩:=r;rfl
 | _=>exact absurd (show false=true from f) Bool.false_ne_true
theorem any_eqU {x:V}:∀ {xs:List V}{us:List Value},Vals xs us->xs.all flatV=true->us.any (eqU x)=xs.any λy=>eqV y x
 | _,_,.nil,_=>rfl
 | y::xs,u::us,.cons r t,f=>by
  rw[List.all_cons,Bool.and_eq_true]at f
  rw[List.any_cons,List.any_cons,eqU_of r f.1,any_eqU t f.2]
theorem mem_eqAt {A:Around}{s:Shared}{x:V}{v:Value}(rx:RelV x v) (fx:flatV x=true):∀ {xs:List V}{us:List Value},Vals xs us->xs.all flatV=true->∀u∈us,SeqAt.EqAt A s u v (eqU x u)
 | _,_,.nil,_=>λu hu=>by cases hu
 | y::xs,u::us,.cons r t,f=>λu' hu=>by
  rw[List.all_cons,Bool.and_eq_true]at f
  rcases List.mem_cons.mp hu with rfl | hu
  ·rw[eqU_of r f.1];exact eqAt_V r rx f.1 fx
  ·exact mem_eqAt rx fx t f.2 u' hu
def inV (x:V) (xs:List V):Bool:=xs.any λy=>eqV y x
def rIn (K:PySem.W.Frag) (neg:Bool):R2:=λx y H Q=>∃p xs,y=.ref p/\(SqL K H p xs\/SqT K H p xs)/\flatV x=true/\xs.all flatV=true/\Q (.bl (if neg then !inV x xs else inV x xs)) H
theorem op_notIn_seq:OpR X (compareOp .NotIn) (rIn X.K true):=by
 intro pins s σ H x y v u Q I rx ry h
 obtain⟨p,xs,rfl,hq,fx,fs,q⟩:=h
 cases ry
 rcases hq with hq | hq
 ·obtain⟨its,r,pl,hz⟩:=I.list hq
  refine SeqAt.notIn_listAt (eqU x) pl.isList (λw hw=>mem_eqAt rx fx r fs w (by simpa using hw)) ⟨.bl _,H,I,rfl,?_⟩
  rw[show its.toArray.any (eqU x)=its.any (eqU x) by simp,any_eqU r fs]
  exact q
 ·obtain⟨its,r,pl,hz⟩:=I.tuple hq
  refine SeqAt.notIn_tupleAt (eqU x) pl (λw hw=>mem_eqAt rx fx r fs w (by simpa using hw)) ⟨.bl _,H,I,rfl,?_⟩
  rw[show its.toArray.any (eqU x)=its.any (eqU x) by simp,any_eqU r fs]
  exact q
theorem call_len_seq:CallR X (.builtin "len") (λxs H Q=>∃p ys,xs=[.ref p]/\(SqL X.K H p ys\/SqT X.K H p ys)/\Q (.int ys.length) H):=by
 intro pins s σ H xs us Q I r h
 obtain⟨p,ys,rfl,hq,q⟩:=h
 obtain⟨u,rfl,rx⟩:=vals1 r
 cases rx
 have hn:=line63
 rcases hq with hq | hq
 ·obtain⟨its,r',pl,hz⟩:=I.list hq
  have hlen:=r'.length
  exact Calls.call_len_list pl.isList (by simp only[List.size_toArray] <;> omega) ⟨.int ys.length,H,I.tok _,⟨s.toks+1,by rw[List.size_toArray,hlen]⟩,q⟩
 ·obtain⟨its,r',pl,hz⟩:=I.tuple hq
  have hlen:=r'.length
  exact len_tuple pl (by simp only[List.size_toArray] <;> omega) ⟨.int ys.length,H,I.tok _,⟨s.toks+1,by rw[List.size_toArray,hlen]⟩,q⟩
theorem call_len_str:CallR X (.builtin "len") (λxs H Q=>∃z,xs=[.str z]/\z.length<=sizeLine/\Q (.int z.length) H):=by
 intro pins s σ H xs us Q I r h
 obtain⟨z,rfl,hz,q⟩:=h
 obtain⟨u,rfl,t,rfl⟩:=vals1 r
 have hn:=line63
 exact len_str (by omega) ⟨.int z.length,H,I.tok _,⟨_,rfl⟩,q⟩
def tyV (K:PySem.W.Frag) (T:String) (x:V) (H:Hp):Prop:=match x with
 | .str _=>T = "str"
 | .int _=>T = "int"
 | .ref p=>(T = "list"/\∃xs,SqL K H p xs)\/(T = "tuple"/\∃o,K.lookup p=some o/\o.cls=.type "tuple"/\o.dict=none) \/
   (T = "dict"/\((∃kvs,H p=some (.dK kvs))\/∃kvs,H p=some (.dT kvs)))\/(T = "set"/\∃S n,H p=some (.set S n))
 | _=>False
theorem tyV_is {pins:List (Addr×Obj)}{σ:St}{H:Hp}{s:Shared}{T:String}{x:V}{v:Value}(I:Inv X pins σ H s) (r:RelV x v) (ty:tyV X.K T x H) :
  s.TypeIs v T/\∀a,v=.ref a->∃ob,s.heap.get? a=some ob/\ob.dict=none:=by
 cases x with
 | str z =>
  obtain⟨t,rfl⟩:=r
  cases (show T = "str" from ty)
  exact⟨typeIs_str s z t,λ_ e=>nomatch e⟩
 | int i =>
  obtain⟨t,rfl⟩:=r
  cases (show T = "int" from ty)
  exact⟨typeIs_int s i t,λ_ e=>nomatch e⟩
 | ref p =>
  cases r
  rcases ty with⟨rfl,xs,hq⟩|⟨rfl,o,hk,hc,hd⟩|⟨rfl,hk⟩|⟨rfl,S,n,hk⟩
  ·obtain⟨its,_,pl,_⟩:=I.list hq
   refine⟨pl.isList.typeIs,λa e=>?_⟩
   cases e
   obtain⟨o,n,e,c,hd,_⟩:=pl
   exact⟨o,e,hd⟩
  ·refine⟨⟨o,I.kIn p o hk,hc⟩,λa e=>?_⟩
   cases e
   exact⟨o,I.kIn _ o hk,hd⟩
  ·have z:∃o,s.heap.get? p=some o/\o.ExactDict:=by
    rcases hk with⟨kvs,hk⟩|⟨kvs,hk⟩
    ·obtain⟨_,_,_,_,o,_,_,e,ex,_⟩:=I.hok p _ hk
     exact⟨o,e,ex⟩
    ·obtain⟨_,_,_,_,o,_,_,e,ex,_⟩:=I.hok p _ hk
     exact⟨o,e,ex⟩
   obtain⟨o,e,ex⟩:=z
   refine⟨⟨o,e,ex.1⟩,λa e2=>?_⟩
   cases e2
   exact⟨o,e,ex.2.1⟩
  ·obtain⟨o,_,_,_,e,ex,_⟩:=I.hok p _ hk
   refine⟨⟨o,e,ex.1⟩,λa e2=>?_⟩
   cases e2
   exact⟨o,e,ex.2.1⟩
 | _=>exact False.elim ty
def tBM0 (K:PySem.W.Frag) (T:String) (r:V->List V->Hp->VK->Prop) (to:TE):TE:=λσ H Q=>to σ H λx H1=>tyV K T x H1/\r x [] H1 Q
def tBM (K:PySem.W.Frag) (T:String) (r:V->List V->Hp->VK->Prop) (to:TE) (t:TA):TE:=λσ H Q=>to σ H λx H1=>tyV K T x H1/\t σ H1 λxs H2=>r x xs H2 Q
variable {o e:Expr}{es:List Expr}{to:TE}{t:TA}{name:Str}{apos cpos:Pos}{T id:String}{r:V->List V->Hp->VK->Prop}
theorem pe_bm (pa:PlainAttrs T) (slot:Slot T name id) (hty:typeOf (.builtin id)=pure (.type "method_descriptor")) (hm:MtR X id r) (ho:PE X o to) (ha:PA X (e::es) t)
  (hbase:attributeBase o name X.env (eval o X.env)=eval o X.env:=by rfl)
  (hfew:((backTo cpos (starEach (e::es) X.env)).all (λx=>!x.1)&&(backToKw cpos (keywordEach [] X.env)).all (λx=>x.1.isSome)
   && decide ((e::es).length+([]:List Keyword).length+(if ([]:List Keyword).isEmpty then 0 else 1)<30))=true:=by rfl)
  (hline:(apos.endLine == cpos.line)=true:=by rfl) (hs:starEach (e::es) X.env=(false,eval e X.env)::starEach es X.env:=by rfl) (hplain:(backTo cpos (starEach es X.env)).any (·.1)=false:=by rfl) :
  PE X (.Call (.Attribute o name apos) (e::es) [] cpos) (tBM X.K T r to t):=by
 intro pins s σ H Q I h
 refine wpAny_Call_method_late hbase hfew hline rfl (thn (ho pins s σ H _ I h) λv s1 ⟨x,H1,I1,r1,ty,q1⟩=>?_)
 obtain⟨h1,h2⟩:=tyV_is I1 r1 ty
 refine⟨T,id,pa,slot,hty,h1,h2,?_⟩
 have hA:=ha cpos pins s1 σ H1 _ I1 q1
 rw[hs]at hA ⊢
 refine Calls.callWith_builtin (by show (false||(backTo cpos (starEach es X.env)).any (·.1))=false;rw[hplain] <;> rfl) (Calls.evalArgs_plain ?_)
 exact thn hA λus s2 ⟨vs,H2,I2,r2,q2⟩=>hm pins s2 σ H2 x vs v us Q I2 r1 r2 q2
end
end L2
namespace L2
open PySem PySem.Spec PyProof.Rows
def MtM (X:Cx) (id:String) (r:V->List V->Hp->VK->Prop):Prop :=
 ∀(pins:List (Addr×Obj)) (s:Shared) (σ:St) (H:Hp) (x:V) (xs:List V) (v:Value) (us:List Value) (Q:VK),Inv X pins σ H s->RelV x v->Vals xs us->r x xs H Q ->
  wpAny (model X.prog X.w) X.A (call (.builtin id) (v::us)) (EP X pins σ Q) X.xe s
theorem Vals.one:∀ {x:V}{us:List Value},Vals [x] us->∃u,us=[u]/\RelV x u
 | _,_,.cons r .nil=>⟨_,rfl,r⟩
theorem Vals.two:∀ {x y:V}{us:List Value},Vals [x,y] us->∃u v,us=[u,v]/\RelV x u/\RelV y v
 | _,_,_,.cons r (.cons q .nil)=>⟨_,_,rfl,r,q⟩
section
variable {X:Cx}{pins:List (Addr×Obj)}{σ:St}{H:Hp}{s:Shared}{l b:Addr}{xs ys zs:List V}
theorem Inv.lset {its its':List Value}{n:Nat}{f:Array Value->Array Value}{t':Nat}(I:Inv X pins σ H s) (hH:H l=some (.lst xs))
  (e:s.heap.get? l=some { cls:=.type "list",data:=.seq its.toArray n }) (hf:f its.toArray=its'.toArray) (hv:Vals ys its') (hz:ys.length<=sizeLine) :
  Inv X pins σ (upd H l (.lst ys)) { s with heap:=s.heap.update l (Obj.mapSeq f),toks:=t' }:=by
 have q:=PySem.IsL.update e f
 rw[hf]at q
 refine I.write (x:=l) (e:=l) (by rw[hH];exact trivial) (.inl rfl) (λb' u hb hu=>(Heap.get?_update_other s.heap (Obj.mapSeq f) (Ne.symm hb)).trans hu) ⟨_,q⟩ ?_
 exact⟨hz,its',_,hv,q⟩
theorem Inv.lnew {its:List Value}{t':Nat}(I:Inv X pins σ H s) (hv:Vals ys its) (hz:ys.length<=sizeLine) :
  Inv X pins σ (upd H s.heap.objs.size (.lst ys)) { s with heap:=s.heap.push { cls:=.type "list",data:=.seq its.toArray },toks:=t' } :=
 I.laid (λ_ _ q=>Heap.get?_push_of_some _ q) (Nat.le_refl _) ⟨hz,its,0,hv,Heap.get?_push_size _ rfl⟩
theorem Inv.fresh (I:Inv X pins σ H s):H s.heap.objs.size=none:=I.hok.fresh (Nat.le_refl _)
theorem Inv.lstM (I:Inv X pins σ H s) (hH:H l=some (.lst xs)):xs.length<=sizeLine/\∃(its:List Value) (n:Nat),Vals xs its/\xs.length=its.length/\s.heap.get? l=some { cls:=.type "list",data:=.seq its.toArray n }:=by
 obtain⟨z,its,n,r,e⟩:=I.hok l _ hH
 exact⟨z,its,n,r,r.length,e⟩
theorem notLongL {n:Nat}(h:n<=sizeLine):Builtin.List.listTooLong n=false:=by
 unfold Builtin.List.listTooLong
 exact decide_eq_false (by omega)
end
section
variable {X:Cx}
def rAppend:V->List V->Hp->VK->Prop:=λx vs H Q=>∃l xs y,x=.ref l/\vs=[y]/\H l=some (.lst xs)/\xs.length<sizeLine/\Q .non (upd H l (.lst (xs++[y])))
theorem mt_append:MtM X "list.append" rAppend:=by
 intro pins s σ H x vs v us Q I rx rv h
 obtain⟨l,xs,y,rfl,rfl,hH,hz,q⟩:=h
 cases rx
 obtain⟨u,rfl,ru⟩:=rv.one
 obtain⟨z,its,n,r,hl,e⟩:=I.lstM hH
 refine call_meets F.slot_list_append ⟨_,e,rfl⟩ F.entry_list_append (F.args_list_append_2 _ _) (PySem.list_append l its.toArray n u (by rw[List.size_toArray];omega)) ⟨e,?_⟩
 refine⟨.non,_,I.lset (its':=its++[u]) hH e (by simp) (r.append (.cons ru .nil)) ?_,rfl,q⟩
 rw[List.length_append,List.length_singleton]
 omega
def rExtend:V->List V->Hp->VK->Prop:=λx vs H Q=>∃l b xs zs,x=.ref l/\vs=[.ref b]/\H l=some (.lst xs)/\H b=some (.lst zs)/\xs.length+zs.length<=sizeLine/\Q .non (upd H l (.lst (xs++zs)))
theorem mt_extend:MtM X "list.extend" rExtend:=by
 intro pins s σ H x vs v us Q I rx rv h
 obtain⟨l,b,xs,zs,rfl,rfl,hH,hB,hz,q⟩:=h
 cases rx
 obtain⟨u,rfl,ru⟩:=rv.one
 cases ru
 obtain⟨z,its,n,r,hl,e⟩:=I.lstM hH
 obtain⟨z2,its2,n2,r2,hl2,e2⟩:=I.lstM hB
 have hsz:its.toArray.size+its2.toArray.size<=sizeLine:=by rw[List.size_toArray,List.size_toArray];omega
 have hlong:¬(!its.toArray.isEmpty&&Builtin.List.listTooLong (its.toArray.size+its2.toArray.size))=true:=by
  rw[notLongL hsz,Bool.and_false]
  exact Bool.false_ne_true
 refine call_meets F.slot_list_extend ⟨_,e,rfl⟩ F.entry_list_extend (F.args_list_extend_2 _ _)
  (AutoSeq1.list_extend_list_list_0 l its.toArray n b its2.toArray n2 hlong (by rw[List.size_toArray];omega) (by omega)) ⟨e,e2,?_⟩
 refine⟨.non,_,I.lset (its':=its++its2) hH e (by simp) (r.append r2) ?_,rfl,q⟩
 rw[List.length_append]
 omega
def rCat:R2:=λx y H Q=>∃l b xs zs,x=.ref l/\y=.ref b/\H l=some (.lst xs)/\H b=some (.lst zs)/\xs.length+zs.length<=sizeLine/\∀p,H p=none->Q (.ref p) (upd H p (.lst (xs++zs)))
theorem op_cat:OpR X (binaryOp .Add) rCat:=by
 intro pins s σ H x y v u Q I rx ry h
 obtain⟨l,b,xs,zs,rfl,rfl,hH,hB,hz,q⟩:=h
 cases rx
 cases ry
 obtain⟨z,its,n,r,hl,e⟩:=I.lstM hH
 obtain⟨z2,its2,n2,r2,hl2,e2⟩:=I.lstM hB
 refine PySem.P.add_list e e2 ?_ (by rw[List.size_toArray,List.size_toArray];omega)
 have ea:its.toArray++its2.toArray=(its++its2).toArray:=by simp
 rw[ea]
 exact⟨.ref _,_,I.lnew (t':=s.toks) (r.append r2) (by rw[List.length_append];omega),rfl,q _ I.fresh⟩
end
section
variable {prog:Program}{w:World}{A:Around}{E:Value->Shared->Prop}{s:Shared}
set_option maxRecDepth 100000 in
end
section
variable {X:Cx}
end
end L2
namespace L2
open PySem PySem.Spec PyProof.Rows
theorem Vals.ints:∀ {ns:List Int}{us:List Value},Vals (ns.map V.int) us->IntsAre us ns
 | [],us,h=>by
  rw[List.map_nil]at h
  cases h
  exact IntsAre.nil
 | n::ns,us,h=>by
  rw[List.map_cons]at h
  cases h with
  | cons r t =>
   obtain⟨k,rfl⟩:=r
   exact IntsAre.cons n k (Vals.ints t)
theorem vals_of_ints:∀ {us:List Value}{ns:List Int},IntsAre us ns->Vals (ns.map V.int) us
 | _,_,.nil=>by rw[List.map_nil];exact Paired.nil
 | _,_,.cons n t h=>by rw[List.map_cons];exact Paired.cons (show RelV (V.int n) (Value.int n t) from⟨t,rfl⟩) (vals_of_ints h)
theorem Vals.ref1 {a:Addr}{us:List Value}(r:Vals [V.ref a] us):us=[Value.ref a]:=by
 cases r with
 | cons r t =>
  cases t
  cases r
  rfl
section
variable {prog:Program}{w:World}{A:Around}{E:Value->Shared->Prop}{s:Shared}{l:Addr}{its:List Value}{ns:List Int}{Q:Value->Shared->Prop}
end
section
variable {X:Cx}
end
section
variable {X:Cx}
end
section
variable {X:Cx}
end
section
variable {X:Cx}
end
mutual
inductive Dp (K:PySem.W.Frag) (H:Hp):V->PyData->Prop
 | non:Dp K H .non .none
 | bl (b:Bool):Dp K H (.bl b) (.bool b)
 | int (i:Int):Dp K H (.int i) (.int i)
 | str (x:Str):Dp K H (.str x) (.str x)
 | lst {a:Addr}{xs:List V}{ds:List PyData}:SqL K H a xs->DpAll K H xs ds->Dp K H (.ref a) (.list ds)
 | tup {a:Addr}{xs:List V}{ds:List PyData}:SqT K H a xs->DpAll K H xs ds->Dp K H (.ref a) (.tuple ds)
inductive DpAll (K:PySem.W.Frag) (H:Hp):List V->List PyData->Prop
 | nil:DpAll K H [] []
 | cons {v:V}{vs:List V}{d:PyData}{ds:List PyData}:Dp K H v d->DpAll K H vs ds->DpAll K H (v::vs) (d::ds)
end
section
variable {X:Cx}{pins:List (Addr×Obj)}{σ:St}{H:Hp}{s:Shared}
mutual
theorem Dp.reads (I:Inv X pins σ H s):∀(d:PyData) (v:V) (u:Value),Dp X.K H v d->RelV v u->∃as,Reads s.heap u d as
 | .none,_,_,h,r=>by
  cases h
  cases r
  exact⟨_,Reads.none⟩
 | .bool b,_,_,h,r=>by
  cases h
  cases r
  exact⟨_,Reads.bool b⟩
 | .int i,_,_,h,r=>by
  cases h
  obtain⟨t,rfl⟩:=r
  exact⟨_,Reads.int i t⟩
 | .str x,_,_,h,r=>by
  cases h
  obtain⟨t,rfl⟩:=r
  exact⟨_,Reads.str x t⟩
 | .list ds,_,_,h,r=>by
  cases h with
  | lst hs ha =>
   cases r
   obtain⟨its,rv,⟨o,n,ho,hc,_,hd⟩,_⟩:=I.list hs
   obtain⟨as,hr⟩:=Dp.readsAll I ds _ its ha rv
   exact⟨_,Reads.list ho hc hd hr⟩
 | .tuple ds,_,_,h,r=>by
  cases h with
  | tup hs ha =>
   cases r
   obtain⟨its,rv,⟨o,ho,hc,n,hd⟩,_⟩:=I.tuple hs
   obtain⟨as,hr⟩:=Dp.readsAll I ds _ its ha rv
   exact⟨_,Reads.tuple ho hc hd hr⟩
 | .dict _,_,_,h,_=>by cases h
theorem Dp.readsAll (I:Inv X pins σ H s):∀(ds:List PyData) (vs:List V) (us:List Value),DpAll X.K H vs ds->Vals vs us->∃as,ReadsAll s.heap us ds as
 | [],_,_,h,r=>by
  cases h
  cases r
  exact⟨_,ReadsAll.nil⟩
 | d::ds,_,_,h,r=>by
  cases h with
  | cons h1 h2 =>
   cases r with
   | cons r1 r2 =>
    obtain⟨as,q1⟩:=Dp.reads I d _ _ h1 r1
    obtain⟨bs,q2⟩:=Dp.readsAll I ds _ _ h2 r2
    exact⟨_,ReadsAll.cons q1 q2⟩
end
end
section
variable {X:Cx}
def rEqD (K:PySem.W.Frag):R2:=λx y H Q=>∃d e,Dp K H x d/\Dp K H y e/\SeqAt.shaped d=true/\SeqAt.shaped e=true/\Q (.bl (PyData.eqv d e)) H
theorem op_eqD (hu:X.A.units+64<cLine):OpR X (compareOp .Eq) (rEqD X.K):=by
 intro pins s σ H x y v u Q I rx ry h
 obtain⟨d,e,hd,he,sd,se,q⟩:=h
 obtain⟨as,r1⟩:=Dp.reads I d x v hd rx
 obtain⟨bs,r2⟩:=Dp.reads I e y u he ry
 exact SeqAt.compareEq_shaped r1 r2 sd se hu ⟨.bl _,H,I,rfl,q⟩
end
end L2
namespace L2
open PySem PySem.Spec PyProof.Rows
abbrev CellAt (h:Heap) (c:Addr) (v:Option Value):Prop:=h.IsCell c v
def relS (scope sc:Scope):Scope :=
 { scope with names:=scope.names.map λ(n,k)=>if (k == .free&&sc.kind == .function&&sc.names.lookup n == some .cell) then (n,.cell) else (n,k) }
def cloFrom (cells:List (Str×Addr)):List (Str×NameKind)->List (Str×Addr)->List (Str×Addr)
 | [],acc=>acc
 | (n,k)::r,acc=>if k == .free then cloFrom cells r ((n,(cells.lookup n).getD 0)::acc) else cloFrom cells r acc
theorem closure_loop (env:Env) (f:Str×NameKind->List (Str×Addr)->Sem (ForInStep (List (Str×Addr))))
  (hf:∀n k c,f (n,k) c=if k == .free then (do let a <- cellOf env n;pure (.yield ((n,a)::c))) else pure (.yield c)) :
  ∀(names:List (Str×NameKind)) (acc:List (Str×Addr)),(∀y∈names,y.2=.free->∃c,env.cells.lookup y.1=some c)->forIn names acc f=pure (cloFrom env.cells names acc)
 | [],acc,_=>by rw[List.forIn_nil];rfl
 | (n,k)::r,acc,h=>by
  rw[List.forIn_cons,hf]
  have ih:=λacc=>closure_loop env f hf r acc λy hy=>h y (List.mem_cons_of_mem _ hy)
  unfold cloFrom
  by_cases hk:(k == NameKind.free)=true
  ·rw[if_pos hk,if_pos hk]
   obtain⟨c,hc⟩:=h (n,k) List.mem_cons_self (by simpa using hk)
   have e:cellOf env n=pure c:=by unfold cellOf;rw[hc]
   rw[e]
   have e2:(env.cells.lookup n).getD 0=c:=by rw[hc];rfl
   rw[e2]
   exact ih _
  ·rw[if_neg hk,if_neg hk]
   exact ih _
theorem closure_ok {scope:Scope}{env:Env}(h:∀y∈scope.names,y.2=.free->∃c,env.cells.lookup y.1=some c):closureFor scope env=pure (cloFrom env.cells scope.names []):=by
 simp only[closureFor]
 rw[closure_loop env _ (λn k c=>rfl) scope.names [] h]
 rfl
theorem mem_lookup {α:Type}:∀ {l:List (Str×α)}{n:Str}{c:α},(n,c)∈l->∃c',l.lookup n=some c'
 | (k,v)::r,n,c,h=>by
  rw[List.lookup_cons]
  cases hb:n == k with
  | true=>exact⟨_,rfl⟩
  | false =>
   rcases List.mem_cons.mp h with e | h
   ·cases e;simp at hb
   ·exact mem_lookup h
theorem cloFrom_mem {cells:List (Str×Addr)}:∀ {names:List (Str×NameKind)}{acc:List (Str×Addr)}{n:Str}{c:Addr},(n,c)∈cloFrom cells names acc->(n,c)∈acc\/((n,.free)∈names/\c=(cells.lookup n).getD 0)
 | [],_,_,_,h=>.inl h
 | (m,k)::r,acc,n,c,h=>by
  unfold cloFrom at h
  split at h
  ·rename_i hk
   have hk:k=.free:=by simpa using hk
   rcases cloFrom_mem h with h | ⟨h1,h2⟩
   ·rcases List.mem_cons.mp h with e | h
    ·cases e;exact .inr ⟨hk▸List.mem_cons_self,rfl⟩
    ·exact .inl h
   ·exact .inr ⟨List.mem_cons_of_mem _ h1,h2⟩
  ·rcases cloFrom_mem h with h | ⟨h1,h2⟩
   ·exact .inl h
   ·exact .inr ⟨List.mem_cons_of_mem _ h1,h2⟩
theorem cloFrom_acc {cells:List (Str×Addr)}:∀ {names:List (Str×NameKind)}{acc:List (Str×Addr)}{p:Str×Addr},p∈acc->p∈cloFrom cells names acc
 | [],_,_,h=>h
 | (m,k)::r,acc,p,h=>by
  unfold cloFrom
  split
  ·exact cloFrom_acc (List.mem_cons_of_mem _ h)
  ·exact cloFrom_acc h
theorem cloFrom_has {cells:List (Str×Addr)}:∀ {names:List (Str×NameKind)}{acc:List (Str×Addr)}{n:Str},(n,.free)∈names->(n,(cells.lookup n).getD 0)∈cloFrom cells names acc
 | (m,k)::r,acc,n,h=>by
  unfold cloFrom
  rcases List.mem_cons.mp h with e | h
  ·cases e
   exact cloFrom_acc List.mem_cons_self
  ·split
   ·exact cloFrom_has h
   ·exact cloFrom_has h
theorem cells_mem:∀ {names:List (Str×NameKind)}{h:Heap}{acc:List (Str×Addr)}{x:Str}{c:Addr},(x,c)∈cellsFrom h.objs.size names acc ->
  (x,c)∈acc\/((x,.cell)∈names/\h.objs.size<=c/\CellAt (pushCells h names) c none)
 | [],_,_,_,_,h=>.inl h
 | (n,k)::r,h,acc,x,c,hm=>by
  unfold cellsFrom at hm
  unfold pushCells
  split at hm
  ·rename_i hk
   rw[if_pos hk]
   have hk:k=.cell:=by simpa using hk
   rw[<-Heap.size_push h { cls:=.type "cell",data:=.cell none }]at hm
   rcases cells_mem hm with hm | ⟨h1,h2,h3⟩
   ·rcases List.mem_cons.mp hm with e | hm
    ·cases e
     exact .inr ⟨hk▸List.mem_cons_self,Nat.le_refl _,_,pushCells_keeps r _ _ _ (Heap.get?_push_size _ rfl),rfl⟩
    ·exact .inl hm
   ·rw[Heap.size_push]at h2
    exact .inr ⟨List.mem_cons_of_mem _ h1,Nat.le_of_succ_le h2,h3⟩
  ·rename_i hk
   rw[if_neg hk]
   rcases cells_mem hm with hm | ⟨h1,h2,h3⟩
   ·exact .inl hm
   ·exact .inr ⟨List.mem_cons_of_mem _ h1,h2,h3⟩
theorem cells_acc:∀ {names:List (Str×NameKind)}{n:Nat}{acc:List (Str×Addr)}{p:Str×Addr},p∈acc->p∈cellsFrom n names acc
 | [],_,_,_,h=>h
 | (m,k)::r,n,acc,p,h=>by
  unfold cellsFrom
  split
  ·exact cells_acc (List.mem_cons_of_mem _ h)
  ·exact cells_acc h
theorem cells_has:∀ {names:List (Str×NameKind)}{n:Nat}{acc:List (Str×Addr)}{x:Str},(x,.cell)∈names->∃c,(x,c)∈cellsFrom n names acc
 | (m,k)::r,n,acc,x,h=>by
  unfold cellsFrom
  rcases List.mem_cons.mp h with e | h
  ·cases e
   exact⟨n,cells_acc List.mem_cons_self⟩
  ·split
   ·exact cells_has h
   ·exact cells_has h
theorem cells_inj:∀ {names:List (Str×NameKind)}{h:Heap}{acc:List (Str×Addr)}{x y:Str}{c:Addr},(∀p∈acc,p.2<h.objs.size)->(∀x y c,(x,c)∈acc->(y,c)∈acc->x=y) ->
  (x,c)∈cellsFrom h.objs.size names acc->(y,c)∈cellsFrom h.objs.size names acc->x=y
 | [],_,_,_,_,_,_,hi,h1,h2=>hi _ _ _ h1 h2
 | (n,k)::r,h,acc,x,y,c,hl,hi,h1,h2=>by
  unfold cellsFrom at h1 h2
  split at h1
  ·rename_i hk
   rw[if_pos hk]at h2
   rw[<-Heap.size_push h { cls:=.type "cell",data:=.cell none }]at h1 h2
   refine cells_inj (h:=h.push _) (λp hp=>?_) (λx y c a b=>?_) h1 h2
   ·rw[Heap.size_push]
    rcases List.mem_cons.mp hp with rfl | hp
    ·exact Nat.lt_succ_self _
    ·exact Nat.lt_succ_of_lt (hl p hp)
   ·rcases List.mem_cons.mp a with e | a <;> rcases List.mem_cons.mp b with e' | b
    ·cases e;cases e';rfl
    ·cases e;exact absurd (hl _ b) (Nat.lt_irrefl _)
    ·cases e';exact absurd (hl _ a) (Nat.lt_irrefl _)
    ·exact hi _ _ _ a b
  ·rename_i hk
   rw[if_neg hk]at h2
   exact cells_inj hl hi h1 h2
theorem newEnv_comp {M:Model}{A:Around}{E:Value->Shared->Prop}{s:Shared}{scope:Scope}{globals:Addr}{closure:List (Str×Addr)}{qual:Str}{func:Option Addr}{code:Value}{around:Env}{builtins:Addr}{Q:Env->Shared->Prop}
  (h:Q (newEnv scope s.heap.objs.size globals (cellsFrom (s.heap.objs.size+1) scope.names closure) qual func code (some around) builtins)
   { s with heap:=pushCells (s.heap.push { cls:=.type "dict",data:=.dict #[] }) scope.names }) :
  wpAny M A (newFunctionEnv scope globals closure [] qual func code (some around) builtins) Q E s:=by
 simp only[newFunctionEnv,Option.isSome_some,if_true]
 refine wpAny_bind (wpAny_alloc ?_)
 refine wpAny_bind (wpAny_layCells _ (λn k c=>rfl) scope.names closure _ _ ?_)
 rw[show ({ s with heap:=s.heap.push { cls:=.type "dict",data:=.dict #[] } }:Shared).heap.objs.size=s.heap.objs.size+1 from Heap.size_push ..]
 rw[List.forIn_nil]
 exact wpAny_bind (wpAny_pure (wpAny_pure h))
theorem lookup_relS {sc:Scope}:∀ {names:List (Str×NameKind)}{x:Str}{k:NameKind},
  (names.map λ(n,k)=>if (k == NameKind.free&&sc.kind == .function&&sc.names.lookup n == some .cell) then (n,NameKind.cell) else (n,k)).lookup x=some k ->
  ∃k',names.lookup x=some k'/\(k=k'\/(k'=.free/\k=.cell))
 | [],_,_,h=>by simp at h
 | (n,k₀)::r,x,k,h=>by
  have ih:=@lookup_relS sc r x k
  have h':List.lookup x ((if (k₀ == NameKind.free&&sc.kind == .function&&sc.names.lookup n == some .cell)=true then (n,NameKind.cell) else (n,k₀))::(r.map _))=some k:=h
  cases hx:x == n with
  | true =>
   simp only[List.lookup_cons,hx]
   by_cases hc:(k₀ == NameKind.free&&sc.kind == .function&&sc.names.lookup n == some .cell)=true
   ·rw[if_pos hc]at h'
    simp only[List.lookup_cons,hx]at h'
    cases h'
    simp only[Bool.and_eq_true,beq_iff_eq]at hc
    exact⟨k₀,rfl,.inr ⟨hc.1.1,rfl⟩⟩
   ·rw[if_neg hc]at h'
    simp only[List.lookup_cons,hx]at h'
    cases h'
    exact⟨_,rfl,.inl rfl⟩
  | false =>
   simp only[List.lookup_cons,hx]
   by_cases hc:(k₀ == NameKind.free&&sc.kind == .function&&sc.names.lookup n == some .cell)=true
   ·rw[if_pos hc]at h'
    simp only[List.lookup_cons,hx]at h'
    exact ih h'
   ·rw[if_neg hc]at h'
    simp only[List.lookup_cons,hx]at h'
    exact ih h'
structure BlkOk (N:List Str) (sc scope:Scope) (own:List (Str×Nat)):Prop where
 kind:scope.kind=.function
 uniq:∀y∈scope.names,scope.names.lookup y.1=some y.2
 ix:∀p∈own,N[p.2]?=some p.1
 free:∀y∈scope.names,y.2=.free->sc.names.lookup y.1=some .cell\/sc.names.lookup y.1=some .free
 own:∀y∈scope.names,y.2=.local\/y.2=.cell->y.1∈own.map (·.1)\/y.1∉N
def wipe (σ:St):List Nat->St
 | []=>σ
 | v::vs=>(wipe σ vs).set v none
theorem wipe_length (σ:St):∀vs:List Nat,(wipe σ vs).length=σ.length
 | []=>rfl
 | v::vs=>by unfold wipe;rw[List.length_set,wipe_length σ vs]
theorem wipe_some {σ:St}{i:Nat}{x:V}:∀ {vs:List Nat},(wipe σ vs)[i]?=some (some x)->σ[i]?=some (some x)/\i∉vs
 | [],h=>⟨h,by simp⟩
 | v::vs,h=>by
  unfold wipe at h
  by_cases hi:v=i
  ·subst hi
   by_cases hv:v<(wipe σ vs).length
   ·rw[List.getElem?_set_self hv]at h;cases h
   ·rw[List.getElem?_eq_none (by simpa using hv)]at h;cases h
  ·rw[List.getElem?_set_ne hi]at h
   obtain⟨h1,h2⟩:=wipe_some h
   exact⟨h1,by simp only[List.mem_cons,not_or];exact⟨λe=>hi e.symm,h2⟩⟩
abbrev Cx.blk (X:Cx) (s:Shared) (H:Hp) (scope:Scope) (cenv:Env) (fp:List Addr):Cx:={ X with s_0:=s,H_0:=H,env:=cenv,outer:=X.stack,ex:=fp,fn:=λx=>scope.names.lookup x == some .cell,pn:=[],xe:=λ_ _=>False }
section
variable {X:Cx}{pins:List (Addr×Obj)}{σ:St}{H:Hp}{s:Shared}
theorem block_start {scope:Scope}{own:List (Str×Nat)}{fp:List Addr}(I:Inv X pins σ H s) (ok:BlkOk X.N X.env.scope scope own) (hN:X.N.Nodup) (hfp:∀b∈fp,FpOk X pins H b/\b<s.heap.objs.size) :
  Inv (X.blk s H scope (compEnvC scope (cellsFrom (s.heap.objs.size+1) scope.names (cloFrom X.env.cells scope.names [])) s.heap.objs.size X.env) fp) [] (wipe σ (own.map (·.2))) H { s with heap:=pushCells (s.heap.push { cls:=.type "dict",data:=.dict #[] }) scope.names }:=by
 have hfree:∀y∈scope.names,y.2=.free->∃c,X.env.cells.lookup y.1=some c:=λy hy e=>by
  rcases ok.free y hy e with k | k
  ·exact I.ok.has _ (.inl k)
  ·exact I.ok.has _ (.inr k)
 generalize hcenv:compEnvC scope (cellsFrom (s.heap.objs.size+1) scope.names (cloFrom X.env.cells scope.names [])) s.heap.objs.size X.env=cenv
 have kp:∀b o,s.heap.get? b=some o->(pushCells (s.heap.push { cls:=.type "dict",data:=.dict #[] }) scope.names).get? b=some o:=λb o e=>pushCells_keeps _ _ _ _ (Heap.get?_push_of_some _ e)
 have hL:cenv.locals=s.heap.objs.size:=by rw[<-hcenv];rfl
 have hcl:cenv.cells=cellsFrom (s.heap.objs.size+1) scope.names (cloFrom X.env.cells scope.names []):=by rw[<-hcenv];rfl
 have hsc:cenv.scope=relS scope X.env.scope:=by rw[<-hcenv];rfl
 rw[<-Heap.size_push s.heap { cls:=.type "dict",data:=.dict #[] }]at hcl
 have cm:∀ {y c},(y,c)∈cloFrom X.env.cells scope.names []->X.env.cells.lookup y=some c/\c<s.heap.objs.size:=λ{y c} hm=>by
  rcases cloFrom_mem hm with hm | ⟨h1,rfl⟩
  ·cases hm
  ·obtain⟨c,hc⟩:=hfree _ h1 rfl
   rw[hc]
   obtain⟨w,z⟩:=I.cell _ _ hc
   exact⟨rfl,z.lt⟩
 have mem:∀ {y c},cenv.cells.lookup y=some c->(X.env.cells.lookup y=some c/\c<s.heap.objs.size)\/(s.heap.objs.size+1<=c/\CellAt (pushCells (s.heap.push { cls:=.type "dict",data:=.dict #[] }) scope.names) c none):=λ{y c} e=>by
  rw[hcl]at e
  rcases cells_mem (PySem.mem_of_lookup e) with hm | ⟨_,h2,h3⟩
  ·exact .inl (cm hm)
  ·rw[Heap.size_push]at h2;exact .inr ⟨h2,h3⟩
 have look:∀ {y},scope.names.lookup y=some .free->∃c,cenv.cells.lookup y=some c/\X.env.cells.lookup y=some c:=λ{y} hl=>by
  have hy:(y,NameKind.free)∈scope.names:=PySem.mem_of_lookup hl
  obtain⟨c',e'⟩:=mem_lookup (cells_acc (names:=scope.names) (n:=(s.heap.push { cls:=.type "dict",data:=.dict #[] }).objs.size) (cloFrom_has (cells:=X.env.cells) (acc:=[]) hy))
  rw[<-hcl]at e'
  refine⟨c',e',?_⟩
  rw[hcl]at e'
  rcases cells_mem (PySem.mem_of_lookup e') with hm | ⟨h1,_,_⟩
  ·exact (cm hm).1
  ·have:=ok.uniq _ h1
   rw[hl]at this;cases this
 have okB:(X.blk s H scope cenv fp).Ok:=by
  refine⟨I.ok.mod,by show cenv.scope.kind=_;rw[hsc];exact ok.kind,by show cenv.globals=_;rw[<-hcenv];exact I.ok.glob,by show cenv.builtins=_;rw[<-hcenv];exact I.ok.blt,by show s.heap.objs.size<=cenv.locals;rw[hL];exact Nat.le_refl _,
   λy z c e1 e2=>?_,λy hy=>?_,λy c z e=>?_,I.ok.hd,I.ok.frames,.inl rfl,λb hb=>⟨?_,λy c e z=>?_⟩,I.bs,Nat.le_trans I.ok.bsz I.sz,λb o e hb=>?_,λb hb z=>?_,I.stack,I.stkFree⟩
  ·have e1:cenv.cells.lookup y=some c:=e1
   have e2:cenv.cells.lookup z=some c:=e2
   rw[hcl]at e1 e2
   refine cells_inj (λp hp=>?_) (λy z c a b=>I.ok.inj y z c (cm a).1 (cm b).1) (PySem.mem_of_lookup e1) (PySem.mem_of_lookup e2)
   rw[Heap.size_push]
   exact Nat.lt_succ_of_lt (cm (y:=p.1) (c:=p.2) hp).2
  ·show ∃c,cenv.cells.lookup y=some c
   have key:∀k,cenv.kindOf y=some k->(k=.cell\/k=.free)->∃c,cenv.cells.lookup y=some c:=λk hk hk'=>by
    unfold Env.kindOf at hk
    rw[hsc]at hk
    obtain⟨k',e,r⟩:=lookup_relS hk
    have:k'=.cell\/k'=.free:=by
     rcases r with rfl | ⟨rfl,_⟩
     ·exact hk'
     ·exact .inr rfl
    rcases this with rfl | rfl
    ·obtain⟨c,hm⟩:=cells_has (n:=(s.heap.push { cls:=.type "dict",data:=.dict #[] }).objs.size) (acc:=cloFrom X.env.cells scope.names []) (PySem.mem_of_lookup e)
     obtain⟨c',e'⟩:=mem_lookup hm
     exact⟨c',by rw[hcl];exact e'⟩
    ·obtain⟨c,h1,_⟩:=look e
     exact⟨c,h1⟩
   rcases hy with hy | hy
   ·exact key _ hy (.inl rfl)
   ·exact key _ hy (.inr rfl)
  ·have z:(scope.names.lookup y == some NameKind.cell)=true:=z
   have z:scope.names.lookup y=some .cell:=by simpa using z
   have e:cenv.cells.lookup y=some c:=e
   rw[hcl]at e
   rcases cells_mem (PySem.mem_of_lookup e) with hm | ⟨_,h2,_⟩
   ·rcases cloFrom_mem hm with hm | ⟨h1,_⟩
    ·cases hm
    ·have q:=ok.uniq _ h1
     rw[z]at q;cases q
   ·rw[Heap.size_push]at h2
    exact Nat.le_of_succ_le h2
  ·show b≠cenv.locals
   rw[hL];exact Nat.ne_of_lt (hfp b hb).2
  ·have e:cenv.cells.lookup y=some c:=e
   rcases mem e with⟨h1,_⟩|⟨h1,_⟩
   ·exact (hfp b hb).1.2.2.2.2.1 y c h1 z
   ·have h2:s.heap.objs.size+1<=b:=by rw[<-z];exact h1
    exact absurd (Nat.lt_of_lt_of_le (hfp b hb).2 (Nat.le_of_succ_le h2)) (Nat.lt_irrefl _)
  ·rcases (hfp b hb).1.2.2.2.1 with z | z
   ·exact I.ok.noex b o e z
   ·exact absurd (Nat.lt_of_lt_of_le (Heap.lt_size e) (Nat.le_trans I.ok.bsz z)) (Nat.lt_irrefl _)
  ·rcases List.mem_cons.mp (I.stkSub b z) with z | z
   ·exact (hfp b hb).1.2.1 z
   ·exact (hfp b hb).1.2.2.1 z
 refine⟨okB,rfl,I.bare,Un.kept kp,⟨λ_=>none,?_,λi y av e1 e2 e3=>?_⟩,λy c e=>?_,?_,λy c e=>?_,λp hp=>?_,I.hok.kept kp,by rw[wipe_length];exact I.len⟩
 ·show Heap.Ns _ cenv.locals _
  rw[hL]
  exact Heap.Ns.keeps (Heap.Ns.new ..) λb o e=>pushCells_keeps _ _ _ _ e
 ·obtain⟨e2,hne⟩:=wipe_some e2
  have hfr:scope.names.lookup y=some .free/\(cenv.kindOf y=some .cell\/cenv.kindOf y=some .free):=by
   have key:∀k,cenv.scope.names.lookup y=some k->k=.local\/k=.cell\/k=.free->scope.names.lookup y=some .free/\(cenv.kindOf y=some .cell\/cenv.kindOf y=some .free):=λk hk hk'=>by
    have hk0:=hk
    rw[hsc]at hk
    obtain⟨k',e,r⟩:=lookup_relS hk
    have no:¬(k'=.local\/k'=.cell):=λhh=>by
     rcases ok.own _ (PySem.mem_of_lookup e) hh with e' | e'
     ·obtain⟨p,hp,hpy⟩:=List.mem_map.mp e'
      have e3:=ok.ix p hp
      have:p.1=y:=hpy
      rw[this]at e3
      exact hne (List.mem_map.mpr ⟨p,hp,nodup_ix hN e3 e1⟩)
     ·exact e' (List.mem_of_getElem? e1)
    rcases r with rfl | ⟨rfl,rfl⟩
    ·rcases hk' with rfl | rfl | rfl
     ·exact absurd (.inl rfl) no
     ·exact absurd (.inr rfl) no
     ·exact⟨e,.inr hk0⟩
    ·exact⟨e,.inl hk0⟩
   have e3:Vis cenv.scope y:=e3
   rcases e3 with e3 | e3 | e3
   ·exact key _ e3 (.inl rfl)
   ·exact key _ e3 (.inr (.inl rfl))
   ·exact key _ e3 (.inr (.inr rfl))
  obtain⟨m,hn,hl⟩:=I.loc
  have hvis:Vis X.env.scope y:=(ok.free _ (PySem.mem_of_lookup hfr.1) rfl).elim (λk=>.inr (.inl k)) (λk=>.inr (.inr k))
  obtain⟨w,r,q⟩:=hl i y av e1 e2 hvis
  refine⟨w,r,.inr ⟨hfr.2,?_⟩⟩
  obtain⟨c,h1,h2⟩:=look hfr.1
  rcases q with⟨k,_⟩|⟨_,c',e',z⟩
  ·have k:X.env.scope.names.lookup y=some .local:=k
   rcases ok.free _ (PySem.mem_of_lookup hfr.1) rfl with k' | k' <;> rw[show X.env.scope.names.lookup y=_ from k']at k <;> cases k
  ·rw[h2]at e';cases e'
   exact⟨c,h1,z.keeps kp⟩
 ·have e:cenv.cells.lookup y=some c:=e
  rcases mem e with⟨h1,_⟩|⟨_,z⟩
  ·obtain⟨w,z⟩:=I.cell y c h1
   exact⟨w,z.keeps kp⟩
  ·exact⟨_,z⟩
 ·show H cenv.locals=none
  rw[hL];exact I.hok.fresh (Nat.le_refl _)
 ·have e:cenv.cells.lookup y=some c:=e
  rcases mem e with⟨h1,_⟩|⟨h1,_⟩
  ·exact I.freeC y c h1
  ·exact I.hok.fresh (Nat.le_of_succ_le h1)
 ·exact absurd (show p∈([]:List (Addr×Obj))++[] from hp) (by simp)
theorem app_ok {E:Value->Shared->Prop}{D:Addr}{xs:List V}{y:V}{v:Value}{Q:Value->Shared->Prop}(I:Inv X pins σ H s) (hD:H D=some (.lst xs)) (hz:xs.length<sizeLine) (r:RelV y v)
  (h:∀s',Inv X pins σ (upd H D (.lst (xs++[y]))) s'->Q .none s'):wpAny (model X.prog X.w) X.A (call (.builtin "list.append") [.ref D,v]) Q E s:=by
 obtain⟨hz',its,n,ri,e⟩:=I.hok D _ hD
 have hl:=ri.length
 refine append_at (hsz:=by rw[List.size_toArray];omega) e λh' sb ho'=>?_
 refine h { s with heap:=h' } (I.write (t':=s.toks) (by rw[hD];trivial) (.inl rfl) (λb u hb q=>(sb.2 b hb).trans q) ⟨_,ho'⟩ ⟨by rw[List.length_append];exact hz,its++[v],n+1,ri.append (.cons r .nil),?_⟩)
 rw[ho']
 simp
def PTs (X:Cx) (ifs:List Expr) (t:TT):Prop :=
 ∀(pins:List (Addr×Obj)) (s:Shared) (σ:St) (H:Hp) (Q:Bool->Hp->Prop),Inv X pins σ H s->t σ H Q ->
  wpAny (model X.prog X.w) X.A (forIn ifs true λc r=>if r=true then do let ok <- isTrue c X.env (eval c X.env);pure (ForInStep.yield ok) else pure (ForInStep.yield r)) (TP X pins σ Q) X.xe s
def tYes:TT:=λ_ H Q=>Q true H
theorem pts_nil:PTs X [] tYes:=λ_ _ _ H _ I h=>wpAny_tests_nil ⟨H,I,h⟩
theorem pts_one {c:Expr}{t:TT}(h:PT X c t):PTs X [c] t:=λpins s σ H Q I hw=>wpAny_tests_one (h pins s σ H Q I hw)
end
theorem thnF {α:Type}{t:Sem α}{Q Q':α->Shared->Prop}{M:Model}{A:Around}{E:Value->Shared->Prop}{s:Shared}(h:wpAny M A t Q (λ_ _=>False) s) (hQ:∀a s,Q a s->Q' a s):wpAny M A t Q' E s:=wpAny_mono h hQ λ_ _ z=>False.elim z
theorem compLoop_any {prog:Program}{w:World}{A:Around}{R:Result->Shared->Prop}{s:Shared}{elt target iter:Expr}{ifs:List Expr}{scope:Scope}{pos:Pos}{it acc:Value}{env:Env}(I:Nat->Shared->Prop)
  (turn:∀n s,I n s->wpAny (model prog w) A (pyNext it) (λr s₁=>match r with
   | none=>R (.ok .next) s₁
   | some v=>wpAny (model prog w) A (letOwnedTupleGo target it v) (λ_ s₁'=>wpAny (model prog w) A (assign target env v) (λ_ s₂ =>
     wpAny (model prog w) A (forIn ifs true λc r=>if r=true then do let ok <- isTrue c env (eval c env);pure (ForInStep.yield ok) else pure (ForInStep.yield r)) (λok s₃ =>
      if ok=true then wpAny (model prog w) A (eval elt env) (λx s₄ =>
       wpAny (model prog w) A (call (.builtin "list.append") [acc,x]) (λ_ s₅=>∃m,m<n/\I m s₅) (notedBy (model prog w) A env λe s'=>R (.error e) s') s₄) (notedBy (model prog w) A env λe s'=>R (.error e) s') s₃
      else ∃m,m<n/\I m s₃) (notedBy (model prog w) A env λe s'=>R (.error e) s') s₂) (notedBy (model prog w) A env λe s'=>R (.error e) s') s₁') (notedBy (model prog w) A env λe s'=>R (.error e) s') s₁) (notedBy (model prog w) A env λe s'=>R (.error e) s') s)
  (n:Nat) (h:I n s) :
  codeAny (model prog w) A (.compLoop (.ListComp elt [⟨target,iter,ifs,0⟩] scope pos) 0 it acc env) R s:=by
 refine codeAny_loop rfl I (λn s hI=>?_) n h
 show wpAny _ A ((compTurn (.ListComp elt [⟨target,iter,ifs,0⟩] scope pos) 0 it acc env).onRaise (λx=>do noteFrame x env;theTreesLotGoes x)) _ _ s
 refine wpAny_noted ?_
 rw[compTurn_list]
 refine wpAny_bind (wpAny_standAt (wpAny_bind (wpAny_mono (turn n s hI) (λr s₁ h₁=>?_) λ_ _ h'=>h')))
 cases r with
 | none=>exact wpAny_pure h₁
 | some v =>
  refine wpAny_bind (wpAny_mono h₁ (λ_ s₁' h₁'=>?_) λ_ _ h'=>h')
  refine wpAny_bind (wpAny_mono h₁' (λ_ s₂ h₂=>wpAny_bind (wpAny_mono h₂ (λok s₃ h₃=>?_) λ_ _ h'=>h')) λ_ _ h'=>h')
  cases ok with
  | false=>exact wpAny_pure ⟨rfl,h₃⟩
  | true =>
   exact wpAny_bind (wpAny_bind (wpAny_mono h₃ (λx s₄ h₄=>wpAny_bind (wpAny_mono h₄ (λ_ s₅ h₅=>wpAny_pure (wpAny_pure ⟨rfl,h₅⟩)) λ_ _ h'=>h')) λ_ _ h'=>h'))
section
variable {X:Cx}
def tLc (wi:TI) (g:TG) (tt:TT) (te:TE) (vs:List Nat):TE:=λσ H Q=>wi σ H λJ H1=>∀D,H1 D=none->∃W:Nat->Nat->Hp->Prop,(∃m,W 0 m (upd H1 D (.lst [])))/\∀i m H,W i m H ->
 (J.stop i H/\Q (.ref D) H)\/(J.go i H/\∃Nx:Hp->Prop,(∀H',Nx H'->∃m',m'<m/\W (i+1) m' H')/\∀x H',J.yld i H x H'->g x (wipe σ vs) H' λσ2 H2=>wipe σ2 vs=wipe σ vs/\tt σ2 H2 λb H3 =>
  if b=true then te σ2 H3 λy H4=>∃acc,H4 D=some (.lst acc)/\acc.length<sizeLine/\Nx (upd H4 D (.lst (acc++[y]))) else Nx H3)
theorem lc_core {pins:List (Addr×Obj)}{s:Shared}{σ:St}{H:Hp}{Q:VK}{elt tg iter:Expr}{ifs:List Expr}{scope:Scope}{own:List (Str×Nat)}{pos pos':Pos}{wi:TI}{g:TG}{tt:TT}{te:TE}{use:Option (Value->Sem Unit)}{Qf:Value->Shared->Prop}
  (hc:X.calm=true) (hN:X.N.Nodup) (I:Inv X pins σ H s) (hi:PI X tg iter wi) (ok:BlkOk X.N X.env.scope scope own)
  (hg:∀(s:Shared) (H:Hp) (C:Addr) (cl:List (Str×Addr)) (fp:List Addr),PG (X.blk s H scope (compEnvC scope cl C X.env) fp) tg g) (ht:∀(s:Shared) (H:Hp) (C:Addr) (cl:List (Str×Addr)) (fp:List Addr),PTs (X.blk s H scope (compEnvC scope cl C X.env) fp) ifs tt)
  (he:∀(s:Shared) (H:Hp) (C:Addr) (cl:List (Str×Addr)) (fp:List Addr),PE (X.blk s H scope (compEnvC scope cl C X.env) fp) elt te) (hs:∀x,foldedSetIterable iter X.env x=pure x)
  (h:tLc wi g tt te (own.map (·.2)) σ H Q)
  (hRR:∀D C s' m H',Inv X pins σ H' s'->Q (.ref D) H'->s'.heap.Ns C m->FpOk X pins H' C->compPost (model X.prog X.w) X.A X.xe use Qf (.ref D) C (.ok .next) s') :
  wpAny (model X.prog X.w) X.A (comprehension (.ListComp elt [⟨tg,iter,ifs,0⟩] scope pos) scope X.env pos' (newList []) false (eval iter X.env) use) Qf X.xe s:=by
 have hfree:∀y∈scope.names,y.2=.free->∃c,X.env.cells.lookup y.1=some c:=λy hy e=>by
  rcases ok.free y hy e with k | k
  ·exact I.ok.has _ (.inl k)
  ·exact I.ok.has _ (.inr k)
 refine wpAny_comprehension_free (use:=use) rfl hs (closure_ok hfree) ok.kind (λy hy e=>by rw[ok.uniq y hy,e])
  (thn (hi pins s σ H _ I h) λxv s1 hx=>thn hx λitv s2 h2=>?_)
 obtain⟨it,fp,tn,J,H2,e,I2,T,st2,f2,q⟩:=h2
 subst e
 refine wpAny_newObj_type (newEnv_comp ?_) (by show 0<=sizeLine;decide)
 generalize hD:s2.heap.objs.size=D
 have hDn:H2 D=none:=I2.hok.fresh (Nat.le_of_eq hD)
 obtain⟨W,⟨m0,w0⟩,turn⟩:=q D hDn
 generalize hs3:({ s2 with heap:=s2.heap.push { cls:=.type "list",data:=.seq ([]:List Value).toArray } }:Shared)=s3
 have I3:Inv X pins σ (upd H2 D (.lst [])) s3:=by
  rw[<-hs3]
  refine I2.laid (t':=s2.toks) (λb o e=>Heap.get?_push_of_some _ e) (Nat.le_of_eq hD) ⟨Nat.zero_le _,[],0,.nil,?_⟩
  rw[<-hD]
  exact Heap.get?_push_size _ rfl
 have h3:s3.heap=s2.heap.push { cls:=.type "list",data:=.seq ([]:List Value).toArray }:=by rw[<-hs3]
 have sz:∀b∈fp,b<s2.heap.objs.size:=λb hb=>by
  obtain⟨o,e,_⟩:=T.obj _ _ st2 b hb
  exact Heap.lt_size e
 have f3:∀b∈fp,FpOk X pins (upd H2 D (.lst [])) b/\b<s3.heap.objs.size:=λb hb=>by
  have hlt:=sz b hb
  refine⟨⟨?_,(f2 b hb).2⟩,by rw[h3,Heap.size_push];exact Nat.lt_succ_of_lt hlt⟩
  rw[qqa (by rw[<-hD];exact Nat.ne_of_lt hlt)]
  exact (f2 b hb).1
 have st3:tn 0 s3.heap:=T.keep _ _ _ st2 λb _ o e=>by rw[h3];exact Heap.get?_push_of_some _ e
 have I4:=block_start I3 ok hN f3
 have pg:=hg s3 (upd H2 D (.lst [])) s3.heap.objs.size (cellsFrom (s3.heap.objs.size+1) scope.names (cloFrom X.env.cells scope.names [])) fp
 have pt:=ht s3 (upd H2 D (.lst [])) s3.heap.objs.size (cellsFrom (s3.heap.objs.size+1) scope.names (cloFrom X.env.cells scope.names [])) fp
 have pe:=he s3 (upd H2 D (.lst [])) s3.heap.objs.size (cellsFrom (s3.heap.objs.size+1) scope.names (cloFrom X.env.cells scope.names [])) fp
 show codeAny _ _ (.compStart (.ListComp elt [⟨tg,iter,ifs,0⟩] scope pos) 0 (.ref it) (.ref D) (compEnvC scope (cellsFrom (s3.heap.objs.size+1) scope.names (cloFrom X.env.cells scope.names [])) s3.heap.objs.size X.env)) (compPost (model X.prog X.w) X.A X.xe use Qf (.ref D) s3.heap.objs.size) { s3 with heap:=pushCells (s3.heap.push { cls:=.type "dict",data:=.dict #[] }) scope.names }
 have nfp:∀b∈fp,(upd H2 D (.lst [])) b=none:=λb hb=>(f3 b hb).1.1
 generalize hce:compEnvC scope (cellsFrom (s3.heap.objs.size+1) scope.names (cloFrom X.env.cells scope.names [])) s3.heap.objs.size X.env=ce at I4 pg pt pe ⊢
 have cL:ce.locals=s3.heap.objs.size:=by subst hce;rfl
 generalize hH3:upd H2 D (.lst [])=H3 at I3 I4 pg pt pe w0 nfp f3
 generalize hs4:({ s3 with heap:=pushCells (s3.heap.push { cls:=.type "dict",data:=.dict #[] }) scope.names }:Shared)=s4 at I4 ⊢
 have st4:tn 0 s4.heap:=T.keep _ _ _ st3 λb _ o e=>by rw[<-hs4];exact pushCells_keeps _ _ _ _ (Heap.get?_push_of_some _ e)
 have stat:∀ {σ':St}{H':Hp}{s':Shared},Inv (X.blk s3 H3 scope ce fp) [] σ' H' s'->(∀b∈fp,H' b=none)->∀b∈fp,FpOk (X.blk s3 H3 scope ce fp) [] H' b:=λ{σ' H' s'} I' hn b hb =>
  ⟨hn b hb,(I'.ok.exf b hb).1,I'.ok.exfs b hb,.inl hb,λx c e=>(I'.ok.exf b hb).2 x c e,λp hp=>absurd (show p∈([]:List (Addr×Obj))++[] from hp) (by simp)⟩
 have loop:codeAny (model X.prog X.w) X.A (.compLoop (.ListComp elt [⟨tg,iter,ifs,0⟩] scope pos) 0 (.ref it) (.ref D) ce) (compPost (model X.prog X.w) X.A X.xe use Qf (.ref D) s3.heap.objs.size) s4:=by
  refine compLoop_any (λn s'=>∃i H',Inv (X.blk s3 H3 scope ce fp) [] (wipe σ (own.map (·.2))) H' s'/\tn i s'.heap/\(∀b∈fp,H' b=none)/\W i n H') ?_ m0 ⟨0,H3,I4,st4,nfp,w0⟩
  rintro n s5 ⟨i,H5,I5,st5,n5,w5⟩
  rcases turn i n H5 w5 with⟨stop,qq⟩|⟨go,Nx,hNx,step⟩
  ·have td:=T.done (X.blk s3 H3 scope ce fp) rfl rfl rfl hc i [] s5 _ H5 (λ_ _=>False) I5 (stat I5 n5) st5 stop
   refine thnF td λr s6 ⟨hr,I6⟩=>?_
   subst hr
   have I7:Inv X pins σ H5 s6:=I3.call' (ch:=fp) I6.os I6.base I6.hok I6.bare λb hb=>⟨(f3 b hb).1.2.2.2.1,(f3 b hb).1.2.1,(f3 b hb).1.2.2.2.2.1,(f3 b hb).1.2.2.2.2.2⟩
   have nC:H5 s3.heap.objs.size=none:=by
    have z:H5 ce.locals=none:=I6.free
    rw[cL]at z
    exact z
   obtain⟨m,hn,_⟩:=I6.loc
   have hn:s6.heap.Ns ce.locals m:=hn
   rw[cL]at hn
   exact hRR D s3.heap.objs.size s6 m H5 I7 qq hn (I3.fpOk (Nat.le_refl _) nC)
  ·have ti:=T.item (X.blk s3 H3 scope ce fp) rfl rfl rfl hc i [] s5 _ H5 (λ_ _=>False) I5 (stat I5 n5) st5 go
   refine thnF ti λr s6 ⟨u,hr,h6⟩=>?_
   subst hr
   refine thnF h6 λ_ s7 ⟨x,H7,I7,r7,y7,st7,n7⟩=>?_
   have I7':=I7.pinned (stat I7 n7) (T.obj _ _ st7)
   refine thnF (pg _ s7 _ H7 x u _ I7' r7 (step x H7 y7)) λ_ s8 ⟨σ8,H8,I8,hw8,q8⟩=>?_
   refine thnF (pt _ s8 σ8 H8 _ I8 q8) λb s9 ⟨H9,I9,q9⟩=>?_
   have fin:∀ {s':Shared}{H':Hp},Inv (X.blk s3 H3 scope ce fp) ([]++pinsAt fp s7.heap) σ8 H' s'->Nx H'->∃m,m<n/\∃i H',Inv (X.blk s3 H3 scope ce fp) [] (wipe σ (own.map (·.2))) H' s'/\tn i s'.heap/\(∀b∈fp,H' b=none)/\W i m H':=λ{s' H'} I' nx=>by
    obtain⟨m',hm,w'⟩:=hNx H' nx
    have pin':∀b∈fp,∀o,s7.heap.get? b=some o->s'.heap.get? b=some o/\H' b=none:=λb hb o e =>
     let z:=I'.pin (b,o) (List.mem_append_right _ (List.mem_append_right _ (mem_pinsAt hb e)))
     ⟨z.1,z.2.1⟩
    have hl:(wipe σ (own.map (·.2))).length=σ8.length:=by rw[<-hw8,wipe_length]
    refine⟨m',hm,i+1,H',(I'.unpinned (pins:=[])).weak hl (λj v e=>?_),T.keep _ _ _ st7 λb hb o e=>(pin' b hb o e).1,λb hb=>?_,w'⟩
    ·rw[<-hw8]at e
     exact (wipe_some e).1
    ·obtain⟨o,e,_⟩:=T.obj _ _ st7 b hb
     exact (pin' b hb o e).2
   cases b with
   | false =>
    simp only[Bool.false_eq_true,if_false]at q9 ⊢
    exact fin I9 q9
   | true =>
    simp only[if_true]at q9 ⊢
    refine thnF (pe _ s9 σ8 H9 _ I9 q9) λz s10 ⟨yv,H10,I10,r10,acc,hD10,hz10,nx⟩=>?_
    exact app_ok (X:=X.blk s3 H3 scope ce fp) I10 hD10 hz10 r10 λs11 I11=>fin I11 nx
 exact codeAny_compStart_list loop (T.self X.A 0 _ _ _ st4 loop)
theorem pe_lc {elt tg iter:Expr}{ifs:List Expr}{scope:Scope}{own:List (Str×Nat)}{pos:Pos}{wi:TI}{g:TG}{tt:TT}{te:TE}(hc:X.calm=true) (hN:X.N.Nodup) (hi:PI X tg iter wi) (ok:BlkOk X.N X.env.scope scope own)
  (hg:∀(s:Shared) (H:Hp) (C:Addr) (cl:List (Str×Addr)) (fp:List Addr),PG (X.blk s H scope (compEnvC scope cl C X.env) fp) tg g) (ht:∀(s:Shared) (H:Hp) (C:Addr) (cl:List (Str×Addr)) (fp:List Addr),PTs (X.blk s H scope (compEnvC scope cl C X.env) fp) ifs tt)
  (he:∀(s:Shared) (H:Hp) (C:Addr) (cl:List (Str×Addr)) (fp:List Addr),PE (X.blk s H scope (compEnvC scope cl C X.env) fp) elt te) (hs:∀x,foldedSetIterable iter X.env x=pure x:=by intro _;rfl) :
  PE X (.ListComp elt [⟨tg,iter,ifs,0⟩] scope pos) (tLc wi g tt te (own.map (·.2))):=by
 intro pins s σ H Q I h
 rw[eval_ListComp]
 refine lc_core hc hN I hi ok hg ht he hs h λD C s' m H' I' q hn f=>⟨m,hn,λh'' sb=>?_⟩
 obtain⟨f0,f1,f2,f3,f4,f5⟩:=f
 exact⟨.ref D,H',I'.turned (t':=s'.toks) (λb o hb e=>(sb.2 b hb).trans e) f0 f1 f3 f4 f5,rfl,q⟩
theorem ps_setLc {i:Nat}{y:Str}{py:Pos}{elt tg iter:Expr}{ifs:List Expr}{scope:Scope}{own:List (Str×Nat)}{pos spos:Pos}{wi:TI}{g:TG}{tt:TT}{te:TE}(hc:X.calm=true) (hN:X.N.Nodup) (hy:X.N[i]?=some y) (hyl:X.env.scope.names.lookup y=some .local)
  (hsw:swapsWith (.ListComp elt [⟨tg,iter,ifs,0⟩] scope pos) (some (.Name y py)) spos.line X.env=pure true) (hi:PI X tg iter wi) (ok:BlkOk X.N X.env.scope scope own)
  (hg:∀(s:Shared) (H:Hp) (C:Addr) (cl:List (Str×Addr)) (fp:List Addr),PG (X.blk s H scope (compEnvC scope cl C X.env) fp) tg g) (ht:∀(s:Shared) (H:Hp) (C:Addr) (cl:List (Str×Addr)) (fp:List Addr),PTs (X.blk s H scope (compEnvC scope cl C X.env) fp) ifs tt)
  (he:∀(s:Shared) (H:Hp) (C:Addr) (cl:List (Str×Addr)) (fp:List Addr),PE (X.blk s H scope (compEnvC scope cl C X.env) fp) elt te) (hs:∀x,foldedSetIterable iter X.env x=pure x:=by intro _;rfl) :
  PS X (.Assign [.Name y py] (.ListComp elt [⟨tg,iter,ifs,0⟩] scope pos) spos) (tAsg (tLc wi g tt te (own.map (·.2))) (gName i)):=by
 intro pins s σ H D I h
 rw[exec_Assign_Name_used _ _ _ _ hsw]
 refine wpAny_bind (wpAny_standAt (wpAny_bind ?_))
 show wpAny _ X.A (do let _ <- comprehension (.ListComp elt [⟨tg,iter,ifs,0⟩] scope pos) scope X.env (firstIterPos [⟨tg,iter,ifs,0⟩] pos) (newList []) false (eval iter X.env) (some (assign (.Name y py) X.env))) _ _ s
 have h:tLc wi g tt te (own.map (·.2)) σ H (λx H1=>gName i x σ H1 D.nx):=h
 refine wpAny_bind (thn (lc_core (Qf:=λ_ s'=>SP X pins D .next s') hc hN I hi ok hg ht he hs h λL C s' m H' I' q hn f=>?_) λ_ s' hq=>wpAny_pure (wpAny_pure hq))
 show wpAny _ _ (assign (.Name y py) X.env (.ref L)) _ _ _
 refine wpAny_assign_Name (store_ok2 (v:=V.ref L) I' hN hy (.inl hyl) rfl (λs2 I2 ⟨a,sb,ha⟩=>?_) (.inr hyl))
 obtain⟨f0,f1,f2,f3,f4,f5⟩:=f
 have haC:C≠a:=by
  rcases ha with z | z
  ·rw[z];exact f1
  ·exact λe=>f4 y a z e.symm
 refine⟨m,hn.sameBut sb haC,λh3 sb3=>?_⟩
 exact⟨_,H',I2.turned (t':=s2.toks) (λb o hb e=>(sb3.2 b hb).trans e) f0 f1 f3 f4 f5,q⟩
theorem sw_true {elt:Expr}{gs:List Comprehension}{scope:Scope}{pos py:Pos}{y:Str}{l:Nat}{env:Env}(hk:env.scope.kind=.function) (hy:env.scope.names.lookup y=some .local) (hl:(py.line == pos.line)=true)
  (ha:(scope.names.any λ(n,k)=>n == y&&(k == .local||k == .cell))=false):swapsWith (.ListComp elt gs scope pos) (some (.Name y py)) l env=pure true:=by
 have ky:env.kindOf y=some .local:=hy
 have hb:env.blockKind=.function:=by unfold Env.blockKind;rw[hk];rfl
 unfold swapsWith
 simp only[hb,ky,ha,Expr.pos,hl]
 rfl
end
theorem lc_list {K:PySem.W.Frag}{a:Addr}{xs:List V}{g:TG}{tt:TT}{te:TE}{vs:List Nat}{σ:St}{H1:Hp}{D:Addr}{Qd:Hp->Prop}(Pv:Nat->Hp->Prop) (h0:Pv 0 (upd H1 D (.lst []))) (hl:∀i H,i<=xs.length->Pv i H->SqL K H a xs)
  (hs:∀i x H,xs[i]?=some x->Pv i H->g x (wipe σ vs) H λσ2 H2=>wipe σ2 vs=wipe σ vs/\tt σ2 H2 λb H3 =>
   if b=true then te σ2 H3 λy H4=>∃acc,H4 D=some (.lst acc)/\acc.length<sizeLine/\Pv (i+1) (upd H4 D (.lst (acc++[y]))) else Pv (i+1) H3) (hd:∀H,Pv xs.length H->Qd H) :
  ∃W:Nat->Nat->Hp->Prop,(∃m,W 0 m (upd H1 D (.lst [])))/\∀i m H,W i m H ->
   ((Itl K a).stop i H/\Qd H)\/((Itl K a).go i H/\∃Nx:Hp->Prop,(∀H',Nx H'->∃m',m'<m/\W (i+1) m' H')/\∀x H',(Itl K a).yld i H x H'->g x (wipe σ vs) H' λσ2 H2=>wipe σ2 vs=wipe σ vs/\tt σ2 H2 λb H3 =>
    if b=true then te σ2 H3 λy H4=>∃acc,H4 D=some (.lst acc)/\acc.length<sizeLine/\Nx (upd H4 D (.lst (acc++[y]))) else Nx H3):=by
 refine⟨λi m H=>m=xs.length - i/\i<=xs.length/\Pv i H,⟨xs.length,by simp,Nat.zero_le _,h0⟩,?_⟩
 rintro i m H ⟨rfl,hi,p⟩
 have q:=hl i H hi p
 by_cases hlt:i<xs.length
 ·refine .inr ⟨⟨xs,xs[i],q,by simp[hlt]⟩,Pv (i+1),λH' p'=>⟨xs.length - (i+1),by omega,rfl,hlt,p'⟩,λx H' y=>?_⟩
  obtain⟨e,y⟩:=y
  subst e
  exact hs i x _ (y xs q) p
 ·have e:i=xs.length:=by omega
  subst e
  exact .inl ⟨⟨xs,q,Nat.le_refl _⟩,hd H p⟩
def blkC (N:List Str) (sc scope:Scope) (own:List (Str×Nat)):Bool :=
 (match scope.kind with | .function=>true | _=>false)&&(scope.names.all λy=>decide (scope.names.lookup y.1=some y.2))&&(own.all λp=>decide (N[p.2]?=some p.1)) &&
  (scope.names.all λy=>match y.2 with
   | .free=>(match sc.names.lookup y.1 with | some .cell=>true | some .free=>true | _=>false)
   | .local=>decide (y.1∈own.map (·.1))||decide (y.1∉N)
   | .cell=>decide (y.1∈own.map (·.1))||decide (y.1∉N)
   | _=>true)
theorem blkOk_by {N:List Str}{sc scope:Scope}{own:List (Str×Nat)}(h:blkC N sc scope own=true):BlkOk N sc scope own:=by
 unfold blkC at h
 simp only[Bool.and_eq_true,List.all_eq_true,decide_eq_true_eq]at h
 obtain⟨⟨⟨h1,h2⟩,h3⟩,h4⟩:=h
 refine⟨?_,h2,h3,λy hy e=>?_,λy hy e=>?_⟩
 ·split at h1
  ·assumption
  ·cases h1
 ·have q:=h4 y hy
  simp only[e]at q
  split at q <;> first | exact .inl (by assumption) | exact .inr (by assumption) | cases q
 ·have q:=h4 y hy
  rcases e with e | e <;> (simp only[e,Bool.or_eq_true,decide_eq_true_eq]at q;exact q)
end L2
namespace L2
open PySem PySem.Spec PyProof.Rows
section
variable {prog:Program}{w:World}{A:Around}{R:Result->Shared->Prop}{s:Shared}{elt t0 i0 t1 i1:Expr}{ifs0 ifs1:List Expr}{scope:Scope}{pos:Pos}{it acc:Value}{env:Env}
end
section
variable {X:Cx}
end
end L2
namespace L2
open PySem PySem.Spec PyProof.Rows
section
variable {κ:Type} [DecidableEq κ]
def valV (kvs:List (κ×V)) (k:κ):Option V:=(kvs.find? λkv=>decide (kv.1=k)).map (·.2)
def putK (kvs:List (κ×V)) (k:κ) (v:V):List (κ×V) :=
 if (kvs.any λkv=>decide (kv.1=k))=true then kvs.map (λkv=>if kv.1=k then (kv.1,v) else kv) else kvs++[(k,v)]
theorem valV_pos {p:κ×V}{r:List (κ×V)}{k:κ}(e:p.1=k):valV (p::r) k=some p.2:=by simp[valV,List.find?_cons,e]
theorem valV_neg {p:κ×V}{r:List (κ×V)}{k:κ}(e:¬p.1=k):valV (p::r) k=valV r k:=by simp[valV,List.find?_cons,e]
theorem valV_any (k:κ):∀kvs:List (κ×V),(kvs.any λkv=>decide (kv.1=k))=(valV kvs k).isSome
 | []=>rfl
 | p::r=>by
  rw[List.any_cons]
  by_cases e:p.1=k
  ·simp only[valV_pos e,decide_eq_true e,Bool.true_or,Option.isSome_some]
  ·rw[valV_neg e,decide_eq_false e,Bool.false_or];exact valV_any k r
theorem length_putK (kvs:List (κ×V)) (k:κ) (v:V):(putK kvs k v).length<=kvs.length+1:=by
 unfold putK
 split
 ·rw[List.length_map];omega
 ·rw[List.length_append,List.length_cons,List.length_nil];omega
theorem putK_new {kvs:List (κ×V)}{k:κ}(v:V) (h:valV kvs k=none):putK kvs k v=kvs++[(k,v)]:=by
 unfold putK
 rw[valV_any,h]
 exact if_neg (by decide)
theorem RelO.isSome_eq {o:Option V}{u:Option Value}(r:RelO o u):o.isSome=u.isSome:=by
 cases o with
 | none=>cases u with
  | none=>rfl
  | some _=>exact (show False from r).elim
 | some _=>cases u with
  | none=>exact (show False from r).elim
  | some _=>rfl
theorem RelO.getD {o:Option V}{u:Option Value}{d:V}{d':Value}(r:RelO o u) (rd:RelV d d'):RelV (o.getD d) (u.getD d'):=by
 cases o with
 | none=>cases u with
  | none=>exact rd
  | some _=>exact (show False from r).elim
 | some _=>cases u with
  | none=>exact (show False from r).elim
  | some _=>exact r
theorem KV.val {kvs:List (κ×V)}{vs:List (κ×Value)}(r:KV kvs vs) (k:κ):RelO (valV kvs k) (valueAt vs k):=by
 unfold KV at r
 induction r with
 | nil=>exact True.intro
 | @cons p q ps qs h t ih =>
  obtain⟨h1,h2⟩:=h
  by_cases e:p.1=k
  ·have e':q.1=k:=h1.symm.trans e
   have b:valueAt (q::qs) k=some q.2:=by simp[valueAt,List.find?_cons,e']
   rw[valV_pos e,b];exact h2
  ·have e':¬q.1=k:=λz=>e (h1.trans z)
   have b:valueAt (q::qs) k=valueAt qs k:=by simp[valueAt,List.find?_cons,e']
   rw[valV_neg e,b];exact ih
theorem KV.any {kvs:List (κ×V)}{vs:List (κ×Value)}(r:KV kvs vs) (k:κ):(kvs.any λkv=>decide (kv.1=k))=vs.any λkv=>decide (kv.1=k):=by
 unfold KV at r
 induction r with
 | nil=>rfl
 | cons h t ih=>rw[List.any_cons,List.any_cons,ih,h.1]
theorem KV.repl {kvs:List (κ×V)}{vs:List (κ×Value)}(r:KV kvs vs) (k:κ){y:V}{u:Value}(ry:RelV y u) :
  KV (kvs.map λkv=>if kv.1=k then (kv.1,y) else kv) (vs.map λkv=>if kv.1=k then (kv.1,u) else kv):=by
 unfold KV at r ⊢
 induction r with
 | nil=>exact .nil
 | @cons p q ps qs h t ih =>
  rw[List.map_cons,List.map_cons]
  refine .cons ?_ ih
  obtain⟨h1,h2⟩:=h
  by_cases e:p.1=k
  ·rw[if_pos e,if_pos (h1.symm.trans e)];exact⟨h1,ry⟩
  ·rw[if_neg e,if_neg (λz=>e (h1.trans z))];exact⟨h1,h2⟩
theorem KV.put {kvs:List (κ×V)}{vs:List (κ×Value)}(r:KV kvs vs) (k:κ){y:V}{u:Value}(ry:RelV y u):KV (putK kvs k y) (stored vs k u):=by
 unfold putK stored
 rw[r.any k]
 by_cases e:(vs.any λkv=>decide (kv.1=k))=true
 ·rw[if_pos e,if_pos e];exact r.repl k ry
 ·rw[if_neg e,if_neg e];exact Paired.snoc r ⟨rfl,ry⟩
theorem KV.length {kvs:List (κ×V)}{vs:List (κ×Value)}(r:KV kvs vs):kvs.length=vs.length:=Paired.length r
end
theorem kV_is {P:Program}{w:World}{k:Key}{u:Value}(r:RelV (kV k) u):(mixKind P w).is k u=true:=by
 cases k with
 | inl i=>obtain⟨t,e⟩:=(show ∃t,u=Value.int i t from r);subst e;exact mixKind_int P w i t
 | inr x=>obtain⟨t,e⟩:=(show ∃t,u=Value.str x t from r);subst e;exact mixKind_str P w x t
theorem items_are {P:Program}{w:World}:∀ {ks:List Key}{us:List Value},Vals (ks.map kV) us->ItemsAre (mixKind P w) ks us
 | [],_,r=>by rw[List.map_nil]at r;cases r;exact .nil
 | k::ks,_,r=>by
  rw[List.map_cons]at r
  cases r with
  | cons h t=>exact .cons (kV_is h) (items_are t)
abbrev KT (H:Hp):List (List Key×V)->List (List Key×Addr×Value)->Prop:=Paired λp q=>p.1=q.1/\H q.2.1=some (.tup (p.1.map kV))/\RelV p.2 q.2.2
theorem KT.val {H:Hp}{kvs:List (List Key×V)}{xs:List (List Key×Addr×Value)}(r:KT H kvs xs) (k:List Key):RelO (valV kvs k) ((atKey xs k).map (·.2)):=by
 induction r with
 | nil=>exact True.intro
 | @cons p q ps qs h t ih =>
  obtain⟨h1,_,h2⟩:=h
  by_cases e:p.1=k
  ·have e':q.1=k:=h1.symm.trans e
   have b:atKey (q::qs) k=some q.2:=by simp[atKey,List.find?_cons,e']
   rw[valV_pos e,b];exact h2
  ·have e':¬q.1=k:=λz=>e (h1.trans z)
   have b:atKey (q::qs) k=atKey qs k:=by simp[atKey,List.find?_cons,e']
   rw[valV_neg e,b];exact ih
theorem KT.repl {H:Hp}{kvs:List (List Key×V)}{xs:List (List Key×Addr×Value)}(r:KT H kvs xs) (k:List Key){y:V}{u:Value}(ry:RelV y u) :
  KT H (kvs.map λkv=>if kv.1=k then (kv.1,y) else kv) (xs.map (putAt k u)):=by
 induction r with
 | nil=>exact .nil
 | @cons p q ps qs h t ih =>
  rw[List.map_cons,List.map_cons]
  refine .cons ?_ ih
  obtain⟨h1,h2,h3⟩:=h
  unfold putAt
  by_cases e:p.1=k
  ·rw[if_pos e,if_pos (h1.symm.trans e)];exact⟨h1,h2,ry⟩
  ·rw[if_neg e,if_neg (λz=>e (h1.trans z))];exact⟨h1,h2,h3⟩
theorem KT.put {H:Hp}{kvs:List (List Key×V)}{xs:List (List Key×Addr×Value)}(r:KT H kvs xs) (k:List Key){b:Addr}{y:V}{u:Value}(hb:H b=some (.tup (k.map kV))) (ry:RelV y u) :
  KT H (putK kvs k y) (storedH xs k b u):=by
 have e:(kvs.any λkv=>decide (kv.1=k))=(atKey xs k).isSome:=by
  rw[valV_any,(r.val k).isSome_eq,Option.isSome_map]
 unfold putK storedH
 rw[e]
 by_cases q:(atKey xs k).isSome=true
 ·rw[if_pos q,if_pos q];exact r.repl k ry
 ·rw[if_neg q,if_neg q];exact Paired.snoc r ⟨rfl,hb,ry⟩
theorem KT.keeps {H H':Hp}{kvs:List (List Key×V)}{xs:List (List Key×Addr×Value)}(r:KT H kvs xs) (ht:∀b ys,H b=some (.tup ys)->H' b=some (.tup ys)):KT H' kvs xs :=
 Paired.mapP r λ_ _ z=>⟨z.1,ht _ _ z.2.1,z.2.2⟩
section
variable {P:Program}{w:World}{H:Hp}{h:Heap}{a:Addr}
theorem rd_of {u:HO}(ok:HOk P w H h) (e:Rd H a u):ObjOk P w H h a u:=e.ok ok
theorem dk_rd {kvs:List (Key×V)}(ok:HOk P w H h) (e:Rd H a (.dK kvs)):kvs.length<=sizeLine/\(a == sysModules)=false/\∃vs,KV kvs vs/\h.DictOf (mixKind P w) a vs :=
 show ObjOk P w H h a (.dK kvs) from rd_of ok e
theorem dk_of {kvs:List (Key×V)}(ok:HOk P w H h) (e:H a=some (.dK kvs)):kvs.length<=sizeLine/\(a == sysModules)=false/\∃vs,KV kvs vs/\h.DictOf (mixKind P w) a vs:=dk_rd ok (.inl e)
theorem key_of {ks:List Key}(ok:HOk P w H h) (e:H a=some (.tup (ks.map kV))):(tupleKind (mixKind P w)).is h ks a:=by
 obtain⟨_,its,r,o,h1,h2,n,h3⟩:=(show ObjOk P w H h a (.tup (ks.map kV)) from ok a _ e)
 exact⟨o,its.toArray,n,h1,h2,h3,by simpa using items_are r⟩
theorem dt_rd {kvs:List (List Key×V)}(ok:HOk P w H h) (e:Rd H a (.dT kvs)):kvs.length<=sizeLine/\(a == sysModules)=false /\
  ∃xs,KT H kvs xs/\h.DictOfH (tupleKind (mixKind P w)) a xs:=by
 obtain⟨z,y,xs,r,o,es,ep,h1,h2,h3,h4,h5⟩:=(show ObjOk P w H h a (.dT kvs) from rd_of ok e)
 refine⟨z,y,xs,r,o,es,ep,h1,h2,h3,h4,λx hx=>?_,h5⟩
 have all:∀ {l:List (List Key×V)}{m:List (List Key×Addr×Value)},KT H l m->∀x∈m,(tupleKind (mixKind P w)).is h x.1 x.2.1:=by
  intro l m q
  induction q with
  | nil=>intro x hx;exact nomatch hx
  | @cons p q ps qs hq t ih =>
   intro x hx
   rcases List.mem_cons.mp hx with e | hx
   ·subst e
    exact key_of ok (by rw[<-hq.1];exact hq.2.1)
   ·exact ih x hx
 exact all r x hx
theorem dt_of {kvs:List (List Key×V)}(ok:HOk P w H h) (e:H a=some (.dT kvs)):kvs.length<=sizeLine/\(a == sysModules)=false /\
  ∃xs,KT H kvs xs/\h.DictOfH (tupleKind (mixKind P w)) a xs:=dt_rd ok (.inl e)
end
def DGet (H:Hp) (a:Addr) (y:V) (r:Option V):Prop :=
 (∃kvs k,Rd H a (.dK kvs)/\y=kV k/\r=valV kvs k)\/∃kvs k b,Rd H a (.dT kvs)/\y=.ref b/\H b=some (.tup (k.map kV))/\r=valV kvs k
def DPut (H:Hp) (a:Addr) (y v:V) (H':Hp):Prop :=
 (∃kvs k,H a=some (.dK kvs)/\y=kV k/\kvs.length<sizeLine/\H'=upd H a (.dK (putK kvs k v))) \/
 ∃kvs k b,H a=some (.dT kvs)/\y=.ref b/\H b=some (.tup (k.map kV))/\kvs.length<sizeLine/\H'=upd H a (.dT (putK kvs k v))
theorem DPut.k {H:Hp}{a:Addr}{kvs:List (Key×V)}{k:Key}{v:V}(e:H a=some (.dK kvs)) (hl:kvs.length<sizeLine):DPut H a (kV k) v (upd H a (.dK (putK kvs k v))):=.inl ⟨kvs,k,e,rfl,hl,rfl⟩
section
variable {X:Cx}{pins:List (Addr×Obj)}{σ:St}{H:Hp}{s:Shared}{a:Addr}{y v:V}{u r:Value}{o:Option V}{A:Around}{E:Value->Shared->Prop}
theorem Inv.big (I:Inv X pins σ H s):sysModules<s.heap.objs.size:=by
 have h:mainGlobals<s.heap.objs.size:=(I.mod.glob.keeps I.bk).lt
 exact Nat.lt_trans (by decide) h
theorem d_getItem {Q:Value->Shared->Prop}(hu:A.units+1<cLine) (I:Inv X pins σ H s) (g:DGet H a y (some v)) (ry:RelV y u) (h:∀w' s',Inv X pins σ H s'->RelV v w'->Q w' s') :
  wpAny (model X.prog X.w) A (getItem (.ref a) u) Q E s:=by
 rcases g with⟨kvs,k,e,ey,l⟩|⟨kvs,k,b,e,ey,eb,l⟩
 ·subst ey
  obtain⟨z,hd,vs,rel,dd⟩:=dk_rd I.hok e
  obtain⟨w',hw,rw'⟩:=RelO.some_of (v:=v) (o:=valueAt vs k) (by rw[l];exact rel.val k)
  exact wpAny_getItem_of (kV_is ry) dd.mapOf hw (h w' _ (I.tok _) rw')
 ·subst ey
  cases (show u=Value.ref b from ry)
  obtain⟨z,hd,xs,rel,dd⟩:=dt_rd I.hok e
  obtain⟨w',hw,rw'⟩:=RelO.some_of (v:=v) (o:=(atKey xs k).map (·.2)) (by rw[l];exact rel.val k)
  obtain⟨p,hp,hp2⟩:=Option.map_eq_some_iff.mp hw
  refine wpAny_getItem_heap (tupleKind_room_in1 hu) (key_of I.hok eb) dd hp ?_
  rw[hp2]
  exact h w' _ (I.tok _) rw'
theorem d_in {Q:Value->Shared->Prop}(hu:A.units+1<cLine) (I:Inv X pins σ H s) (g:DGet H a y o) (ry:RelV y u) (h:∀s',Inv X pins σ H s'->Q (.bool o.isSome) s') :
  wpAny (model X.prog X.w) A (compareOp .In u (.ref a)) Q E s:=by
 rcases g with⟨kvs,k,e,ey,l⟩|⟨kvs,k,b,e,ey,eb,l⟩
 ·subst ey
  obtain⟨z,hd,vs,rel,dd⟩:=dk_rd I.hok e
  refine wpAny_in_of (kV_is ry) hd dd.mapOf ?_
  rw[<-(rel.val k).isSome_eq,<-l]
  exact h _ (I.tok _)
 ·subst ey
  cases (show u=Value.ref b from ry)
  obtain⟨z,hd,xs,rel,dd⟩:=dt_rd I.hok e
  refine wpAny_in_heap (tupleKind_room_in1 hu) (key_of I.hok eb) hd dd ?_
  have q:=(rel.val k).isSome_eq
  rw[Option.isSome_map]at q
  rw[<-q,<-l]
  exact h _ (I.tok _)
theorem d_notIn {Q:Value->Shared->Prop}(hu:A.units+1<cLine) (I:Inv X pins σ H s) (g:DGet H a y o) (ry:RelV y u) (h:∀s',Inv X pins σ H s'->Q (.bool (!o.isSome)) s') :
  wpAny (model X.prog X.w) A (compareOp .NotIn u (.ref a)) Q E s:=by
 rcases g with⟨kvs,k,e,ey,l⟩|⟨kvs,k,b,e,ey,eb,l⟩
 ·subst ey
  obtain⟨z,hd,vs,rel,dd⟩:=dk_rd I.hok e
  refine wpAny_notIn_of (kV_is ry) hd dd.mapOf ?_
  rw[<-(rel.val k).isSome_eq,<-l]
  exact h _ (I.tok _)
 ·subst ey
  cases (show u=Value.ref b from ry)
  obtain⟨z,hd,xs,rel,dd⟩:=dt_rd I.hok e
  refine wpAny_notIn_heap (tupleKind_room_in1 hu) (key_of I.hok eb) hd dd ?_
  have q:=(rel.val k).isSome_eq
  rw[Option.isSome_map]at q
  rw[<-q,<-l]
  exact h _ (I.tok _)
theorem d_write {h':Heap}{t':Nat}{ob:HO}(I:Inv X pins σ H s) (mu:Mut (H a)) (hs:Heap.SameBut a s.heap h') (he:∃q,h'.get? a=some q) (new:ObjOk X.prog X.w (upd H a ob) h' a ob) :
  Inv X pins σ (upd H a ob) { s with heap:=h',toks:=t' } :=
 I.write (x:=a) (e:=a) mu (.inl rfl) (λb q hb z=>(hs.2 b hb).trans z) he new
theorem dk_new {P:Program}{w:World}{H':Hp}{h':Heap}{kvs:List (Key×V)}{vs:List (Key×Value)}(z:kvs.length<=sizeLine) (hd:(a == sysModules)=false) (rel:KV kvs vs) (dd:h'.DictOf (mixKind P w) a vs) :
  ObjOk P w H' h' a (.dK kvs):=⟨z,hd,vs,rel,dd⟩
theorem d_setItem {H':Hp}{Q:Unit->Shared->Prop}(hu:A.units+1<cLine) (I:Inv X pins σ H s) (g:DPut H a y v H') (ry:RelV y u) (rv:RelV v r) (h:∀s',Inv X pins σ H' s'->Q () s') :
  wpAny (model X.prog X.w) A (setItem (.ref a) u r) Q E s:=by
 rcases g with⟨kvs,k,e,ey,l,eH⟩|⟨kvs,k,b,e,ey,eb,l,eH⟩
 ·subst ey eH
  obtain⟨z,hd,vs,rel,dd⟩:=dk_of I.hok e
  have hz:vs.length<=sizeLine:=by rw[<-rel.length];exact z
  have hl:(putK kvs k v).length<=sizeLine:=by have:=length_putK kvs k v;omega
  refine wpAny_setItem_pairs (hsz:=hz) (kV_is ry) dd λh' dd' hs=>h _ ?_
  have he:∃q,h'.get? a=some q:=let ⟨q,_,_,hq,_⟩:=dd';⟨q,hq⟩
  exact d_write I (by rw[e];exact True.intro) hs he (dk_new hl hd (rel.put k rv) dd')
 ·subst ey eH
  cases (show u=Value.ref b from ry)
  obtain⟨z,hd,xs,rel,dd⟩:=dt_of I.hok e
  have hz:xs.length<=sizeLine:=by rw[<-Paired.length rel];exact z
  have hl:(putK kvs k v).length<=sizeLine:=by have:=length_putK kvs k v;omega
  refine wpAny_setItem_heap (hsz:=hz) (tupleKind_room_in1 hu) (key_of I.hok eb) dd λh' dd' hs=>h _ ?_
  obtain⟨q,es,ep,hq,h2,h3,h4,_,h5⟩:=dd'
  refine d_write I (by rw[e];exact True.intro) hs ⟨q,hq⟩ ⟨hl,hd,_,(rel.put k eb rv).keeps λc ys ec=>?_,q,es,ep,hq,h2,h3,h4,h5⟩
  rw[qqa (ne_of ec e (λz=>nomatch z))]
  exact ec
end
section
variable {X:Cx}{pins:List (Addr×Obj)}{σ:St}{H:Hp}{s:Shared}{a:Addr}{kvs:List (Key×V)}{k:Key}{u:Value}{A:Around}{E:Value->Shared->Prop}
end
def NoSl (i:Expr):Prop:=∀ov iv,subscripted i false ov iv=operate [ov,iv] (getItem ov iv)
theorem subD_of {prog:Program}{w:World}{A:Around}{E:Value->Shared->Prop}{s:Shared}{env:Env}{value slice:Expr}{pos:Pos}{T id:String}{Q:Value->Shared->Prop}
  (hl:typeLookup (.type T) "__getitem__"=pure (some (.builtin id))) (hs:NoSl slice)
  (h:wpAny (model prog w) A (eval value env) (λo s₁=>wpAny (model prog w) A (eval slice env) (λi s₂=>s₂.TypeIs o T/\wpAny (model prog w) A (getItem o i) Q E s₂) E s₁) E s) :
  wpAny (model prog w) A (eval (.Subscript value slice pos) env) Q E s:=by
 refine Subscript_ (wpAny_mono h (λo s₁ h₁=>wpAny_mono h₁ (λi s₂ h₂=>?_) λ_ _ x=>x) λ_ _ x=>x)
 obtain⟨hT,h₂⟩:=h₂
 unfold subscriptTail
 refine wpAny_bind ?_
 rw[getitemInPython_of_ne hT.not_modules]
 refine wpAny_bind (wpAny_specialOf hT hl ?_)
 have fin:wpAny (model prog w) A (subscripted slice false o i) (λr s₃=>wpAny (model prog w) A (letTemporaryGo value o r >>= λ_=>pure r) Q E s₃) E s₂:=by
  rw[hs o i]
  exact wpAny_operating (wpAny_mono h₂ (λr s₃ h₃=>wpAny_bind (wpAny_letTemporaryGo (wpAny_pure h₃))) λ_ _ x=>x)
 first
  | exact wpAny_pure (wpAny_bind fin)
  | exact wpAny_bind (wpAny_pure (wpAny_bind fin))
  | exact wpAny_bind fin
theorem dict_typeIs {X:Cx}{pins:List (Addr×Obj)}{σ:St}{H:Hp}{s:Shared}{a:Addr}{y:V}{o:Option V}(I:Inv X pins σ H s) (g:DGet H a y o):s.TypeIs (.ref a) "dict":=by
 rcases g with⟨kvs,k,e,_,_⟩|⟨kvs,k,b,e,_,_,_⟩
 ·obtain⟨_,_,vs,_,dd⟩:=dk_rd I.hok e
  exact dd.typeIs
 ·obtain⟨_,_,xs,_,dd⟩:=dt_rd I.hok e
  exact dd.typeIs
def tDGet (td ty:TE):TE:=λσ H Q=>td σ H λx H1=>ty σ H1 λy H2=>∃a v,x=.ref a/\DGet H2 a y (some v)/\Q v H2
def tDIn (ty td:TE):TE:=λσ H Q=>ty σ H λy H1=>td σ H1 λx H2=>∃a o,x=.ref a/\DGet H2 a y o/\Q (.bl o.isSome) H2
def tDNotIn (ty td:TE):TE:=λσ H Q=>ty σ H λy H1=>td σ H1 λx H2=>∃a o,x=.ref a/\DGet H2 a y o/\Q (.bl (!o.isSome)) H2
def sDPut (td ty tv:TE):TS:=λD σ H=>tv σ H λv H1=>td σ H1 λx H2=>ty σ H2 λy H3=>∃a H4,x=.ref a/\DPut H3 a y v H4/\D.nx σ H4
section
variable {X:Cx}{o i e value:Expr}{pos pos' tpos:Pos}{td ty tv:TE}
theorem pe_dget (hu:X.A.units+1<cLine) (ho:PE X o td) (hi:PE X i ty) (hs:NoSl i):PE X (.Subscript o i pos) (tDGet td ty):=by
 intro pins s σ H Q I h
 refine subD_of PySem.F.slot_dict_getitem.lookup hs (thn (ho pins s σ H _ I h) λu s1 ⟨x,H1,I1,rx,q1⟩=>thn (hi pins s1 σ H1 _ I1 q1) λiv s2 ⟨y,H2,I2,ry,a,v,ex,g,q2⟩=>?_)
 subst ex
 obtain rfl:u=Value.ref a:=rx
 exact⟨dict_typeIs I2 g,d_getItem hu I2 g ry λw' s3 I3 rw'=>⟨v,H2,I3,rw',q2⟩⟩
theorem pc_din (hu:X.A.units+1<cLine) (hi:PE X i ty) (ho:PE X o td):PC X .In i o (tDIn ty td):=by
 intro pins s σ H Q I h
 refine thn (hi pins s σ H _ I h) λiv s1 ⟨y,H1,I1,ry,q1⟩=>thn (ho pins s1 σ H1 _ I1 q1) λu s2 ⟨x,H2,I2,rx,a,ov,ex,g,q2⟩=>?_
 subst ex
 obtain rfl:u=Value.ref a:=rx
 exact d_in hu I2 g ry λs3 I3=>⟨.bl ov.isSome,H2,I3,rfl,q2⟩
theorem pc_dnotin (hu:X.A.units+1<cLine) (hi:PE X i ty) (ho:PE X o td):PC X .NotIn i o (tDNotIn ty td):=by
 intro pins s σ H Q I h
 refine thn (hi pins s σ H _ I h) λiv s1 ⟨y,H1,I1,ry,q1⟩=>thn (ho pins s1 σ H1 _ I1 q1) λu s2 ⟨x,H2,I2,rx,a,ov,ex,g,q2⟩=>?_
 subst ex
 obtain rfl:u=Value.ref a:=rx
 exact d_notIn hu I2 g ry λs3 I3=>⟨.bl (!ov.isSome),H2,I3,rfl,q2⟩
theorem ps_dput (hu:X.A.units+1<cLine) (ho:PE X o td) (hi:PE X i ty) (hv:PE X value tv) (hs:swapsWith value (some (.Subscript o i pos')) pos.line X.env=pure false) :
  PS X (.Assign [.Subscript o i pos'] value pos) (sDPut td ty tv):=by
 intro pins s σ H D I h
 refine wpAny_Assign_Subscript (thn (hv pins s σ H _ I h) λr s1 ⟨v,H1,I1,rv,q1⟩=>thn (ho pins s1 σ H1 _ I1 q1) λu s2 ⟨x,H2,I2,rx,q2⟩=>thn (hi pins s2 σ H2 _ I2 q2) λiv s3 ⟨y,H3,I3,ry,a,H4,ex,g,q3⟩=>?_) hs
 subst ex
 obtain rfl:u=Value.ref a:=rx
 exact d_setItem hu I3 g ry rv λs4 I4=>⟨σ,H4,I4,q3⟩
end
theorem dk_empty {P:Program}{w:World}{H:Hp}(h:Heap) (hb:sysModules<h.objs.size):ObjOk P w H (h.push { cls:=.type "dict",data:=.dict #[] }) h.objs.size (.dK []) :=
 ⟨Nat.zero_le _,beq_eq_false_iff_ne.mpr (Ne.symm (Nat.ne_of_lt hb)),[],.nil,Heap.DictOf.new h⟩
def tDNewK:TE:=λ_ H Q=>∀p,H p=none->Q (.ref p) (upd H p (.dK []))
section
variable {X:Cx}{pos:Pos}
theorem pe_dnewK:PE X (.Dict [] [] pos) tDNewK:=λpins s σ H Q I h =>
 wpAny_Dict_empty ⟨.ref s.heap.objs.size,_,I.laid (a:=s.heap.objs.size) (o:=.dK []) (t':=s.toks) (λ_ _ q=>Heap.get?_push_of_some _ q) (Nat.le_refl _) (dk_empty s.heap I.big),rfl,h _ (I.hok.fresh (Nat.le_refl _))⟩
end
def mergeK (kvs more:List (Key×V)):List (Key×V):=more.foldl (λacc kv=>putK acc kv.1 kv.2) kvs
theorem KV.merge:∀ {more:List (Key×V)}{rs:List (Key×Value)}{kvs:List (Key×V)}{vs:List (Key×Value)},KV more rs->KV kvs vs->KV (mergeK kvs more) (merged vs rs):=by
 intro more rs kvs vs r
 unfold KV at r
 induction r generalizing kvs vs with
 | nil=>intro q;exact q
 | @cons p q ps qs h t ih =>
  intro r0
  have e:KV (putK kvs p.1 p.2) (stored vs q.1 q.2):=by
   have:=r0.put p.1 h.2
   rw[<-h.1];exact this
  exact ih e
theorem length_mergeK:∀(more kvs:List (Key×V)),(mergeK kvs more).length<=kvs.length+more.length
 | [],kvs=>by show kvs.length<=kvs.length+0;omega
 | p::r,kvs=>by
  have h1:=length_mergeK r (putK kvs p.1 p.2)
  have h2:=length_putK kvs p.1 p.2
  show (mergeK (putK kvs p.1 p.2) r).length<=_
  rw[List.length_cons];omega
structure M2 (X:Cx) (o:Expr) (m:Str) (apos:Pos) (e f:Expr) (cpos:Pos):Prop where
 base:attributeBase o m X.env (eval o X.env)=eval o X.env
 few:((backTo cpos (starEach [e,f] X.env)).all (λx=>!x.1)&&(backToKw cpos (keywordEach [] X.env)).all (λx=>x.1.isSome)
  && decide (([e,f]:List Expr).length+([]:List Keyword).length+(if ([]:List Keyword).isEmpty then 0 else 1)<30))=true
 line:(apos.endLine == cpos.line)=true
 trees:backTo cpos (starEach [e,f] X.env)=[(false,eval e X.env),(false,eval f X.env)]
def IsD (H:Hp) (a:Addr):Prop:=(∃kvs,Rd H a (.dK kvs))\/∃kvs,Rd H a (.dT kvs)
theorem isD_at {X:Cx}{pins:List (Addr×Obj)}{σ:St}{H:Hp}{s:Shared}{a:Addr}(I:Inv X pins σ H s) (d:IsD H a) :
  s.TypeIs (.ref a) "dict"/\(∀b,Value.ref a=.ref b->∃ob,s.heap.get? b=some ob/\ob.dict=none)/\(a == sysModules)=false:=by
 rcases d with⟨kvs,e⟩|⟨kvs,e⟩
 ·obtain⟨_,hd,vs,_,dd⟩:=dk_rd I.hok e
  refine⟨dd.typeIs,λb q=>?_,hd⟩
  cases q
  obtain⟨ob,_,_,h1,h2,_⟩:=dd
  exact⟨ob,h1,h2.2.1⟩
 ·obtain⟨_,hd,xs,_,dd⟩:=dt_rd I.hok e
  refine⟨dd.typeIs,λb q=>?_,hd⟩
  cases q
  obtain⟨ob,_,_,h1,h2,_⟩:=dd
  exact⟨ob,h1,h2.2.1⟩
section
variable {X:Cx}{pins:List (Addr×Obj)}{σ:St}{H:Hp}{s:Shared}{a:Addr}{y d:V}{u r:Value}{o:Option V}{A:Around}{E:Value->Shared->Prop}
theorem d_get2 {Q:Value->Shared->Prop}(hu:A.units+1<cLine) (I:Inv X pins σ H s) (g:DGet H a y o) (ry:RelV y u) (rd:RelV d r) (h:∀w' s',Inv X pins σ H s'->RelV (o.getD d) w'->Q w' s') :
  wpAny (model X.prog X.w) A (call (.builtin "dict.get") [.ref a,u,r]) Q E s:=by
 rcases g with⟨kvs,k,e,ey,l⟩|⟨kvs,k,b,e,ey,eb,l⟩
 ·subst ey
  obtain⟨z,hd,vs,rel,dd⟩:=dk_rd I.hok e
  refine call_meetsIn PySem.F.slot_dict_get dd.typeIs PySem.F.entry_dict_get (PySem.F.args_dict_get_3 _ _ _) (meets_dict_get_default (mixKind X.prog X.w) a (kV_is ry) hd r) ⟨_,dd.mapOf,h _ _ (I.tok _) ?_⟩
  rw[l]
  exact (rel.val k).getD rd
 ·subst ey
  cases (show u=Value.ref b from ry)
  obtain⟨z,hd,xs,rel,dd⟩:=dt_rd I.hok e
  refine call_meetsIn PySem.F.slot_dict_get dd.typeIs PySem.F.entry_dict_get (PySem.F.args_dict_get_3 _ _ _) (meetsH_dict_get_default (tupleKind (mixKind X.prog X.w)) a b hd r) ⟨tupleKind_room_in1 hu,k,xs,key_of I.hok eb,dd,h _ _ (I.tok _) ?_⟩
  rw[l]
  exact (rel.val k).getD rd
end
def tDGet2 (td ty tx:TE):TE:=λσ H Q=>td σ H λx H1=>∃a,x=.ref a/\IsD H1 a/\ty σ H1 λy H2=>tx σ H2 λz H3=>∃o,DGet H3 a y o/\Q (o.getD z) H3
section
variable {X:Cx}{o e f:Expr}{apos cpos:Pos}{td ty tx:TE}
theorem pe_dget2 (hu:X.A.units+1<cLine) (ho:PE X o td) (he:PE X e ty) (hf:PE X f tx) (m:M2 X o "get" apos e f cpos):PE X (.Call (.Attribute o "get" apos) [e,f] [] cpos) (tDGet2 td ty tx):=by
 intro pins s σ H Q I h
 refine wpAny_Call_method m.base m.few m.line PySem.F.plainAttrs_dict PySem.F.slot_dict_get PySem.F.type_dict_get (thn (ho pins s σ H _ I h) λu s1 ⟨x,H1,I1,rx,a,ex,d,q1⟩=>?_)
 subst ex
 obtain rfl:u=Value.ref a:=rx
 obtain⟨t1,t2,_⟩:=isD_at I1 d
 refine⟨t1,t2,?_⟩
 rw[m.trees]
 refine Calls.callWith_builtin rfl (Calls.evalArgs_plain (Calls.spliced_cons (thn (he pins s1 σ H1 _ I1 q1) λiv s2 ⟨y,H2,I2,ry,q2⟩ =>
  Calls.spliced_cons (thn (hf pins s2 σ H2 _ I2 q2) λfv s3 ⟨z,H3,I3,rz,ov,g,q3⟩=>Calls.spliced_nil ?_))))
 exact d_get2 hu I3 g ry rz λw' s4 I4 rw'=>⟨_,H3,I4,rw',q3⟩
end
section
variable {X:Cx}{pins:List (Addr×Obj)}{σ:St}{H:Hp}{s:Shared}{a:Addr}{kvs:List (Key×V)}{A:Around}{E:Value->Shared->Prop}
end
section
variable {X:Cx}{pins:List (Addr×Obj)}{σ:St}{H:Hp}{s:Shared}{a:Addr}{y:V}{u:Value}{A:Around}{E:Value->Shared->Prop}
end
end L2
namespace L2
open PySem PySem.Spec PyProof.Rows
theorem list_keys_none:typeLookup (.type "list") "keys"=pure none:=am_miss_of_fast (by first | decide +kernel | rfl)
theorem ud_entry:entryFor table "dict.update.loop"=some Builtin.«dict.update.loop»:=entryFor_of_tree (by kernel_rfl)
theorem ud_plain:plainId "dict.update.loop"=true:=by decide +kernel
section
variable {prog:Program}{w:World}{A:Around}{E:Value->Shared->Prop}
theorem miss_list {s:Shared}{a:Addr}{o:Obj}{xs:Array Value}{k:Nat}{Q:Option Value->Shared->Prop}(hx:s.heap.get? a=some o) (hc:o.cls=.type "list") (hdat:o.data=.seq xs k) (hd:o.dict=none) (hA:A.handled=none)
  (h:∀h' tk,(∀b ob,s.heap.get? b=some ob->h'.get? b=some ob)->Q none { s with heap:=h',toks:=tk }):wpAny (model prog w) A (getAttr? (.ref a) "keys") Q E s:=by
 obtain⟨c,dct,dat,sl⟩:=o
 simp only at hc hdat hd
 subst hc hdat hd
 obtain⟨hp,g,d,tk,os⟩:=s
 have hT:∀tk',(⟨hp,g,d,tk',os⟩:Shared).TypeIs (.ref a) "list":=λ_=>⟨_,hx,rfl⟩
 have hmiss:=list_keys_none
 have hname:(["__module__","__name__","__qualname__","__doc__","__annotations__"]:List Str).contains "keys"=false:=by decide +kernel
 have hsz:("keys":Str).length+100<=sizeLine:=by first | size_fits | decide +kernel
 have f1:=sub_AttributeError
 have f3:=PySem.F.slot_list_getattribute.lookup
 have f4:=PySem.F.slot_list_getattribute.bind (.ref a)
 have f5:=am_list_getattr_none
 unfold getAttr? getAttrBy? getAttrBy
 repeat (any_goals (first | assumption | exact hT _ | ((with_reducible show wpAny _ _ (call (Value.builtin "list.__getattribute__") _ _) _ _ _);refine call_meets PySem.F.slot_list_getattribute (hT _) am_entry_list_getattribute (PySem.F.args_list_getattribute_2 _ _) (meets_getattribute_miss_list a xs k sl "keys" _ hmiss hname hsz) ⟨hx,hA,λh' tk' e hx'=>?_⟩) | wp_step))
 obtain⟨t',u',he⟩:=hx'.there
 show wpAny _ _ (getattributeRaised _ _ _ _ _ _ _) _ _ _
 unfold getattributeRaised
 repeat (any_goals (first | assumption | wp_step))
 all_goals first | exact h _ _ hx'.keeps | (dsimp only;repeat (any_goals (first | assumption | exact h _ _ hx'.keeps | wp_step)))
theorem upd_loop {R:Result->Shared->Prop}{S I l:Addr}{items:Array Value}{res:Value}(hh:A.handled=none) (hlI:l≠I) (hSI:S≠I) (hSl:S≠l) :
  ∀(rest:List (Key×Value)) (i:Nat) (acc:List (Key×Value)) (ix:Int) (t:Tok) (s:Shared),items.size=i+rest.length->acc.length+rest.length<=sizeLine ->
   (∀(j:Nat) (q:Key×Value),rest[j]?=some q->∃(b:Addr) (u:Value),items[i+j]?=some (.ref b)/\b≠S/\b≠I/\IsTup s.heap b #[u,q.2]/\keyIs q.1 u=true) ->
   s.heap.IsListIter I l i->s.heap.IsList l items->s.heap.DictOf (mixKind prog w) S acc ->
   (∀h' tk,h'.DictOf (mixKind prog w) S (merged acc rest)->(∀b o,b≠S->b≠I->s.heap.get? b=some o->h'.get? b=some o)->R (.ok (.ret res)) { s with heap:=h',toks:=tk }) ->
   codeAny (model prog w) A (.builtin "dict.update.loop" ⟨[.ref S,.ref I,.int ix t,res],[]⟩) R s
 | [],i,acc,ix,t,s,hsz,hln,ht,hit,hl,hm,hR=>by
  refine codeAny_builtin ud_entry ?_
  rw[Around.under_plainId ud_plain _]
  show wpAny _ A.in1 (pyNext (.ref I) >>= _) _ _ s
  refine wpAny_bind (wpAny_pyNext_list_end (A:=A.in1) hh hit hl (by first | exact Array.getElem?_eq_none (Nat.le_of_eq hsz) | (simp at hsz;simp;omega)) λh' he=>?_)
  show wpAny _ A.in1 (Builtin.Dict.addKeywords S [] >>= _) _ _ _
  refine wpAny_bind (wpAny_pure (wpAny_pure ?_))
  exact hR h' s.toks (hm.extBut he hSI) λb o _ hb e=>he b o hb e
 | q::rest,i,acc,ix,t,s,hsz,hln,ht,hit,hl,hm,hR=>by
  obtain⟨b,u,hb,hbS,hbI,htup,hk⟩:=ht 0 q rfl
  rw[List.length_cons]at hsz hln
  refine codeAny_builtin ud_entry ?_
  rw[Around.under_plainId ud_plain _]
  show wpAny _ A.in1 (pyNext (.ref I) >>= _) _ _ s
  refine wpAny_bind (wpAny_pyNext_list_item (x:=.ref b) hit hl (by simpa using hb) λh1 hit1 hs1=>?_)
  have ht1:IsTup h1 b #[u,q.2]:=htup.extBut hs1.extBut hbI
  have hl1:h1.IsList l items:=hl.extBut hs1.extBut hlI
  have hm1:h1.DictOf (mixKind prog w) S acc:=hm.extBut hs1.extBut hSI
  obtain⟨o,ho,hc,n,hd⟩:=id ht1
  show wpAny _ A.in1 (holding [Value.ref b] _ >>= _) _ _ _
  refine wpAny_bind (wpAny_holding ?_)
  refine wpAny_bind (wpAny_tryCatch ?_)
  unfold Builtin.Dict.pairItems
  refine wpAny_bind (wpAny_typeOf (T:="tuple") ⟨o,ho,hc⟩ ?_)
  rw[if_pos (by first | decide | rfl | simp)]
  refine wpAny_bind (wpAny_seqItems ho hd (wpAny_pure ?_))
  show wpAny _ A.in1 (holding [u,q.2] (dictSet S u q.2)) _ _ _
  refine wpAny_holding (wpAny_dictSet_pairs (knd:=mixKind prog w) (k:=q.1) hk hm1 (λh2 hm2 hs2=>?_) (by omega))
  refine wpAny_pure ⟨plainId_quiet ud_plain _,upd_loop (items:=items) hh hlI hSI hSl rest (i+1) (stored acc q.1 q.2) (ix+1) 0 _ (show items.size=i+1+rest.length by omega) ?_ (λj q' e=>?_) ?_ ?_ hm2 λh' tk hd' k=>?_⟩
  ·have z:=stored_length_le acc q.1 q.2
   omega
  ·obtain⟨b',u',hb',hbS',hbI',htup',hk'⟩:=ht (j+1) q' (by simpa using e)
   refine⟨b',u',?_,hbS',hbI',(htup'.extBut hs1.extBut hbI').extBut hs2.extBut hbS',hk'⟩
   rw[show i+1+j=i+(j+1) by omega]
   exact hb'
  ·exact hit1.at λo' e=>hs2.extBut I o' (Ne.symm hSI) e
  ·exact hl1.extBut hs2.extBut (Ne.symm hSl)
  ·exact hR h' tk hd' λc oc h3 h4 e=>k c oc h3 h4 (hs2.extBut c oc h3 (hs1.extBut c oc h4 e))
theorem call_dict_pairs {s:Shared}{l:Addr}{ol:Obj}{items:Array Value}{n:Nat}{prs:List (Key×Value)}{Q:Value->Shared->Prop}(hh:A.handled=none) (hl:s.heap.get? l=some ol) (hc:ol.cls=.type "list") (hd:ol.dict=none)
  (hdat:ol.data=.seq items n) (hsz:items.size=prs.length) (hln:prs.length<=sizeLine)
  (ht:∀(j:Nat) (q:Key×Value),prs[j]?=some q->∃(b:Addr) (u:Value),items[j]?=some (.ref b)/\IsTup s.heap b #[u,q.2]/\keyIs q.1 u=true)
  (h:∀h' tk,h'.DictOf (mixKind prog w) s.heap.objs.size (merged [] prs)->(∀b o,s.heap.get? b=some o->h'.get? b=some o)->Q (.ref s.heap.objs.size) { s with heap:=h',toks:=tk }) :
  wpAny (model prog w) A (call (.type "dict") [.ref l]) Q E s:=by
 refine callType_codes (Q₁:=λobj s₁=>obj=.ref s.heap.objs.size/\s₁={ s with heap:=s.heap.push { cls:=.type "dict",data:=.dict #[] } }) PySem.F.kt_called_dict (PySem.F.kt_typeCall_dict_1 _) PySem.F.entry_dict_init (kt_code_dict_new _ ⟨rfl,rfl⟩) ?_
 rintro obj s₁ ⟨rfl,rfl⟩
 have hnew:(s.heap.push { cls:=.type "dict",data:=.dict #[] }).DictOf (mixKind prog w) s.heap.objs.size []:=Heap.DictOf.new s.heap
 have k0:∀b o,s.heap.get? b=some o->(s.heap.push { cls:=.type "dict",data:=.dict #[] }).get? b=some o:=λb o e=>Heap.get?_push_of_some _ e
 refine⟨hnew.typeIs,PySem.F.args_dict_init_2 _ _,?_⟩
 unfold Builtin.«dict.__init__»
 refine wpAny_bind ?_
 unfold Builtin.Dict.selfAndRest
 refine wpAny_bind (wpAny_notOrdered_dict hnew.typeIs ?_)
 show wpAny _ _ (pure (s.heap.objs.size,[Value.ref l])) _ _ _
 refine wpAny_pure ?_
 show wpAny _ _ (Builtin.Dict.updateFrom "dict.__init__" s.heap.objs.size (.ref l) [] .none) _ _ _
 unfold Builtin.Dict.updateFrom
 refine wpAny_bind (wpAny_typeOf (T:="list") ⟨ol,k0 _ _ hl,hc⟩ ?_)
 rw[if_pos (by first | decide | rfl | simp)]
 refine wpAny_bind (miss_list (k0 _ _ hl) hc hdat hd hh λh1 tk1 hk1=>?_)
 rw[if_pos (show (none:Option Value).isNone=true from rfl)]
 refine wpAny_bind (wpAny_rule ?_)
 have hl1:h1.IsList l items:=⟨ol,hk1 _ _ (k0 _ _ hl),hc,n,hdat⟩
 have hS1:s.heap.objs.size<h1.objs.size:=by
  have e:(s.heap.push { cls:=.type "dict",data:=.dict #[] }).get? s.heap.objs.size=some { cls:=.type "dict",data:=.dict #[] }:=Heap.get?_push_size _ rfl
  exact Heap.lt_size (hk1 _ _ e)
 refine wpAny_bind (wpAny_pyIter_list hl1 ?_)
 have k2:∀b o,h1.get? b=some o->(h1.push { cls:=.type "list_iterator",data:=.fields #[.ref l,.int 0 0] }).get? b=some o:=λb o e=>Heap.get?_push_of_some _ e
 have hlt:l<s.heap.objs.size:=Heap.lt_size hl
 have key:=upd_loop (prog:=prog) (w:=w) (A:=A.in1) (R:=wants (λr s₂=>r=.none/\Q (.ref s.heap.objs.size) s₂) E) (S:=s.heap.objs.size) (I:=h1.objs.size) (l:=l) (items:=items) (res:=Value.none) hh
  (Nat.ne_of_lt (Nat.lt_trans hlt hS1)) (Nat.ne_of_lt hS1) (Nat.ne_of_gt hlt) prs 0 [] 0 0
  { s with heap:=h1.push { cls:=.type "list_iterator",data:=.fields #[.ref l,.int 0 0] },toks:=tk1 } (by rw[hsz,Nat.zero_add]) (by rw[List.length_nil,Nat.zero_add];exact hln)
  (λj q e=>by
   obtain⟨b,u,e1,e2,e3⟩:=ht j q e
   have hb:b<s.heap.objs.size:=e2.lt
   exact⟨b,u,by rw[Nat.zero_add];exact e1,Nat.ne_of_lt hb,Nat.ne_of_lt (Nat.lt_trans hb hS1),e2.keeps λc o z=>k2 _ _ (hk1 _ _ (k0 _ _ z)),e3⟩)
  ⟨_,Heap.get?_push_size _ rfl,rfl,rfl⟩ (hl1.at λo e=>k2 _ _ e) ((hnew.at λo e=>hk1 _ _ e).at λo e=>k2 _ _ e)
  (λh' tk hd' k=>⟨rfl,h h' tk hd' λb o e=>k b o (Nat.ne_of_lt (Heap.lt_size e)) (Nat.ne_of_lt (Nat.lt_trans (Heap.lt_size e) hS1)) (k2 _ _ (hk1 _ _ (k0 _ _ e)))⟩)
 first
  | exact wpAny_pure ⟨plainId_quiet ud_plain _,key⟩
  | exact wpAny_bind (wpAny_pure (wpAny_pure ⟨plainId_quiet ud_plain _,key⟩))
end
section
variable {X:Cx}
theorem pairs_of {pins:List (Addr×Obj)}{σ:St}{H:Hp}{s:Shared}(I:Inv X pins σ H s):∀ {ps:List Addr}{kvs:List (Key×V)},Paired (λp kv=>SqT X.K H p [kV kv.1,kv.2]) ps kvs ->
  ∃prs:List (Key×Value),KV kvs prs/\prs.length=ps.length/\∀(j:Nat) (q:Key×Value),prs[j]?=some q->∃(b:Addr) (u:Value),ps[j]?=some b/\IsTup s.heap b #[u,q.2]/\keyIs q.1 u=true
 | _,_,.nil=>⟨[],.nil,rfl,λj q e=>by simp at e⟩
 | _,_,.cons (a:=p) (b:=kv) h t=>by
  obtain⟨prs,r,hl,hp⟩:=pairs_of I t
  obtain⟨its,rv,ht,_⟩:=I.tuple h
  obtain⟨u,y,ei,ru,ry⟩:=vals2 rv
  subst ei
  refine⟨(kv.1,y)::prs,.cons ⟨rfl,ry⟩ r,by rw[List.length_cons,List.length_cons,hl],λj q e=>?_⟩
  cases j with
  | zero =>
   have e':(kv.1,y)=q:=Option.some.inj e
   subst e'
   exact⟨p,u,rfl,ht,kV_is (P:=X.prog) (w:=X.w) ru⟩
  | succ j =>
   obtain⟨b,u',e1,e2,e3⟩:=hp j q (by simpa using e)
   exact⟨b,u',by simpa using e1,e2,e3⟩
theorem refs_at:∀ {ps:List Addr}{us:List Value},Vals (ps.map V.ref) us->us=ps.map Value.ref
 | [],us,r=>by
  rw[List.map_nil]at r
  cases r
  rfl
 | p::ps,us,r=>by
  rw[List.map_cons]at r
  cases r with
  | cons h t =>
   cases h
   rw[List.map_cons,<-refs_at t]
theorem call_dictP (hcalm:X.calm=true):CallR X (.type "dict") (λxs H Q=>∃(a:Addr) (ps:List Addr) (kvs:List (Key×V)),xs=[.ref a]/\SqL X.K H a (ps.map V.ref)/\Paired (λp kv=>SqT X.K H p [kV kv.1,kv.2]) ps kvs /\
  ∀p,H p=none->Q (.ref p) (upd H p (.dK (mergeK [] kvs)))):=by
 intro pins s σ H xs us Q I r q
 obtain⟨a,ps,kvs,ex,hq,hp,q⟩:=q
 subst ex
 obtain⟨u,eu,rx⟩:=vals1 r
 subst eu
 cases rx
 obtain⟨its,rv,pl,hz⟩:=I.list hq
 have ei:=refs_at rv
 subst ei
 rw[List.length_map]at hz
 obtain⟨prs,rel,hl,hpr⟩:=pairs_of I hp
 obtain⟨o,n,ho,hc,hd,hdat⟩:=pl
 refine call_dict_pairs (prs:=prs) (I.ok.hd hcalm) ho hc hd hdat (by simp[hl]) (by rw[hl];exact hz) (λj q' e=>?_) λh' tk hd' k=>?_
 ·obtain⟨b,u,e1,e2,e3⟩:=hpr j q' e
  exact⟨b,u,by simp[e1],e2,e3⟩
 ·have hm:(s.heap.objs.size == sysModules)=false:=beq_eq_false_iff_ne.mpr (Nat.ne_of_gt I.big)
  have hlen:(mergeK [] kvs).length<=sizeLine:=by
   refine Nat.le_trans (length_mergeK kvs []) ?_
   rw[List.length_nil,Nat.zero_add,rel.length,hl]
   exact hz
  exact⟨.ref s.heap.objs.size,upd H s.heap.objs.size (.dK (mergeK [] kvs)),I.laid (t':=tk) k (Nat.le_refl _) (show ObjOk X.prog X.w _ _ _ (.dK (mergeK [] kvs)) from⟨hlen,hm,merged [] prs,KV.merge rel .nil,hd'⟩),rfl,q _ (I.hok.fresh (Nat.le_refl _))⟩
end
end L2
namespace L2
open PySem PySem.Spec PyProof.Rows
section
variable {X:Cx}{pins:List (Addr×Obj)}{σ:St}{H:Hp}{s:Shared}{h':Heap}
theorem Inv.turnedNew {t':Nat}{ch:List Addr}{T:Addr}{ob:HO}(I:Inv X pins σ H s) (k:∀b o,b∉ch->s.heap.get? b=some o->h'.get? b=some o) (hf:∀b∈ch,FpOk X pins H b) (hT:s.heap.objs.size<=T)
  (new:ObjOk X.prog X.w (upd H T ob) h' T ob):Inv X pins σ (upd H T ob) { s with heap:=h',toks:=t' }:=by
 have hn:H T=none:=I.hok.fresh hT
 have nit:∀b u,H b=some u->b∉ch:=λb u e z=>by
  have q:=(hf b z).1
  rw[q]at e;cases e
 refine I.step (g':=s.gens) (d':=s.drawn) (ch:=ch) (λb hb=>⟨(hf b hb).2.2.2.1,(hf b hb).2.1,(hf b hb).2.2.2.2.1,(hf b hb).2.2.2.2.2⟩) (λb o _ _ hc e _=>k b o hc e) (λb o _ _ hc e _=>⟨o.slots,k b o hc e⟩)
  (λb o _ e n=>?_) (λb o hc e=>⟨o,k b o hc e⟩) (λb xs e=>?_) (λb o u e=>?_) (λb ps e=>⟨#[],?_⟩) (λm hm=>?_) (λb u e=>?_) I.bare
 ·rw[qqa (Nat.ne_of_lt (Nat.lt_of_lt_of_le (Heap.lt_size e) hT))];exact n
 ·rw[qqa (nen e hn)];exact e
 ·rw[qqa (nen e hn)];exact e
 ·rw[qqa (nen e hn),e];simp
 ·obtain⟨o,es,ep,ho,r⟩:=hm
  exact⟨o,es,ep,k _ o (λz=>(hf _ z).2.1 rfl) ho,r⟩
 ·by_cases hb:b=T
  ·subst hb
   rw[ups]at e
   cases e
   exact new
  ·rw[qqa hb]at e
   refine (I.hok b u e).stay (λc v hc q=>k c v ?_ q) (λc q=>by rw[qqa (nen q hn)];exact q) λc xs q=>by rw[qqa (nen q hn)];exact q
   rcases hc with z | z
   ·rw[z];exact nit b u e
   ·exact nit c _ z
theorem Inv.lock {d:Addr}{u:HO}(I:Inv X pins σ H s) (h:H d=some u) (mu:Mut (some u)):∃od,Inv X pins σ (upd H d (.frz od u)) s:=by
 have x:=I.hok d u h
 have ex:∃od,s.heap.get? d=some od:=by
  cases u with
  | lst xs=>obtain⟨_,_,_,_,e⟩:=x;exact⟨_,e⟩
  | dK kvs=>obtain⟨_,_,_,_,o,_,_,e,_⟩:=x;exact⟨o,e⟩
  | dT kvs=>obtain⟨_,_,_,_,o,_,_,e,_⟩:=x;exact⟨o,e⟩
  | set S n=>obtain⟨o,_,_,_,e,_⟩:=x;exact⟨o,e⟩
  | ins C dx fs=>obtain⟨_,_,_,e,_⟩:=x;exact⟨_,e⟩
  | ext φ=>obtain⟨_,⟨_,e⟩,_⟩:=x;exact⟨_,e⟩
  | _=>exact False.elim mu
 obtain⟨od,e⟩:=ex
 have new:ObjOk X.prog X.w (upd H d (.frz od u)) s.heap d (.frz od u):=by
  refine⟨e,x.stay (λb v _ q=>q) (λb q=>?_) λb xs q=>?_⟩
  ·rw[qqa (λz=>by rw[z,h]at q;cases q;exact mu)];exact q
  ·rw[qqa (λz=>by rw[z,h]at q;cases q;exact mu)];exact q
 exact⟨od,I.write (x:=d) (e:=d) (t':=s.toks) (h':=s.heap) (by rw[h];exact mu) (.inl rfl) (λb v _ q=>q) ⟨od,e⟩ new⟩
theorem Inv.nofrz {d:Addr}{u:HO}(I:Inv X pins σ H s) (h:H d=some u) (mu:Mut (some u)):∀o' u',X.H_0 d≠some (.frz o' u'):=λo' u' e=>by
 have q:=I.base.frzs d o' u' e
 rw[h]at q
 cases q
 exact mu
theorem Inv.unlock {d:Addr}{od:Obj}{u:HO}(I:Inv X pins σ H s) (h:H d=some (.frz od u)) (hn:∀o' u',X.H_0 d≠some (.frz o' u')):Inv X pins σ (upd H d u) s:=by
 have neH:∀b o,H b=some o->(∀o' u',o≠.frz o' u')->b≠d:=λb o e hne z=>by
  rw[z,h]at e
  cases e
  exact hne _ _ rfl
 have neN:∀b,H b=none->b≠d:=λb e z=>by rw[z,h]at e;cases e
 refine⟨I.ok,I.os,I.bare,⟨I.base.keep,I.base.slot,λb o e n hx=>?_,I.base.there,λb xs e=>?_,λb o x e=>?_,λb ps e=>?_⟩,I.loc,I.cell,?_,λx c e=>?_,λp hp=>?_,λb o e=>?_,I.len⟩
 ·rw[qqa (neN b (I.base.free b o e n hx))];exact I.base.free b o e n hx
 ·have q:=I.base.tups b xs e
  rw[qqa (neH b _ q (λ_ _ z=>nomatch z))];exact q
 ·have q:=I.base.frzs b o x e
  rw[qqa (λz=>by rw[z]at e;exact hn _ _ e)];exact q
 ·obtain⟨m,q⟩:=I.base.tbls b ps e
  exact⟨m,by rw[qqa (neH b _ q (λ_ _ z=>nomatch z))];exact q⟩
 ·rw[qqa (neN _ I.free)];exact I.free
 ·rw[qqa (neN c (I.freeC x c e))];exact I.freeC x c e
 ·obtain⟨e,n,r⟩:=I.pin p hp
  exact⟨e,by rw[qqa (neN _ n)];exact n,r⟩
 ·by_cases hb:b=d
  ·rw[hb,ups]at e
   cases e
   rw[hb]
   obtain⟨_,x⟩:=I.hok d _ h
   exact x.stay (λc v _ q=>q) (λc q=>by rw[qqa (neH c _ q (λ_ _ z=>nomatch z))];exact q) λc xs q=>by rw[qqa (neH c _ q (λ_ _ z=>nomatch z))];exact q
  ·rw[qqa hb]at e
   exact (I.hok b o e).stay (λc v _ q=>q) (λc q=>by rw[qqa (neH c _ q (λ_ _ z=>nomatch z))];exact q) λc xs q=>by rw[qqa (neH c _ q (λ_ _ z=>nomatch z))];exact q
end
def tLock (t:TS):TS:=λD σ H=>∃d u,H d=some u/\Mut (some u)/\∀od,t ⟨λσ' H'=>H' d=some (.frz od u)/\D.nx σ' (upd H' d u),λv H'=>H' d=some (.frz od u)/\D.rt v (upd H' d u),λσ' H'=>H' d=some (.frz od u)/\D.bk σ' (upd H' d u),λσ' H'=>H' d=some (.frz od u)/\D.ct σ' (upd H' d u)⟩ σ (upd H d (.frz od u))
def tLockE (t:TE):TE:=λσ H Q=>∃d u,H d=some u/\Mut (some u)/\∀od,t σ (upd H d (.frz od u)) λv H'=>H' d=some (.frz od u)/\Q v (upd H' d u)
section
variable {X:Cx}
theorem ps_lock {st:Stmt}{t:TS}(h:PS X st t):PS X st (tLock t):=by
 intro pins s σ H D I hw
 obtain⟨d,u,hd,mu,hw⟩:=hw
 obtain⟨od,I1⟩:=I.lock hd mu
 refine thn (h pins s σ _ _ I1 (hw od)) λf s1 q=>?_
 cases f with
 | next=>obtain⟨σ',H',I2,e,q⟩:=q;exact⟨σ',_,I2.unlock e (I.nofrz hd mu),q⟩
 | brk=>obtain⟨σ',H',I2,e,q⟩:=q;exact⟨σ',_,I2.unlock e (I.nofrz hd mu),q⟩
 | cont=>obtain⟨σ',H',I2,e,q⟩:=q;exact⟨σ',_,I2.unlock e (I.nofrz hd mu),q⟩
 | ret v=>obtain⟨x,σ',H',I2,r,e,q⟩:=q;exact⟨x,σ',_,I2.unlock e (I.nofrz hd mu),r,q⟩
theorem pi_one {tg:Expr}{pins:List (Addr×Obj)}{σ:St}{H:Hp}{s:Shared}{R:It->Hp->Prop}{J:It}{tn:Nat->Heap->Prop}{tk:Nat}(I:Inv X pins σ H s) (o:Obj)
  (T:Turn X.prog X.w X.K tg J [s.heap.objs.size] s.heap.objs.size tn) (st:tn 0 (s.heap.push o)) (q:R J H):PIE X pins σ tg R (.ref s.heap.objs.size) { s with heap:=s.heap.push o,toks:=tk }:=by
 refine⟨s.heap.objs.size,[s.heap.objs.size],tn,J,H,rfl,I.kept λb ob e=>Heap.get?_push_of_some _ e,T,st,λb hb=>?_,q⟩
 have e:b=s.heap.objs.size:=by simpa using hb
 subst e
 exact I.fpOk (Nat.le_refl _) (I.hok.fresh (Nat.le_refl _))
end
def Itc (lo c:Int) (n:Nat):It:=⟨λi _=>i<n,λi H x H'=>H'=H/\x=.int (lo+(i:Nat)*c),λi _=>n<=i⟩
theorem turn_rangeC {P:Program}{w:World}{K:PySem.W.Frag}{tg:Expr}(it:Addr) (lo c:Int) (n:Nat):Turn P w K tg (Itc lo c n) [it] it (λi h=>IsRangeIter h it (lo+(i:Nat)*c) ((n:Int) - (i:Nat)) c) where
 mem:=by simp
 obj:=λi h st b hb=>by
  have e:b=it:=by simpa using hb
  subst e
  exact⟨_,st,λv z=>nomatch z⟩
 keep:=λi h h' st k=>k it (by simp) _ st
 item:=by
  intro X hP hw hK hc i pins s σ H E I hf st hg
  subst hP hw hK
  obtain⟨f0,f1,f2,f3,f4,f5⟩:=hf it (by simp)
  have W:=Walks.range (prog:=X.prog) (w:=X.w) (I.ok.hd hc) it lo c n
  refine W.item i s _ _ hg st λv h' tk hv st' kk=>?_
  obtain⟨t,rfl⟩:=hv
  have I1:Inv X pins σ H { s with heap:=h',toks:=tk }:=I.turned (λb o hb e=>kk b o (by simpa using hb) e) f0 f1 f3 f4 f5
  exact⟨_,rfl,go_of (s:={ s with heap:=h',toks:=tk }) (n:="range_iterator") st' rfl rfl (by decide) ⟨.int (lo+(i:Nat)*c),H,I1,⟨t,rfl⟩,⟨rfl,rfl⟩,st',λb hb=>(hf b hb).1⟩⟩
 done:=by
  intro X hP hw hK hc i pins s σ H E I hf st hg
  subst hP hw hK
  obtain⟨f0,f1,f2,f3,f4,f5⟩:=hf it (by simp)
  exact wpAny_pyNext_range_end (I.ok.hd hc) st (by have:n<=i:=hg;omega) λh' eb=>⟨rfl,I.turned (t':=s.toks) (λb o hb e=>eb b o hb e) f0 f1 f3 f4 f5⟩
 self:=λA i s Q E st h=>wpAny_pyIter_rangeiter st h
def RgC (i j c:Int) (n:Nat):Prop:=c≠0/\c.natAbs<1073741824/\Builtin.Range.small i j c=true/\Builtin.Range.rangeSize i j c=n
theorem RgC.neg {i j:Int}(ha:-(2 ^ 62)<=i) (ha':i<2 ^ 62) (hb:-(2 ^ 62)<=j) (hb':j<2 ^ 62):RgC i j (-1) (i - j).toNat :=
 ⟨by decide,by decide,PySem.W.small_down ha ha' hb hb',PySem.W.rangeSize_downNat i j⟩
def iRng3 (ta:TA):TI:=λσ H R=>ta σ H λvs H1=>∃(i j c:Int) (n:Nat),vs=[.int i,.int j,.int c]/\RgC i j c n/\R (Itc i c n) H1
section
variable {X:Cx}{tg:Expr}
theorem pi_range3 {a b c:Expr}{ta:TA}{p pos:Pos}(hg:Gl X "range") (hm:X.mg "range"=none) (ha:PA X [a,b,c] ta)
  (hs:starEach [a,b,c] X.env=(false,eval a X.env)::starEach [b,c] X.env:=by rfl) (hpl:(backTo pos (starEach [b,c] X.env)).any (·.1)=false:=by rfl) :
  PI X tg (.Call (.Name "range" p) [a,b,c] [] pos) (iRng3 ta):=by
 intro pins s σ H R I h
 refine Call_ (ld_blt I hg hm boot_range (PyProof.Rows.callWith_type1 (thn (ha pos pins s σ H _ I h) λus s1 ⟨vs,H1,I1,r1,q1⟩=>?_) hs hpl))
 obtain⟨i,j,k,n,e,⟨c0,c1,c2,c3⟩,q⟩:=q1
 subst e
 cases r1 with
 | cons r rr =>
  cases rr with
  | cons r' rr =>
   cases rr with
   | cons r'' rr =>
    cases rr
    obtain⟨t,rfl⟩:=r
    obtain⟨t',rfl⟩:=r'
    obtain⟨t'',rfl⟩:=r''
    refine call_range_3 c0 ?_ (.inl (PyProof.noPylong_small c1))
    refine wpAny_pyIter_range (IsRange.new ..) c2 ?_
    have I2:Inv X pins σ H1 { s1 with heap:=s1.heap.push { cls:=.type "range",data:=.fields #[.int i t,.int j t',.int k t''] } }:=I1.kept (t':=s1.toks) λb o e=>Heap.get?_push_of_some _ e
    refine pi_one (tk:=s1.toks) I2 _ (turn_rangeC _ i k n) ?_ q
    have e1:i+((0:Nat):Int)*k=i:=by simp
    have e2:(n:Int) - ((0:Nat):Int)=Builtin.Range.rangeSize i j k:=by rw[c3];simp
    show IsRangeIter _ _ (i+((0:Nat):Int)*k) ((n:Int) - ((0:Nat):Int)) k
    rw[e1,e2]
    exact Heap.get?_push_size _ rfl
end
theorem for_rangeC {lo c:Int}{n:Nat}{g:TG}{tb:TS}{D:Ends}{σ:St}{H:Hp}(Pv:Nat->St->Hp->Prop) (h0:Pv 0 σ H)
  (hs:∀i σ H,i<n->Pv i σ H->g (.int (lo+(i:Nat)*c)) σ H λσ2 H2=>tb { D with nx:=Pv (i+1),ct:=Pv (i+1),bk:=D.nx } σ2 H2) (hd:∀σ H,Pv n σ H->D.nx σ H) :
  ∃W:Nat->Nat->St->Hp->Prop,(∃m,W 0 m σ H)/\∀i m σ H,W i m σ H ->
   ((Itc lo c n).stop i H/\D.nx σ H)\/((Itc lo c n).go i H/\∃N:St->Hp->Prop,(∀σ' H',N σ' H'->∃m',m'<m/\W (i+1) m' σ' H')/\∀x H',(Itc lo c n).yld i H x H'->g x σ H' λσ2 H2=>tb { D with nx:=N,ct:=N,bk:=D.nx } σ2 H2):=by
 refine⟨λi m σ H=>m=n - i/\i<=n/\Pv i σ H,⟨n,by simp,Nat.zero_le _,h0⟩,?_⟩
 rintro i m σ H ⟨rfl,hi,p⟩
 by_cases hlt:i<n
 ·refine .inr ⟨hlt,Pv (i+1),λσ' H' p'=>⟨n - (i+1),by omega,rfl,hlt,p'⟩,λx H' y=>?_⟩
  obtain⟨e,y⟩:=y
  subst e y
  exact hs i σ _ hlt p
 ·have e:i=n:=by omega
  subst e
  exact .inl ⟨Nat.le_refl _,hd σ H p⟩
section
variable {X:Cx}{tg:Expr}
end
def Its (x:Str):It:=⟨λi _=>i<x.cps.size,λi H v H'=>H'=H/\∃c,x.cps[i]?=some c/\v=.str ⟨#[c]⟩,λi _=>x.cps.size<=i⟩
theorem turn_str {P:Program}{w:World}{K:PySem.W.Frag}{tg:Expr}(it:Addr) (x:Str) (t:Tok) (ty:String) (hty:ty = "str_ascii_iterator"\/ty = "str_iterator") :
  Turn P w K tg (Its x) [it] it (λi h=>h.IsStrIter it ty x t i) where
 mem:=by simp
 obj:=λi h st b hb=>by
  have e:b=it:=by simpa using hb
  subst e
  obtain⟨o,e,c,d⟩:=st
  exact⟨o,e,λv z=>by rw[d]at z;cases z⟩
 keep:=λi h h' st k=>let ⟨o,ho,r⟩:=st;⟨o,k it (by simp) o ho,r⟩
 item:=by
  intro X hP hw hK hc i pins s σ H E I hf st hg
  subst hP hw hK
  obtain⟨f0,f1,f2,f3,f4,f5⟩:=hf it (by simp)
  have W:Walks X.prog X.w X.A it [it] [it] x.cps.size (SignAt x) (λi h=>h.IsStrIter it ty x t i):=by
   rcases hty with e | e
   ·rw[e];exact Walks.strAscii (I.ok.hd hc) it x t
   ·rw[e];exact Walks.strWide (I.ok.hd hc) it x t
  have hno:["enumerate","zip","dict_itemiterator","dict_reverseitemiterator","odict_iterator","itertools.zip_longest","itertools.pairwise"].contains ty=false:=by
   rcases hty with e | e
   ·rw[e];decide
   ·rw[e];decide
  refine W.item i s _ _ hg st λv h' tk hv st' kk=>?_
  obtain⟨c,u,hcx,rfl⟩:=hv
  have I1:Inv X pins σ H { s with heap:=h',toks:=tk }:=I.turned (λb o hb e=>kk b o (by simpa using hb) e) f0 f1 f3 f4 f5
  obtain⟨oi,e,cc,dd⟩:=id st'
  exact⟨_,rfl,go_of (s:={ s with heap:=h',toks:=tk }) e cc dd hno ⟨.str ⟨#[c]⟩,H,I1,⟨u,rfl⟩,⟨rfl,c,hcx,rfl⟩,st',λb hb=>(hf b hb).1⟩⟩
 done:=by
  intro X hP hw hK hc i pins s σ H E I hf st hg
  subst hP hw hK
  obtain⟨f0,f1,f2,f3,f4,f5⟩:=hf it (by simp)
  have hx:x.cps[i]?=none:=Array.getElem?_eq_none hg
  rcases hty with e | e
  ·rw[e]at st
   exact wpAny_pyNext_ascii_end (I.ok.hd hc) st hx λh' eb=>⟨rfl,I.turned (t':=s.toks) (λb o hb e=>eb b o hb e) f0 f1 f3 f4 f5⟩
  ·rw[e]at st
   exact wpAny_pyNext_wide_end (I.ok.hd hc) st hx λh' eb=>⟨rfl,I.turned (t':=s.toks) (λb o hb e=>eb b o hb e) f0 f1 f3 f4 f5⟩
 self:=λA i s Q E st h=>by
  rcases hty with e | e
  ·rw[e]at st;exact wpAny_pyIter_striter_ascii st h
  ·rw[e]at st;exact wpAny_pyIter_striter_wide st h
def iStr (te:TE):TI:=λσ H R=>te σ H λv H1=>∃x,v=.str x/\R (Its x) H1
theorem pi_str {X:Cx}{tg e:Expr}{te:TE}(he:PE X e te):PI X tg e (iStr te):=by
 intro pins s σ H R I h
 refine thn (he pins s σ H _ I h) λv s1 ⟨y,H1,I1,r1,x,ex,q⟩=>?_
 subst ex
 obtain⟨t,rfl⟩:=r1
 cases ha:x.cps.all (·<128)
 ·exact wpAny_pyIter_wide ha (pi_one (tk:=s1.toks) I1 _ (turn_str _ x t "str_iterator" (.inr rfl)) ⟨_,Heap.get?_push_size _ rfl,rfl,rfl⟩ q)
 ·exact wpAny_pyIter_ascii ha (pi_one (tk:=s1.toks) I1 _ (turn_str _ x t "str_ascii_iterator" (.inl rfl)) ⟨_,Heap.get?_push_size _ rfl,rfl,rfl⟩ q)
section
variable {prog:Program}{w:World}{A:Around}{E:Value->Shared->Prop}{s:Shared}
theorem iter_keys {d:Addr}{o:Obj}{es:Array DictEntry}{ep:Nat}{Q:Value->Shared->Prop}(hd:(d == sysModules)=false) (ho:s.heap.get? d=some o) (hc:o.ExactDict) (hdat:o.data=.dict es ep)
  (hQ:Q (.ref s.heap.objs.size) { s with heap:=s.heap.push { cls:=.type "dict_keyiterator",data:=.fields #[.ref d,.int 0 0,.int es.size 0,.int ep 0] } }) :
  wpAny (model prog w) A (pyIter (.ref d)) Q E s:=by
 have hT:s.TypeIs (.ref d) "dict":=⟨o,ho,hc.1⟩
 refine wpAny_pyIter_slot hT F.slot_dict_iter (wpAny_call_entry F.slot_dict_iter hT F.entry_dict_iter ?_ (F.args_dict_iter_1 _))
 unfold Builtin.«dict.__iter__»
 refine wpAny_bind ?_
 unfold Builtin.Dict.dictSlotNone
 refine wpAny_bind (wpAny_notOrdered_dict hT ?_)
 show wpAny _ _ (pure (Value.ref d)) _ _ s
 refine wpAny_pure ?_
 show wpAny _ _ (Builtin.Dict.showsAll d >>= _) _ _ s
 unfold Builtin.Dict.showsAll
 rw[if_neg (by rw[hd];exact Bool.false_ne_true)]
 refine wpAny_bind (wpAny_pure ?_)
 refine wpAny_bind (wpAny_dictEntries ho hdat ?_)
 refine wpAny_bind (wpAny_dictEpoch ho hdat ?_)
 refine wpAny_bind (wpAny_newObj_type (wpAny_pure ⟨_,rfl,"dict_keyiterator",_,⟨_,Heap.get?_push_size _ rfl,rfl⟩,F.slot_dict_keyiterator_next.lookup,?_⟩))
 simpa[rawInt] using hQ
theorem next_key_item {it d:Addr}{i n ep:Nat}{od:Obj}{es:Array DictEntry}{en:DictEntry}{Q:Option Value->Shared->Prop}(hit:s.heap.IsKeyIter it d i n ep) (hod:s.heap.get? d=some od) (hdd:od.data=.dict es ep)
  (hsz:es.size=n) (hx:es[i]?=some en) (hQ:∀h',h'.IsKeyIter it d (i+1) n ep->Heap.SameBut it s.heap h'->Q (some en.key) { s with heap:=h' }):wpAny (model prog w) A (pyNext (.ref it)) Q E s:=by
 obtain⟨o,ho,hc,hd⟩:=id hit
 unfold pyNext
 refine wpAny_bind (wpAny_attempt (wpAny_callSpecial?_slot (name:=Str.ofString "__next__") hit.typeIs F.slot_dict_keyiterator_next
  (wpAny_call_entry F.slot_dict_keyiterator_next hit.typeIs F.entry_dict_keyiterator_next ?_ (F.args_dict_keyiterator_next_1 _))))
 refine wpAny_bind (wpAny_pure ?_)
 refine wpAny_bind ?_
 refine wpAny_bind ?_
 first | refine wpAny_bind (wpAny_typeNameOfWhole_keyiter hit.typeIs (wpAny_pure ?_)) | refine wpAny_bind (wpAny_typeNameOf_keyiter hit.typeIs (wpAny_pure ?_))
 refine wpAny_bind (wpAny_fieldsOf ho hd ?_)
 have hown:Builtin.Dict_items.ownsTuple "dict_keyiterator"=false:=by decide
 simp only[hown,Bool.false_eq_true,if_false]
 show wpAny _ _ (if (Value.ref d == Value.none)=true then _ else _) _ _ s
 rw[if_neg (show ¬((Value.ref d == Value.none)=true) from Bool.false_ne_true)]
 refine wpAny_bind (wpAny_pure ?_)
 refine wpAny_bind (wpAny_dictEntries hod hdd ?_)
 rw[if_neg (by rw[hsz];simp)]
 refine wpAny_bind (wpAny_pure ?_)
 refine wpAny_bind (wpAny_dictEpoch hod hdd ?_)
 rw[if_neg (by simp)]
 refine wpAny_pure ?_
 obtain⟨hlt',hen⟩:=Array.getElem?_eq_some_iff.mp hx
 simp only[show ¬((i:Int)<0) from by omega,if_false,Int.toNat_natCast,Array.getElem?_eq_getElem hlt']
 refine wpAny_bind ?_
 first | refine wpAny_bind (wpAny_typeNameOfWhole_keyiter hit.typeIs (wpAny_pure ?_)) | refine wpAny_bind (wpAny_typeNameOf_keyiter hit.typeIs (wpAny_pure ?_))
 refine wpAny_bind (wpAny_isOneOf_keyiter hit.typeIs ?_)
 show wpAny _ _ (setField (.ref it) 1 (rawInt ((i:Int)+1)) >>= _) _ _ s
 refine wpAny_bind (wpAny_setField ho hd (by simp) ?_)
 have hit':(s.heap.update it (Obj.mapFields (·.setIfInBounds 1 (rawInt ((i:Int)+1))))).IsKeyIter it d (i+1) n ep :=
  ⟨_,Heap.get?_update_self _ ho (Obj.isFreed_of_fields (Obj.data_mapFields hd _)),(Obj.cls_mapFields ..).trans hc,by rw[Obj.data_mapFields hd];simp[rawInt]⟩
 refine wpAny_bind (wpAny_holding ?_)
 refine wpAny_bind (wpAny_isOneOf_keyiter (s:={ s with heap:=s.heap.update it (Obj.mapFields (·.setIfInBounds 1 (rawInt ((i:Int)+1)))) }) hit'.typeIs ?_)
 show wpAny _ _ (pure es[i].key) _ _ _
 rw[hen]
 exact wpAny_pure (wpAny_pure ⟨_,rfl,wpAny_pure (hQ _ hit' (Heap.SameBut.update ..))⟩)
theorem next_key_end {it d:Addr}{i n ep:Nat}{od:Obj}{es:Array DictEntry}{Q:Option Value->Shared->Prop}(hh:A.handled=none) (hit:s.heap.IsKeyIter it d i n ep) (hod:s.heap.get? d=some od) (hdd:od.data=.dict es ep)
  (hsz:es.size=n) (hge:n<=i) (hQ:∀h',Heap.ExtBut it s.heap h'->Q none { s with heap:=h' }):wpAny (model prog w) A (pyNext (.ref it)) Q E s:=by
 obtain⟨o,ho,hc,hd⟩:=id hit
 unfold pyNext
 refine wpAny_bind (wpAny_attempt (wpAny_callSpecial?_slot (name:=Str.ofString "__next__") hit.typeIs F.slot_dict_keyiterator_next
  (wpAny_call_entry F.slot_dict_keyiterator_next hit.typeIs F.entry_dict_keyiterator_next ?_ (F.args_dict_keyiterator_next_1 _))))
 refine wpAny_bind (wpAny_pure ?_)
 refine wpAny_bind ?_
 refine wpAny_bind ?_
 first | refine wpAny_bind (wpAny_typeNameOfWhole_keyiter hit.typeIs (wpAny_pure ?_)) | refine wpAny_bind (wpAny_typeNameOf_keyiter hit.typeIs (wpAny_pure ?_))
 refine wpAny_bind (wpAny_fieldsOf ho hd ?_)
 have hown:Builtin.Dict_items.ownsTuple "dict_keyiterator"=false:=by decide
 simp only[hown,Bool.false_eq_true,if_false]
 show wpAny _ _ (if (Value.ref d == Value.none)=true then _ else _) _ _ s
 rw[if_neg (show ¬((Value.ref d == Value.none)=true) from Bool.false_ne_true)]
 refine wpAny_bind (wpAny_pure ?_)
 refine wpAny_bind (wpAny_dictEntries hod hdd ?_)
 rw[if_neg (by rw[hsz];simp)]
 refine wpAny_bind (wpAny_pure ?_)
 refine wpAny_bind (wpAny_dictEpoch hod hdd ?_)
 rw[if_neg (by simp)]
 refine wpAny_pure ?_
 have hge':es.size<=i:=by rw[hsz];exact hge
 simp only[show ¬((i:Int)<0) from by omega,if_false,Int.toNat_natCast,Array.getElem?_eq_none hge']
 refine wpAny_bind ?_
 first | refine wpAny_bind (wpAny_typeNameOfWhole_keyiter hit.typeIs (wpAny_pure ?_)) | refine wpAny_bind (wpAny_typeNameOf_keyiter hit.typeIs (wpAny_pure ?_))
 show wpAny _ _ (setField (.ref it) 0 .none >>= _) _ _ s
 refine wpAny_bind (wpAny_setField ho hd (by simp) ?_)
 show wpAny _ _ (newExc (.type "StopIteration") [] >>= _) _ _ _
 refine wpAny_bind ?_
 simp only[newExc,newTuple]
 refine wpAny_bind (wpAny_newObj_type ?_ (by size_fits))
 refine wpAny_bind (m:=firstArgMember _ _) (wpAny_of_eq (a:=Value.none) (by first | rfl | (simp only[firstArgMember];rfl)) ?_)
 refine wpAny_newObj_type ?_ (by size_fits)
 simp only[raiseNew]
 refine wpAny_bind (wpAny_handled ?_)
 rw[show A.in1.handled=none from hh]
 refine wpAny_bind (wpAny_pure (wpAny_throw ?_))
 refine wpAny_bind (wpAny_isInstance (T:="StopIteration") (b:=true) ⟨_,Heap.get?_push_size _ rfl,rfl⟩ isSubtype_stop ?_)
 exact wpAny_pure (hQ _ (((Heap.SameBut.update ..).extBut.push _).push _))
end
theorem kv_get {κ:Type}{kvs:List (κ×V)}{vs:List (κ×Value)}(h:KV kvs vs):∀ {i:Nat}{k:κ}{v:V},kvs[i]?=some (k,v)->∃u,vs[i]?=some (k,u)/\RelV v u:=by
 unfold KV at h
 induction h with
 | nil=>intro i k v e;simp at e
 | @cons a b l₁ l₂ r t ih =>
  intro i k v e
  cases i with
  | zero =>
   simp only[List.getElem?_cons_zero,Option.some.injEq]at e
   subst e
   refine⟨b.2,?_,r.2⟩
   simp only[List.getElem?_cons_zero]
   exact congrArg some (Prod.ext r.1.symm rfl)
  | succ j =>
   simp only[List.getElem?_cons_succ]at e ⊢
   exact ih e
theorem paired_get {α β:Type}{G:α->β->Prop}{l₁:List α}{l₂:List β}(h:Paired G l₁ l₂):∀ {i:Nat}{a:α},l₁[i]?=some a->∃b,l₂[i]?=some b/\G a b:=by
 induction h with
 | nil=>intro i a e;simp at e
 | @cons a b l₁ l₂ r t ih =>
  intro i a' e
  cases i with
  | zero =>
   simp only[List.getElem?_cons_zero,Option.some.injEq]at e
   subst e
   exact⟨b,rfl,r⟩
  | succ j =>
   simp only[List.getElem?_cons_succ]at e ⊢
   exact ih e
theorem relV_key {k:Key}{u:Value}(h:keyIs k u=true):RelV (kV k) u:=by
 rcases keyIs_shape h with⟨i,t,rfl,rfl⟩|⟨x,t,rfl,rfl⟩
 ·exact⟨t,rfl⟩
 ·exact⟨t,rfl⟩
section
variable {X:Cx}{pins:List (Addr×Obj)}{σ:St}{H:Hp}{s:Shared}{d:Addr}{o:Obj}
theorem Inv.frzK {kvs:List (Key×V)}(I:Inv X pins σ H s) (h:H d=some (.frz o (.dK kvs))) :
  (d == sysModules)=false/\s.heap.get? d=some o/\o.ExactDict/\∃(es:Array DictEntry) (ep:Nat) (vs:List (Key×Value)),o.data=.dict es ep/\es.size=kvs.length/\KV kvs vs/\s.heap.DictAt (mixKind X.prog X.w) d vs ep:=by
 obtain⟨hd,z,hs,vs,kv,o',es,ep,ho,hx,hdt,r⟩:=I.hok d _ h
 rw[hd]at ho
 cases ho
 refine⟨hs,hd,hx,es,ep,vs,hdt,?_,kv,o,es,hd,hx,hdt,r⟩
 have l1:=r.2.1.length
 have l2:kvs.length=vs.length:=Paired.length kv
 rw[Array.length_toList]at l1
 omega
theorem Inv.frzT {kvs:List (List Key×V)}(I:Inv X pins σ H s) (h:H d=some (.frz o (.dT kvs))) :
  (d == sysModules)=false/\s.heap.get? d=some o/\o.ExactDict/\∃(es:Array DictEntry) (ep:Nat),o.data=.dict es ep/\es.size=kvs.length /\
   ∀(i:Nat) (k:List Key) (v:V),kvs[i]?=some (k,v)->∃(en:DictEntry) (q:Addr),es[i]?=some en/\en.key=.ref q/\H q=some (.tup (k.map kV)):=by
 obtain⟨hd,z,hs,xs,pr,o',es,ep,ho,hx,hdt,he,_⟩:=I.hok d _ h
 rw[hd]at ho
 cases ho
 refine⟨hs,hd,hx,es,ep,hdt,?_,λi k v e=>?_⟩
 ·have l1:es.size=xs.length:=size_of_entries he
  have l2:kvs.length=xs.length:=Paired.length pr
  omega
 ·obtain⟨b,hb,e1,e2,_⟩:=paired_get pr e
  have q:=entry_at he i
  rw[hb]at q
  exact⟨_,b.2.1,q,rfl,e2⟩
end
def Itk (d:Addr) (o:Obj) (kvs:List (Key×V)):It :=
 ⟨λi H=>H d=some (.frz o (.dK kvs))/\i<kvs.length,λi H x H'=>H'=H/\∃k v,kvs[i]?=some (k,v)/\x=kV k,λi H=>H d=some (.frz o (.dK kvs))/\kvs.length<=i⟩
def Itkt (d:Addr) (o:Obj) (kvs:List (List Key×V)):It :=
 ⟨λi H=>H d=some (.frz o (.dT kvs))/\i<kvs.length,λi H x H'=>H'=H/\∃(k:List Key) (v:V) (q:Addr),kvs[i]?=some (k,v)/\x=.ref q/\H q=some (.tup (k.map kV)),λi H=>H d=some (.frz o (.dT kvs))/\kvs.length<=i⟩
theorem dict_ep {o:Obj}{es es':Array DictEntry}{ep ep':Nat}(h:o.data=.dict es ep) (h':o.data=.dict es' ep'):es'=es/\ep'=ep:=by
 rw[h]at h'
 cases h'
 exact⟨rfl,rfl⟩
section
variable {P:Program}{w:World}{K:PySem.W.Frag}{tg:Expr}{d:Addr}{o:Obj}{es:Array DictEntry}{ep:Nat}
theorem turn_keys {kvs:List (Key×V)}(it:Addr) (hod:o.data=.dict es ep):Turn P w K tg (Itk d o kvs) [it] it (λi h=>h.IsKeyIter it d i kvs.length ep) where
 mem:=by simp
 obj:=λi h st b hb=>by
  have e:b=it:=by simpa using hb
  subst e
  obtain⟨oi,e,c,dd⟩:=st
  exact⟨oi,e,λv z=>by rw[dd]at z;cases z⟩
 keep:=λi h h' st k=>st.at λoi e=>k it (by simp) oi e
 item:=by
  intro X hP hw hK hc i pins s σ H E I hf st hg
  subst hP hw hK
  obtain⟨hd,hi⟩:=hg
  obtain⟨f0,f1,f2,f3,f4,f5⟩:=hf it (by simp)
  obtain⟨hs,hgd,hx,es',ep',vs,hdt,hsz,kv,hm⟩:=I.frzK hd
  obtain⟨rfl,rfl⟩:=dict_ep hod hdt
  obtain⟨⟨k,v⟩,hkv⟩:∃p,kvs[i]?=some p:=⟨kvs[i],List.getElem?_eq_getElem hi⟩
  obtain⟨u,hu,ru⟩:=kv_get kv hkv
  have hl:kvs.length=vs.length:=Paired.length kv
  rw[hl]at st
  refine wpAny_pyNext_dict_item st hm hu λkey h' hkey st' sb=>?_
  have I1:Inv X pins σ H { s with heap:=h' }:=I.turned (t':=s.toks) (λb ob hb e=>(sb.2 b hb).trans e) f0 f1 f3 f4 f5
  obtain⟨oi,e,c,dd⟩:=id st'
  refine⟨key,rfl,go_of (s:={ s with heap:=h' }) e c dd (by decide) ⟨kV k,H,I1,relV_key (show keyIs k key=true from hkey),⟨rfl,k,v,hkv,rfl⟩,?_,λb hb=>(hf b hb).1⟩⟩
  show h'.IsKeyIter it d (i+1) kvs.length _
  rw[hl]
  exact st'
 done:=by
  intro X hP hw hK hc i pins s σ H E I hf st hg
  subst hP hw hK
  obtain⟨hd,hi⟩:=hg
  obtain⟨f0,f1,f2,f3,f4,f5⟩:=hf it (by simp)
  obtain⟨hs,hgd,hx,es',ep',vs,hdt,hsz,kv,hm⟩:=I.frzK hd
  obtain⟨rfl,rfl⟩:=dict_ep hod hdt
  exact next_key_end (I.ok.hd hc) st hgd hdt hsz hi λh' eb=>⟨rfl,I.turned (t':=s.toks) (λb ob hb e=>eb b ob hb e) f0 f1 f3 f4 f5⟩
 self:=λA i s Q E st h=>wpAny_pyIter_keyiter st h
theorem turn_keysT {kvs:List (List Key×V)}(it:Addr) (hod:o.data=.dict es ep):Turn P w K tg (Itkt d o kvs) [it] it (λi h=>h.IsKeyIter it d i kvs.length ep) where
 mem:=by simp
 obj:=λi h st b hb=>by
  have e:b=it:=by simpa using hb
  subst e
  obtain⟨oi,e,c,dd⟩:=st
  exact⟨oi,e,λv z=>by rw[dd]at z;cases z⟩
 keep:=λi h h' st k=>st.at λoi e=>k it (by simp) oi e
 item:=by
  intro X hP hw hK hc i pins s σ H E I hf st hg
  subst hP hw hK
  obtain⟨hd,hi⟩:=hg
  obtain⟨f0,f1,f2,f3,f4,f5⟩:=hf it (by simp)
  obtain⟨hs,hgd,hx,es',ep',hdt,hsz,ent⟩:=I.frzT hd
  obtain⟨rfl,rfl⟩:=dict_ep hod hdt
  obtain⟨⟨k,v⟩,hkv⟩:∃p,kvs[i]?=some p:=⟨kvs[i],List.getElem?_eq_getElem hi⟩
  obtain⟨en,q,hen,hkey,hq⟩:=ent i k v hkv
  refine next_key_item st hgd hdt hsz hen λh' st' sb=>?_
  have I1:Inv X pins σ H { s with heap:=h' }:=I.turned (t':=s.toks) (λb ob hb e=>(sb.2 b hb).trans e) f0 f1 f3 f4 f5
  obtain⟨oi,e,c,dd⟩:=id st'
  exact⟨en.key,rfl,go_of (s:={ s with heap:=h' }) e c dd (by decide) ⟨.ref q,H,I1,hkey,⟨rfl,k,v,q,hkv,rfl,hq⟩,st',λb hb=>(hf b hb).1⟩⟩
 done:=by
  intro X hP hw hK hc i pins s σ H E I hf st hg
  subst hP hw hK
  obtain⟨hd,hi⟩:=hg
  obtain⟨f0,f1,f2,f3,f4,f5⟩:=hf it (by simp)
  obtain⟨hs,hgd,hx,es',ep',hdt,hsz,ent⟩:=I.frzT hd
  obtain⟨rfl,rfl⟩:=dict_ep hod hdt
  exact next_key_end (I.ok.hd hc) st hgd hdt hsz hi λh' eb=>⟨rfl,I.turned (t':=s.toks) (λb ob hb e=>eb b ob hb e) f0 f1 f3 f4 f5⟩
 self:=λA i s Q E st h=>by
  refine wpAny_pyIter_slot st.typeIs F.slot_dict_keyiterator_iter (wpAny_call_entry F.slot_dict_keyiterator_iter st.typeIs F.entry_dict_keyiterator_iter ?_ (F.args_dict_keyiterator_iter_1 _))
  show wpAny _ _ (ret (.ref it)) _ _ s
  exact wpAny_pure ⟨_,rfl,"dict_keyiterator",_,st.typeIs,F.slot_dict_keyiterator_next.lookup,h⟩
end
def iKeys (td:TE):TI:=λσ H R=>td σ H λx H1=>∃d o,x=.ref d/\((∃kvs,H1 d=some (.frz o (.dK kvs))/\R (Itk d o kvs) H1)\/∃kvs,H1 d=some (.frz o (.dT kvs))/\R (Itkt d o kvs) H1)
section
variable {X:Cx}{tg e:Expr}{td:TE}{apos cpos:Pos}
theorem pi_keys (he:PE X e td):PI X tg e (iKeys td):=by
 intro pins s σ H R I h
 refine thn (he pins s σ H _ I h) λu s1 ⟨x,H1,I1,rx,d,o,ex,q⟩=>?_
 subst ex
 obtain rfl:u=Value.ref d:=rx
 rcases q with⟨kvs,hd,q⟩|⟨kvs,hd,q⟩
 ·obtain⟨hs,hgd,hx,es,ep,vs,hdt,hsz,kv,hm⟩:=I1.frzK hd
  refine iter_keys hs hgd hx hdt (pi_one (tk:=s1.toks) I1 _ (turn_keys _ hdt) ⟨_,Heap.get?_push_size _ rfl,rfl,?_⟩ q)
  rw[hsz] <;> rfl
 ·obtain⟨hs,hgd,hx,es,ep,hdt,hsz,ent⟩:=I1.frzT hd
  refine iter_keys hs hgd hx hdt (pi_one (tk:=s1.toks) I1 _ (turn_keysT _ hdt) ⟨_,Heap.get?_push_size _ rfl,rfl,?_⟩ q)
  rw[hsz] <;> rfl
end
end L2
section
namespace Bits
open PySem PyProof.Rows
end Bits
end
section
namespace TL
open PySem PySem.Builtin PySem.Builtin.Str PySem.StrLaws
abbrev tl (x:Str):List Nat:=x.cps.toList
theorem len_tl (x:Str):x.length=(tl x).length:=by simp[tl,Str.length]
theorem tl_append (x y:Str):tl (x++y)=tl x++tl y:=by
 show (x++y).cps.toList=_
 rw[Str.cps_append,Array.toList_append]
def joinL (S:List Nat):List (List Nat)->List Nat
 | []=>[]
 | [p]=>p
 | p::q::r=>p++(S++joinL S (q::r))
theorem tl_join (y:Str):∀parts:List Str,tl (Str.join y parts)=joinL (tl y) (parts.map tl)
 | []=>rfl
 | [_]=>rfl
 | x::z::r=>by
  show tl (x++y++Str.join y (z::r))=tl x++(tl y++joinL (tl y) ((z::r).map tl))
  rw[tl_append,tl_append,tl_join y (z::r),List.append_assoc]
theorem join_eq (y:Str) (parts:List Str):Txt.join y parts=Str.join y parts:=glued_eq_join y parts
end TL
end
namespace L2
open PySem PySem.Spec PyProof.Rows
theorem strs_of_vals:∀ {ys:List Str}{us:List Value},Vals (ys.map V.str) us->StrsAre us ys
 | [],_,.nil=>.nil
 | y::ys,_,.cons r t=>by
  obtain⟨k,rfl⟩:=r
  exact .cons y k (strs_of_vals t)
section
variable {X:Cx}{pins:List (Addr×Obj)}{σ:St}{H:Hp}{s:Shared}{Q:VK}
end
section
variable {X:Cx}
theorem mt_join:MtR X "str.join" (λx xs H Q=>∃a p,∃ys:List Str,x=.str a/\xs=[.ref p]/\(SqL X.K H p (ys.map V.str)\/SqT X.K H p (ys.map V.str)) /\
  (ys.map (·.length)).sum+ys.length*a.length<=16777216/\Q (.str (Txt.join a ys)) H):=by
 intro pins s σ H x xs v us Q I rx rs h
 obtain⟨a,p,ys,rfl,rfl,hp,hz,h⟩:=h
 obtain⟨t,rfl⟩:=rx
 cases rs with
 | cons r1 rs =>
  cases rs
  cases r1
  rcases hp with hp | hp
  ·obtain⟨its,r,⟨o,n,ho,hc,_,hd⟩,_⟩:=I.list hp
   exact PyProof.Rows.join_list (items:=its.toArray) ⟨o,ho,hc,n,hd⟩ (by rw[List.toList_toArray];exact strs_of_vals r) hz λt' k=>⟨.str _,H,I.tok k,⟨t',rfl⟩,h⟩
  ·obtain⟨its,r,ht,_⟩:=I.tuple hp
   exact PyProof.Rows.join_tuple (items:=its.toArray) ht (by rw[List.toList_toArray];exact strs_of_vals r) hz λt' k=>⟨.str _,H,I.tok k,⟨t',rfl⟩,h⟩
end
section
variable {X:Cx}{o e:Expr}{to te:TE}
def tM1 (r:V->List V->Hp->VK->Prop) (to te:TE):TE:=λσ H Q=>to σ H λx H1=>(∃a,x=.str a)/\te σ H1 λy H2=>r x [y] H2 Q
theorem pe_m1 {id:String}{name:Str}{apos pos:Pos}{r:V->List V->Hp->VK->Prop}(slot:Slot "str" name id) (ty:typeOf (.builtin id)=pure (.type "method_descriptor")) (rule:MtR X id r) (ho:PE X o to) (he:PE X e te)
  (hs:starEach [e] X.env=[(false,eval e X.env)]:=by rfl) (hbase:attributeBase o name X.env (eval o X.env)=eval o X.env:=by rfl) (hline:(apos.endLine == pos.line)=true:=by rfl) :
  PE X (.Call (.Attribute o name apos) [e] [] pos) (tM1 r to te):=by
 intro pins s σ H Q I h
 refine PySem.Call_method1 hbase hs hline (thn (ho pins s σ H _ I h) λv s1 ⟨x,H1,I1,r1,q1⟩=>?_)
 obtain⟨⟨a,rfl⟩,q1⟩:=q1
 obtain⟨t,rfl⟩:=_root_.id r1
 refine⟨"str",_,F.plainAttrs_str,slot,ty,typeIs_str _ _ _,(λ_ e=>nomatch e),Calls.callWith_builtin rfl (Calls.evalArgs_plain (Calls.spliced_cons ?_))⟩
 exact thn (he pins s1 σ H1 _ I1 q1) λu s2 ⟨y,H2,I2,r2,q2⟩=>Calls.spliced_nil (rule pins s2 σ H2 _ [y] _ [u] Q I2 r1 (.cons r2 .nil) q2)
theorem pe_join {apos pos:Pos}(ho:PE X o to) (he:PE X e te) (hs:starEach [e] X.env=[(false,eval e X.env)]:=by rfl) (hbase:attributeBase o "join" X.env (eval o X.env)=eval o X.env:=by rfl) (hline:(apos.endLine == pos.line)=true:=by rfl) :
  PE X (.Call (.Attribute o "join" apos) [e] [] pos) (tM1 (λx xs H Q=>∃a p,∃ys:List Str,x=.str a/\xs=[.ref p]/\(SqL X.K H p (ys.map V.str)\/SqT X.K H p (ys.map V.str)) /\
   (ys.map (·.length)).sum+ys.length*a.length<=16777216/\Q (.str (Txt.join a ys)) H) to te) :=
 pe_m1 F.slot_str_join F.type_str_join mt_join ho he hs hbase hline
end
end L2
namespace L2
open PySem PySem.Spec PyProof.Rows
section
variable {X:Cx}
end
end L2
namespace Att
open PySem PySem.W PySem.Calls PyProof.Rows
section
variable {prog:Program}{w:World}{A:Around}{E:Value->Shared->Prop}{s:Shared}{K:Frag}
end
end Att
namespace L2
open PySem PySem.Spec PyProof.Rows
end L2
namespace L2
open PySem PySem.Spec PyProof.Rows
end L2
namespace L2
open PySem PySem.Spec PyProof.Rows
def inClass (s:Stmt) (j:Nat):Stmt:=match s with
 | .ClassDef _ _ _ body _ _ _ _ _ _ _=>body.getD j (.Pass ⟨0,0,0,0⟩)
 | _=>.Pass ⟨0,0,0,0⟩
def defArgs (s:Stmt):Arguments:=match s with
 | .FunctionDef _ a _ _ _ _ _ _ _ _=>a
 | _=>{ posonlyargs:=[],args:=[],vararg:=none,kwonlyargs:=[],kw_defaults:=[],kwarg:=none,defaults:=[] }
def defBody (s:Stmt):List Stmt:=match s with
 | .FunctionDef _ _ b _ _ _ _ _ _ _=>b
 | _=>[]
def dSc (s:Stmt):Scope:=match s with
 | .FunctionDef _ _ _ _ _ _ sc _ _ _=>sc
 | _=>{ kind:=.function,names:=[],isGenerator:=false,isCoroutine:=false }
abbrev CX0:CXT:=λ_ _ _ _ _ _=>False
abbrev E0:XK:=λ_ _ _=>False
structure Fun (K:PySem.W.Frag) (x qual:Str) (st:Stmt) (f:Addr) (fd:FuncData):Prop where
 ex:∃(oc:Value) (od:Option Addr) (kV doc pm:Value) (an:Option Addr) (cdv ct:Value) (osl:Array (Option Value)),
  fd=PySem.W.fnOf x qual (defArgs st) (defBody st) (dSc st) .none kV doc pm an cdv ct/\K.lookup f=some ⟨oc,od,.func fd,osl⟩/\PySem.W.codeIn K cdv qual=true
 kp:PySem.W.keepIn K (.ref f)=true
section
variable {P:Program}{w:World}{K:PySem.W.Frag}{mg:Str->Option Value}{base:Heap}
theorem Fun.binds {x qual:Str}{st:Stmt}{f:Addr}{fd:FuncData}{ps:List Str}(F:Fun K x qual st f fd)
  (h:∀(kV doc pm:Value) (an:Option Addr) (cdv ct:Value) (us:List Value),us.length=ps.length->bindArgs (PySem.W.fnOf x qual (defArgs st) (defBody st) (dSc st) .none kV doc pm an cdv ct) ⟨us,[]⟩=pure (ps.zip us)):Binds K fd ps []:=by
 obtain⟨oc,od,kV,doc,pm,an,cdv,ct,osl,rfl,lk,hcd⟩:=F.ex
 exact .all (h kV doc pm an cdv ct)
theorem fun_mk {x qual:Str}{st:Stmt}{f:Addr}{oc:Value}{od an:Option Addr}{osl:Array (Option Value)}{kV doc pm cdv ct:Value}(l:K.lookup f=some ⟨oc,od,.func (PySem.W.fnOf x qual (defArgs st) (defBody st) (dSc st) .none kV doc pm an cdv ct),osl⟩)
  (c:PySem.W.codeIn K cdv qual=true) (k:PySem.W.keepIn K (.ref f)=true):Fun K x qual st f (PySem.W.fnOf x qual (defArgs st) (defBody st) (dSc st) .none kV doc pm an cdv ct):=⟨⟨oc,od,kV,doc,pm,an,cdv,ct,osl,rfl,l,c⟩,k⟩
end
theorem hu_of {A:Around}{k:Nat}(hr:Room k A):A.units+1<cLine:=Nat.lt_of_le_of_lt (Nat.add_le_add_left (by decide:1<=64) _) hr.units
theorem small1000 {n:Nat}(h:n<=1000):n<sizeLine:=Nat.lt_of_le_of_lt h (by decide)
section
variable {X:Cx}
theorem pv (i:Nat){x:Str}{pos:Pos}(hN:X.N[i]?=some x:=by rfl) (hv:Vis X.env.scope x:=by first | exact Or.inl rfl | exact Or.inr (Or.inl rfl) | exact Or.inr (Or.inr rfl)) (hd:(x == ("__debug__":Str))=false:=by decide)
  (hcd:(x == ("__classdict__":Str))=false:=by decide):PE X (.Name x pos) (tVar i):=pe_var hN hv hd hcd
end
theorem ite2 {c A B:Prop} [Decidable c] (h1:c->A) (h2:¬c->B):if c then A else B:=by
 by_cases h:c
 ·rw[if_pos h]
  exact h1 h
 ·rw[if_neg h]
  exact h2 h
section
variable {κ:Type} [DecidableEq κ]
theorem valV_in {kvs:List (κ×V)}{k:κ}{v:V}(h:valV kvs k=some v):k∈kvs.map (·.1):=by
 have q:(kvs.any λkv=>decide (kv.1=k))=true:=by
  rw[valV_any,h]
  all_goals rfl
 obtain⟨p,hp,e⟩:=List.any_eq_true.mp q
 exact List.mem_map.mpr ⟨p,hp,of_decide_eq_true e⟩
end
end L2
end
section
section
set_option maxHeartbeats 2000000
namespace L2
open PySem PySem.Spec PyProof.Rows
open PySem.W (WData Codec OpenSpec Well WellAll ReadsW ReadsAllW)
mutual
inductive Dw (K:PySem.W.Frag) (H:Hp):V->WData->Prop
 | non:Dw K H .non .none
 | bl (b:Bool):Dw K H (.bl b) (.bool b)
 | int (i:Int):Dw K H (.int i) (.int i)
 | str (x:Str):Dw K H (.str x) (.str x)
 | byt (b:Array UInt8):Dw K H (.byt b) (.bytes b.toList)
 | lst {a:Addr}{xs:List V}{ds:List WData}:SqL K H a xs->DwAll K H xs ds->Dw K H (.ref a) (.list ds)
 | tup {a:Addr}{xs:List V}{ds:List WData}:SqT K H a xs->DwAll K H xs ds->Dw K H (.ref a) (.tuple ds)
inductive DwAll (K:PySem.W.Frag) (H:Hp):List V->List WData->Prop
 | nil:DwAll K H [] []
 | cons {v:V}{vs:List V}{d:WData}{ds:List WData}:Dw K H v d->DwAll K H vs ds->DwAll K H (v::vs) (d::ds)
end
theorem dw_ints {K:PySem.W.Frag}{H:Hp}:∀ns:List Int,DwAll K H (ns.map V.int) (ns.map WData.int)
 | []=>.nil
 | n::r=>.cons (.int n) (dw_ints r)
theorem ints_dw {K:PySem.W.Frag}{H:Hp}:∀(ns:List Int) (xs:List V),DwAll K H xs (ns.map WData.int)->xs=ns.map V.int
 | [],xs,h=>by
  cases h
  rfl
 | n::r,xs,h=>by
  cases h with
  | cons h1 h2 =>
   cases h1
   rw[ints_dw r _ h2] <;> rfl
section
variable {P:Program}{w:World}{K:PySem.W.Frag}{H:Hp}{h:Heap}{R:PySem.W.WRecords}{cl:Str->Option Addr}
theorem sqL_at {a:Addr}{xs:List V}(hok:HOk P w H h) (KX:K.In h) (q:SqL K H a xs):∃(its:List Value) (o:Obj) (n:Nat),Vals xs its/\h.get? a=some o/\o.cls=.type "list"/\o.data=.seq its.toArray n:=by
 rcases q with q | ⟨o,its,n,e,hc,_,hd,_,hv⟩
 ·obtain⟨_,its,n,hv,e⟩:=(show ObjOk P w H h a (.lst xs) from q.ok hok)
  exact⟨its,_,n,hv,e,rfl,rfl⟩
 ·exact⟨its.toList,o,n,hv,KX _ _ e,hc,by simp[hd]⟩
theorem sqT_at {a:Addr}{xs:List V}(hok:HOk P w H h) (KX:K.In h) (q:SqT K H a xs):∃(its:List Value) (o:Obj) (n:Nat),Vals xs its/\h.get? a=some o/\o.cls=.type "tuple"/\o.data=.seq its.toArray n:=by
 rcases q with q | ⟨o,its,n,e,hc,hd,_,hv⟩
 ·obtain⟨_,its,hv,o,e,hc,n,hd⟩:=(show ObjOk P w H h a (.tup xs) from q.ok hok)
  exact⟨its,o,n,hv,e,hc,hd⟩
 ·exact⟨its.toList,o,n,hv,KX _ _ e,hc,by simp[hd]⟩
mutual
theorem Dw.reads (hok:HOk P w H h) (KX:K.In h):∀(d:WData) (v:V) (u:Value),Dw K H v d->RelV v u->∃as,ReadsW R cl h u d as
 | .none,_,_,x,r=>by
  cases x
  cases r
  exact⟨_,ReadsW.none⟩
 | .bool b,_,_,x,r=>by
  cases x
  cases r
  exact⟨_,ReadsW.bool b⟩
 | .int i,_,_,x,r=>by
  cases x
  obtain⟨t,rfl⟩:=r
  exact⟨_,ReadsW.int i t⟩
 | .str s,_,_,x,r=>by
  cases x
  obtain⟨t,rfl⟩:=r
  exact⟨_,ReadsW.str s t⟩
 | .bytes b,_,_,x,r=>by
  cases x
  obtain⟨t,rfl⟩:=r
  exact⟨_,ReadsW.bytes _ t⟩
 | .list ds,_,_,x,r=>by
  cases x with
  | lst hs ha =>
   cases r
   obtain⟨its,o,n,rv,ho,hc,hd⟩:=sqL_at hok KX hs
   obtain⟨as,hr⟩:=Dw.readsAll hok KX ds _ its ha rv
   exact⟨_,ReadsW.list ho hc hd hr⟩
 | .tuple ds,_,_,x,r=>by
  cases x with
  | tup hs ha =>
   cases r
   obtain⟨its,o,n,rv,ho,hc,hd⟩:=sqT_at hok KX hs
   obtain⟨as,hr⟩:=Dw.readsAll hok KX ds _ its ha rv
   exact⟨_,ReadsW.tuple ho hc hd hr⟩
 | .float _,_,_,x,_=>by cases x
 | .dict _,_,_,x,_=>by cases x
 | .bytearray _,_,_,x,_=>by cases x
 | .set _,_,_,x,_=>by cases x
 | .frozenset _,_,_,x,_=>by cases x
 | .obj _ _,_,_,x,_=>by cases x
theorem Dw.readsAll (hok:HOk P w H h) (KX:K.In h):∀(ds:List WData) (vs:List V) (us:List Value),DwAll K H vs ds->Vals vs us->∃as,ReadsAllW R cl h us ds as
 | [],_,_,x,r=>by
  cases x
  cases r
  exact⟨_,ReadsAllW.nil⟩
 | d::ds,_,_,x,r=>by
  cases x with
  | cons h1 h2 =>
   cases r with
   | cons r1 r2 =>
    obtain⟨as,q1⟩:=Dw.reads hok KX d _ _ h1 r1
    obtain⟨bs,q2⟩:=Dw.readsAll hok KX ds _ _ h2 r2
    exact⟨_,ReadsAllW.cons q1 q2⟩
end
end
mutual
def plW:WData->Bool
 | .none=>true
 | .bool _=>true
 | .int _=>true
 | .str _=>true
 | .bytes _=>true
 | .list xs=>plWs xs
 | .tuple xs=>plWs xs
 | _=>false
def plWs:List WData->Bool
 | []=>true
 | x::r=>plW x&&plWs r
end
theorem plWs_map {α:Type}{f:α->WData}(h:∀a,plW (f a)=true):∀l:List α,plWs (l.map f)=true
 | []=>rfl
 | x::r=>by
  show (plW (f x)&&plWs (r.map f))=true
  rw[h x,plWs_map h r] <;> rfl
theorem pl_enc:∀(c:Codec) (a:c.denote),plW (c.enc a)=true
 | .unit,_=>rfl
 | .bool,_=>rfl
 | .int _ _,_=>rfl
 | .nat _ _,_=>rfl
 | .u8,_=>rfl
 | .bytes _ _,_=>rfl
 | .text _ _ _ _,_=>rfl
 | .list _ _ c,a=>plWs_map (λx=>pl_enc c x) a
 | .pair c d,a=>by
  show (plW (c.enc a.1)&&(plW (d.enc a.2)&&true))=true
  rw[pl_enc c a.1,pl_enc d a.2] <;> rfl
 | .triple c d e,a=>by
  show (plW (c.enc a.1)&&(plW (d.enc a.2.1)&&(plW (e.enc a.2.2)&&true)))=true
  rw[pl_enc c a.1,pl_enc d a.2.1,pl_enc e a.2.2] <;> rfl
 | .option c,none=>rfl
 | .option c,some x=>pl_enc c x
theorem pl_encAll:∀(cs:List Codec) (a:Codec.denoteAll cs),plWs (Codec.encAll cs a)=true
 | [],_=>rfl
 | c::cs,a=>by
  show (plW (c.enc a.1)&&plWs (Codec.encAll cs a.2))=true
  rw[pl_enc c a.1,pl_encAll cs a.2] <;> rfl
theorem weight_mem:∀ {xs:List WData}{d:WData},d∈xs->d.weight<=WData.weightAll xs
 | [],d,h=>absurd h (by simp)
 | x::r,d,h=>by
  show d.weight<=x.weight+1+WData.weightAll r
  rcases List.mem_cons.mp h with e | m
  ·rw[e]
   omega
  ·have z:=weight_mem m
   omega
def toV:Value->V
 | .none=>.non
 | .bool b=>.bl b
 | .int i _=>.int i
 | .str x _=>.str x
 | .bytes b _=>.byt b
 | .ref a=>.ref a
 | _=>.non
def OkU (A:List Addr):Value->Prop
 | .none=>True
 | .bool _=>True
 | .int _ _=>True
 | .str _ _=>True
 | .bytes _ _=>True
 | .ref a=>a∈A
 | _=>False
theorem OkU.mono {A B:List Addr}(h:∀a∈A,a∈B):∀ {u:Value},OkU A u->OkU B u:=λ{u} x=>by
 cases u with
 | ref a=>exact h a x
 | none=>trivial
 | bool b=>trivial
 | int i t=>trivial
 | str s t=>trivial
 | bytes b t=>trivial
 | _=>exact False.elim x
theorem relV_toV {A:List Addr}{u:Value}(x:OkU A u):RelV (toV u) u:=by
 cases u with
 | ref a=>rfl
 | none=>rfl
 | bool b=>rfl
 | int i t=>exact⟨t,rfl⟩
 | str s t=>exact⟨t,rfl⟩
 | bytes b t=>exact⟨t,rfl⟩
 | _=>exact False.elim x
theorem vals_toV {A:List Addr}:∀ {vs:List Value},(∀u∈vs,OkU A u)->Vals (vs.map toV) vs
 | [],_=>.nil
 | u::r,h=>.cons (relV_toV (h u (List.mem_cons_self ..))) (vals_toV λx hx=>h x (List.mem_cons_of_mem _ hx))
def ArgOb (h:Heap) (A:List Addr) (a:Addr):Prop:=∃vs:List Value,vs.length<=sizeLine/\(∀u∈vs,OkU A u) /\
 (h.get? a=some { cls:=.type "list",data:=.seq vs.toArray }\/h.get? a=some { cls:=.type "tuple",data:=.seq vs.toArray })
theorem ArgOb.mono {h:Heap}{A B:List Addr}{a:Addr}(k:∀a∈A,a∈B) (x:ArgOb h A a):ArgOb h B a:=by
 obtain⟨vs,h1,h2,h3⟩:=x
 exact⟨vs,h1,λu hu=>(h2 u hu).mono k,h3⟩
theorem wellAll_len {P:Params}{h:Heap}:∀ {vs:List Value}{ds:List WData},WellAll P h vs ds->vs.length=ds.length
 | _,_,.nil=>rfl
 | _,_,.cons _ b=>by
  show _+1=_+1
  rw[wellAll_len b]
theorem well_list {P:Params}{h:Heap}{v:Value}{ds:List WData}(x:Well P h v (.list ds)):∃(a:Addr) (vs:List Value),v=.ref a/\h.get? a=some { cls:=.type "list",data:=.seq vs.toArray }/\WellAll P h vs ds:=by
 cases x with
 | list ho hall=>exact⟨_,_,rfl,ho,hall⟩
theorem well_tuple {P:Params}{h:Heap}{v:Value}{ds:List WData}(x:Well P h v (.tuple ds)):∃(a:Addr) (vs:List Value),v=.ref a/\h.get? a=some { cls:=.type "tuple",data:=.seq vs.toArray }/\WellAll P h vs ds:=by
 cases x with
 | tuple ho hall=>exact⟨_,_,rfl,ho,hall⟩
theorem well_cons {P:Params}{h:Heap}{us:List Value}{d:WData}{ds:List WData}(x:WellAll P h us (d::ds)):∃(v:Value) (vs:List Value),us=v::vs/\Well P h v d/\WellAll P h vs ds:=by
 cases x with
 | cons a b=>exact⟨_,_,rfl,a,b⟩
theorem line_of {n:Nat}(h:n<=1048576):n<=sizeLine:=Nat.le_trans h (by decide)
section
variable {P:Params}{h:Heap}
mutual
theorem area_one:∀(d:WData) (v:Value),Well P h v d->plW d=true->d.weight<=1048576->∃A:List Addr,OkU A v/\∀a∈A,ArgOb h A a
 | .none,_,x,_,_=>by
  cases x
  exact⟨[],trivial,λa m=>absurd m (by simp)⟩
 | .bool b,_,x,_,_=>by
  cases x
  exact⟨[],trivial,λa m=>absurd m (by simp)⟩
 | .int i,_,x,_,_=>by
  cases x
  exact⟨[],trivial,λa m=>absurd m (by simp)⟩
 | .str s,_,x,_,_=>by
  cases x
  exact⟨[],trivial,λa m=>absurd m (by simp)⟩
 | .bytes b,_,x,_,_=>by
  cases x
  exact⟨[],trivial,λa m=>absurd m (by simp)⟩
 | .list ds,_,x,p,z=>by
  obtain⟨a,vs,rfl,ho,hall⟩:=well_list x
  have z2:WData.weightAll ds<=1048576:=z
  obtain⟨A,h1,h2⟩:=area_all ds _ hall p λd hd=>Nat.le_trans (weight_mem hd) z2
  have k:∀b∈A,b∈a::A:=λb hb=>List.mem_cons_of_mem _ hb
  refine⟨a::A,List.mem_cons_self ..,λb hb=>?_⟩
  rcases List.mem_cons.mp hb with e | m
  ·rw[e]
   exact⟨vs,line_of (by rw[wellAll_len hall];exact Nat.le_trans (PySem.W.length_le_weightAllW ds) z2),λu hu=>(h1 u hu).mono k,.inl ho⟩
  ·exact (h2 b m).mono k
 | .tuple ds,_,x,p,z=>by
  obtain⟨a,vs,rfl,ho,hall⟩:=well_tuple x
  have z2:WData.weightAll ds<=1048576:=z
  obtain⟨A,h1,h2⟩:=area_all ds _ hall p λd hd=>Nat.le_trans (weight_mem hd) z2
  have k:∀b∈A,b∈a::A:=λb hb=>List.mem_cons_of_mem _ hb
  refine⟨a::A,List.mem_cons_self ..,λb hb=>?_⟩
  rcases List.mem_cons.mp hb with e | m
  ·rw[e]
   exact⟨vs,line_of (by rw[wellAll_len hall];exact Nat.le_trans (PySem.W.length_le_weightAllW ds) z2),λu hu=>(h1 u hu).mono k,.inr ho⟩
  ·exact (h2 b m).mono k
 | .float _,_,_,p,_=>Bool.noConfusion (show false=true from p)
 | .dict _,_,_,p,_=>Bool.noConfusion (show false=true from p)
 | .bytearray _,_,_,p,_=>Bool.noConfusion (show false=true from p)
 | .set _,_,_,p,_=>Bool.noConfusion (show false=true from p)
 | .frozenset _,_,_,p,_=>Bool.noConfusion (show false=true from p)
 | .obj _ _,_,_,p,_=>Bool.noConfusion (show false=true from p)
theorem area_all:∀(ds:List WData) (vs:List Value),WellAll P h vs ds->plWs ds=true->(∀d∈ds,d.weight<=1048576)->∃A:List Addr,(∀u∈vs,OkU A u)/\∀a∈A,ArgOb h A a
 | [],_,x,_,_=>by
  cases x
  exact⟨[],λu m=>absurd m (by simp),λa m=>absurd m (by simp)⟩
 | d::ds,_,x,p,z=>by
  obtain⟨v,vs,rfl,x1,x2⟩:=well_cons x
  have q:plW d=true/\plWs ds=true:=Bool.and_eq_true_iff.mp p
  obtain⟨A,a1,a2⟩:=area_one d v x1 q.1 (z d (List.mem_cons_self ..))
  obtain⟨B,b1,b2⟩:=area_all ds vs x2 q.2 λe he=>z e (List.mem_cons_of_mem _ he)
  have kA:∀b∈A,b∈A++B:=λb hb=>List.mem_append.mpr (.inl hb)
  have kB:∀b∈B,b∈A++B:=λb hb=>List.mem_append.mpr (.inr hb)
  refine⟨A++B,λu hu=>?_,λb hb=>?_⟩
  ·rcases List.mem_cons.mp hu with e | m
   ·rw[e]
    exact a1.mono kA
   ·exact (b1 u m).mono kB
  ·rcases List.mem_append.mp hb with m | m
   ·exact (a2 b m).mono kA
   ·exact (b2 b m).mono kB
end
end
def hoOf (o:Obj):Option HO:=match o.data with
 | .seq vs _=>if (o.cls == Value.type "list")=true then some (.frz o (.lst (vs.toList.map toV))) else some (.frz o (.tup (vs.toList.map toV)))
 | _=>none
def argH (K:PySem.W.Frag) (h:Heap) (A:List Addr):Hp:=λb=>if b∈A then (if (K.lookup b).isNone=true then (h.get? b).bind hoOf else none) else none
def OnlyF (H:Hp):Prop:=∀b,H b=none\/∃o u,H b=some (.frz o u)
theorem hoOf_lst (vs:List Value):hoOf { cls:=.type "list",data:=.seq vs.toArray }=some (.frz { cls:=.type "list",data:=.seq vs.toArray } (.lst (vs.map toV))):=by
 show (if (Value.type "list" == Value.type "list")=true then some (HO.frz { cls:=.type "list",data:=.seq vs.toArray } (.lst (vs.toArray.toList.map toV))) else some (HO.frz { cls:=.type "list",data:=.seq vs.toArray } (.tup (vs.toArray.toList.map toV))))=_
 rw[if_pos (beq_self_eq_true _)]
theorem hoOf_tup (vs:List Value):hoOf { cls:=.type "tuple",data:=.seq vs.toArray }=some (.frz { cls:=.type "tuple",data:=.seq vs.toArray } (.tup (vs.map toV))):=by
 show (if (Value.type "tuple" == Value.type "list")=true then some (HO.frz { cls:=.type "tuple",data:=.seq vs.toArray } (.lst (vs.toArray.toList.map toV))) else some (HO.frz { cls:=.type "tuple",data:=.seq vs.toArray } (.tup (vs.toArray.toList.map toV))))=_
 rw[if_neg (by decide)]
section
variable {P:Program}{w:World}{K:PySem.W.Frag}{h:Heap}{A:List Addr}
theorem argH_at {b:Addr}{o:Obj}(hb:b∈A) (hk:K.lookup b=none) (e:h.get? b=some o):argH K h A b=hoOf o:=by
 unfold argH
 rw[if_pos hb,hk,if_pos (show (none:Option Obj).isNone=true from rfl),e] <;> rfl
theorem of_argH {b:Addr}{u:HO}(q:argH K h A b=some u):b∈A/\K.lookup b=none:=by
 unfold argH at q
 by_cases hb:b∈A
 ·rw[if_pos hb]at q
  cases hk:K.lookup b with
  | none=>exact⟨hb,rfl⟩
  | some o =>
   rw[hk,if_neg (by simp)]at q
   cases q
 ·rw[if_neg hb]at q
  cases q
theorem argH_is (ar:∀a∈A,ArgOb h A a){b:Addr}{u:HO}(q:argH K h A b=some u):K.lookup b=none/\∃vs:List Value,vs.length<=sizeLine/\(∀u∈vs,OkU A u) /\
  ((h.get? b=some { cls:=.type "list",data:=.seq vs.toArray }/\u=.frz { cls:=.type "list",data:=.seq vs.toArray } (.lst (vs.map toV))) \/
   (h.get? b=some { cls:=.type "tuple",data:=.seq vs.toArray }/\u=.frz { cls:=.type "tuple",data:=.seq vs.toArray } (.tup (vs.map toV)))):=by
 obtain⟨hb,hk⟩:=of_argH q
 obtain⟨vs,h1,h2,h3⟩:=ar b hb
 refine⟨hk,vs,h1,h2,?_⟩
 rcases h3 with e | e
 ·rw[argH_at hb hk e,hoOf_lst]at q
  exact .inl ⟨e,(Option.some.inj q).symm⟩
 ·rw[argH_at hb hk e,hoOf_tup]at q
  exact .inr ⟨e,(Option.some.inj q).symm⟩
theorem argH_only (ar:∀a∈A,ArgOb h A a):OnlyF (argH K h A):=λb=>by
 cases q:argH K h A b with
 | none=>exact .inl rfl
 | some u =>
  obtain⟨_,vs,_,_,⟨_,e⟩|⟨_,e⟩⟩:=argH_is ar q
  ·exact .inr ⟨_,_,by rw[e]⟩
  ·exact .inr ⟨_,_,by rw[e]⟩
theorem argH_ok (ar:∀a∈A,ArgOb h A a):HOk P w (argH K h A) h:=λb u q=>by
 obtain⟨_,vs,h1,h2,⟨e,rfl⟩|⟨e,rfl⟩⟩:=argH_is ar q
 ·exact⟨e,by rw[List.length_map];exact h1,vs,_,vals_toV h2,e⟩
 ·exact⟨e,by rw[List.length_map];exact h1,vs,vals_toV h2,_,e,rfl,_,rfl⟩
theorem seq_inj {c c':Value}{vs us:List Value}(e:(some { cls:=c,data:=.seq vs.toArray }:Option Obj)=some { cls:=c',data:=.seq us.toArray }):c=c'/\vs=us:=by
 have e1:=Option.some.inj e
 have e2:c=c':=congrArg Obj.cls e1
 have e3:Data.seq vs.toArray=Data.seq us.toArray:=congrArg Obj.data e1
 injection e3 with e4
 refine⟨e2,?_⟩
 have e5:=congrArg Array.toList e4
 simpa using e5
theorem argL (KX:K.In h) (ar:∀a∈A,ArgOb h A a){a:Addr}{vs:List Value}(ha:a∈A) (e:h.get? a=some { cls:=.type "list",data:=.seq vs.toArray }):(∀u∈vs,OkU A u)/\SqL K (argH K h A) a (vs.map toV):=by
 obtain⟨us,h1,h2,h3⟩:=ar a ha
 have hu:us=vs:=by
  rcases h3 with q | q
  ·rw[e]at q
   exact (seq_inj q).2.symm
  ·rw[e]at q
   exact absurd (Value.type.inj (seq_inj q).1) (by decide)
 subst hu
 refine⟨h2,?_⟩
 cases hk:K.lookup a with
 | none=>exact .inl (.inr ⟨_,by rw[argH_at ha hk e,hoOf_lst]⟩)
 | some o =>
  have e2:=KX a o hk
  rw[e]at e2
  obtain rfl:=Option.some.inj e2
  exact .inr ⟨_,us.toArray,_,hk,rfl,rfl,rfl,by rw[List.size_toArray];exact h1,by simpa using vals_toV h2⟩
theorem argT (KX:K.In h) (ar:∀a∈A,ArgOb h A a){a:Addr}{vs:List Value}(ha:a∈A) (e:h.get? a=some { cls:=.type "tuple",data:=.seq vs.toArray }):(∀u∈vs,OkU A u)/\SqT K (argH K h A) a (vs.map toV):=by
 obtain⟨us,h1,h2,h3⟩:=ar a ha
 have hu:us=vs:=by
  rcases h3 with q | q
  ·rw[e]at q
   exact absurd (Value.type.inj (seq_inj q).1) (by decide)
  ·rw[e]at q
   exact (seq_inj q).2.symm
 subst hu
 refine⟨h2,?_⟩
 cases hk:K.lookup a with
 | none=>exact .inl (.inr ⟨_,by rw[argH_at ha hk e,hoOf_tup]⟩)
 | some o =>
  have e2:=KX a o hk
  rw[e]at e2
  obtain rfl:=Option.some.inj e2
  exact .inr ⟨_,us.toArray,_,hk,rfl,rfl,by rw[List.size_toArray];exact h1,by simpa using vals_toV h2⟩
mutual
theorem dw_one {Pm:Params}(KX:K.In h) (ar:∀a∈A,ArgOb h A a):∀(d:WData) (v:Value),Well Pm h v d->plW d=true->OkU A v->Dw K (argH K h A) (toV v) d
 | .none,_,x,_,_=>by
  cases x
  exact .non
 | .bool b,_,x,_,_=>by
  cases x
  exact .bl b
 | .int i,_,x,_,_=>by
  cases x
  exact .int i
 | .str s,_,x,_,_=>by
  cases x
  exact .str s
 | .bytes b,_,x,_,_=>by
  cases x
  have z:=Dw.byt (K:=K) (H:=argH K h A) b.toArray
  exact z
 | .list ds,_,x,p,hu=>by
  obtain⟨a,vs,rfl,ho,hall⟩:=well_list x
  obtain⟨h2,hs⟩:=argL KX ar hu ho
  exact .lst hs (dw_all KX ar ds _ hall p h2)
 | .tuple ds,_,x,p,hu=>by
  obtain⟨a,vs,rfl,ho,hall⟩:=well_tuple x
  obtain⟨h2,hs⟩:=argT KX ar hu ho
  exact .tup hs (dw_all KX ar ds _ hall p h2)
 | .float _,_,_,p,_=>Bool.noConfusion (show false=true from p)
 | .dict _,_,_,p,_=>Bool.noConfusion (show false=true from p)
 | .bytearray _,_,_,p,_=>Bool.noConfusion (show false=true from p)
 | .set _,_,_,p,_=>Bool.noConfusion (show false=true from p)
 | .frozenset _,_,_,p,_=>Bool.noConfusion (show false=true from p)
 | .obj _ _,_,_,p,_=>Bool.noConfusion (show false=true from p)
theorem dw_all {Pm:Params}(KX:K.In h) (ar:∀a∈A,ArgOb h A a):∀(ds:List WData) (vs:List Value),WellAll Pm h vs ds->plWs ds=true->(∀u∈vs,OkU A u)->DwAll K (argH K h A) (vs.map toV) ds
 | [],_,x,_,_=>by
  cases x
  exact .nil
 | d::ds,_,x,p,hu=>by
  obtain⟨v,vs,rfl,x1,x2⟩:=well_cons x
  have q:plW d=true/\plWs ds=true:=Bool.and_eq_true_iff.mp p
  exact .cons (dw_one KX ar d v x1 q.1 (hu _ (List.mem_cons_self ..))) (dw_all KX ar ds vs x2 q.2 λu m=>hu u (List.mem_cons_of_mem _ m))
end
end
theorem spec_call {P:Program}{w:World}{K:PySem.W.Frag}{mg mb:Str->Option Value}{CX:CXT}{k:Nat}{fa:Addr}{fd:FuncData}{ps:List Str}{sp:Sp}{s₁:Shared}{vals:List Value}{ds:List WData}{R:PySem.W.WRecords}{cl:Str->Option Addr}{d0:WData}
  (KX:K.In s₁.heap) (hns:s₁.heap.Ns mainGlobals mg) (hb:s₁.heap.Ns builtinsNs mb) (hbb:∀x:Str,x≠"__name__"->mb x=bootBuiltins x) (hlim:s₁.heap.NoLimit) (hg:s₁.gens=#[])
  (hwl:WellAll w.params s₁.heap vals ds) (hpl:plWs ds=true) (hwt:∀d∈ds,d.weight<=1048576) (hr:Room k callerA)
  (F:∀base:Heap,K.In base->base.Ns mainGlobals mg->FnOk P w K mg base CX k fa fd ps sp) (hbind:∀(s:Shared) (us:List Value),us.length=ps.length->BindsTo s fd ⟨us,[]⟩ (ps.zip us)) (hlen:ds.length=ps.length)
  (hsp:∀(H:Hp) (xs:List V),OnlyF H->DwAll K H xs ds->sp xs H (λv H'=>Dw K H' v d0) λ_ _ _=>False)
  (hCX:∀H e s',CX [] H s₁ (λ_ _ _=>False) e s'->False) :
  codeAny (model P w) callerA (.call (.ref fa) ⟨vals,[]⟩) (λr s'=>∃u as,r=.ok (.ret u)/\ReadsW R cl s'.heap u d0 as/\OldK s₁.heap s'.heap/\s'.os=s₁.os/\AllBare s'.gens) s₁:=by
 obtain⟨A,ho,ar⟩:=area_all ds vals hwl hpl hwt
 have hO:OnlyF (argH K s₁.heap A):=argH_only ar
 have hok:HOk P w (argH K s₁.heap A) s₁.heap:=argH_ok ar
 have hS:=dw_all KX ar ds vals hwl hpl ho
 have hV:=vals_toV ho
 have hK:∀b u,argH K s₁.heap A b=some u->K.lookup b=none:=λb u q=>(argH_is ar q).1
 have noA:∀ {b:Addr}{o:Obj}{es:Array DictEntry}{ep:Nat},s₁.heap.get? b=some o->o.data=.dict es ep->argH K s₁.heap A b=none:=λ{b o es ep} e d=>by
  cases q:argH K s₁.heap A b with
  | none=>rfl
  | some u =>
   obtain⟨_,vs,_,_,⟨e2,_⟩|⟨e2,_⟩⟩:=argH_is ar q
   ·rw[e2]at e
    cases e
    have d':Data.seq vs.toArray _=Data.dict es ep:=d
    cases d'
   ·rw[e2]at e
    cases e
    have d':Data.seq vs.toArray _=Data.dict es ep:=d
    cases d'
 generalize argH K s₁.heap A=H at hO hok hS hK noA
 have base_of:∀ {b:Addr}{o:Obj},s₁.heap.get? b=some o->H b=none->(hidT s₁.heap H).get? b=some o:=λe n=>hidT_get e n
 have nsK:∀ {b:Addr}{m:Str->Option Value},s₁.heap.Ns b m->(hidT s₁.heap H).Ns b m:=λ{b m} ⟨o,es,ep,e,d,r⟩=>⟨o,es,ep,base_of e (noA e d),d,r⟩
 have nK:∀b o,K.lookup b=some o->H b=none:=λb o e=>by
  cases q:H b with
  | none=>rfl
  | some u =>
   rw[hK b u q]at e
   cases e
 have hKb:K.In (hidT s₁.heap H):=λb o e=>base_of (KX b o e) (nK b o e)
 have hM:Mod K mg (hidT s₁.heap H):=⟨hKb,nsK hns,⟨mb,nsK hb,hbb⟩,let ⟨mc,h1,h2⟩:=hlim;⟨mc,nsK h1,h2⟩⟩
 have e0:Env0 P w K mg (hidT s₁.heap H) callerA [] s₁ H:=⟨rfl,hM,λb o e=>of_hidT e,Nat.le_of_eq (hidT_size _ _),trivial,λb hb=>absurd (show b∈([]:List Addr) from hb) (by simp),hok,.of_eq hg⟩
 have hl:vals.length=ps.length:=by rw[wellAll_len hwl];exact hlen
 refine codeAny_mono ((F _ hKb (nsK hns)).run callerA [] s₁ H ⟨vals,[]⟩ vals (vals.map toV) _ _ hr e0 (hbind s₁ vals hl) hV (hsp H _ hO hS)) λr s' x=>?_
 cases r with
 | error e=>exact (hCX H e s' x).elim
 | ok fl =>
  cases fl with
  | next=>exact False.elim x
  | brk=>exact False.elim x
  | cont=>exact False.elim x
  | ret u =>
   obtain⟨v,H',os,bare,un,hok',r',q⟩:=x
   have kept:∀b o,s₁.heap.get? b=some o->s'.heap.get? b=some o:=λb o e=>by
    cases q2:H b with
    | none=>exact un.keep b o e q2 (by intro z;exact absurd (show b∈([]:List Addr) from z) (by simp)) (by simp)
    | some u2 =>
     rcases hO b with z | ⟨ob,u3,z⟩
     ·rw[q2]at z
      cases z
     ·have z2:=un.frzs b ob _ z
      obtain⟨e1,_⟩:=hok b _ z
      obtain⟨e2,_⟩:=hok' b _ z2
      rw[e]at e1
      cases e1
      exact e2
   have KX':K.In s'.heap:=λb o e=>kept b o (KX b o e)
   obtain⟨as,hrd⟩:=Dw.reads (R:=R) (cl:=cl) hok' KX' d0 v u q r'
   exact⟨u,as,rfl,hrd,OldK.of_keep kept,os,bare⟩
theorem layable_weight {ds:List WData}(h:WData.layableAll ds=true):∀d∈ds,d.weight<=1048576:=λd hd =>
 (PySem.W.layableW_iff.mp (List.all_eq_true.mp h d hd)).2.2
theorem encAll_len:∀(cs:List Codec) (a:Codec.denoteAll cs),(Codec.encAll cs a).length=cs.length
 | [],_=>rfl
 | c::cs,a=>by
  show (Codec.encAll cs a.2).length+1=cs.length+1
  rw[encAll_len cs a.2]
theorem walk_spec {r:OpenSpec}{k:Nat}{q:Program}{loose:List Str}{XP:(Str->Option Value)->Heap->Prop}{YP:World->Heap->Prop}{d:DefRec}{K:Params->PySem.W.Frag}{CX:World->CXT}{ps:List Str}{sp:World->Sp}
  (hwell:r.wellSaid=true) (hdf:d.params.defaults=[]) (hlen:r.args.length=ps.length) (hr:Room k callerA)
  (hY:∀(w:World) (h:Heap),YP w h->(K w.params).In h)
  (F:∀(w:World) (mg:Str->Option Value) (fa:Addr) (h:Heap),YP w h->(K w.params).In h->h.Ns mainGlobals mg->mg d.name=some (.ref fa) ->
   ∃fd:FuncData,(∀(s:Shared) (us:List Value),us.length=ps.length->BindsTo s fd ⟨us,[]⟩ (ps.zip us)) /\
    ∀base:Heap,(K w.params).In base->base.Ns mainGlobals mg->FnOk r.prog w (K w.params) mg base (CX w) k fa fd ps (sp w))
  (hsp:∀(w:World) (H:Hp) (xs:List V) (a:Codec.denoteAll r.args),OnlyF H->Codec.withinAll r.args a=true->Codec.app r.args r.asked a=true->DwAll (K w.params) H xs (Codec.encAll r.args a) ->
   sp w xs H (λv H'=>Dw (K w.params) H' v (r.ret.enc (Codec.app r.args r.f a))) λ_ _ _=>False)
  (hCX:∀(w:World) (H:Hp) (s:Shared) (e:Value) (s':Shared),CX w [] H s (λ_ _ _=>False) e s'->False) :
  PySem.W.WalkOS q loose XP YP r d [] (λf vs=>PySem.call f vs):=by
 intro w s_0 s₁ mg mb G Y fa o pm cd doc dV kV ho hd hcd hD hmg hg args vals as hpre hlay hrd hwl hlo
 obtain⟨a,e1,e2⟩:=PySem.W.os_pre_some hpre
 obtain⟨e3,hwi⟩:=Codec.encAll_of_decAll r.args args a e1
 subst e3
 have KX:=hY w _ Y
 obtain⟨fd,hb,hF⟩:=F w mg fa _ Y KX G.T.g hmg
 refine PySem.W.enter_call (codeAny_mono (spec_call (R:=[]) (cl:=classAt s_0.heap) (d0:=r.ret.enc (Codec.app r.args r.f a)) KX G.T.g G.T.b G.T.builtins G.T.nolimit hg hwl (pl_encAll _ _) (layable_weight hlay) hr hF hb (by rw[encAll_len];exact hlen)
  (λH xs hO hS=>hsp w H xs a hO hwi e2 hS) λH e s'=>hCX w H s₁ e s') λr' s' hq=>?_)
 obtain⟨u,as',rfl,h1,h2,h3,h4⟩:=hq
 exact⟨.inl ⟨u,_,as',rfl,λ_=>rfl,h1,(OpenSpec.post_iff hwell hwi _ _).mpr rfl,λz=>Bool.noConfusion (show false=true from z)⟩,h2,h3,h4⟩
end L2
end
end
section
namespace Tx
open PySem
def Head (U:Addr->Prop) (h:Heap) (e:Addr) (vs:Array Value):Option Value->Prop
 | none=>vs[1]?=some .none
 | some f=>∃T oT ts,vs[1]?=some (.ref T)/\T≠e/\U T/\h.get? T=some oT/\oT.data=.fields ts/\ts[3]?=some f
def Exc (U:Addr->Prop) (h:Heap) (e:Addr) (cls:Value) (od:Option Addr) (cx:Value) (fl:Option Value):Prop :=
 U e/\∃oe vs,h.get? e=some oe/\oe.cls=cls/\oe.dict=od/\oe.data=.fields vs/\vs.size=6/\vs[2]?=some cx/\Head U h e vs fl
theorem Exc.mono {U V:Addr->Prop}{h:Heap}{e:Addr}{cls cx:Value}{od:Option Addr}{fl:Option Value}(x:Exc U h e cls od cx fl) (k:∀b,U b->V b):Exc V h e cls od cx fl:=by
 obtain⟨ue,oe,vs,h1,h2,h3,h4,h5,h6,h7⟩:=x
 refine⟨k e ue,oe,vs,h1,h2,h3,h4,h5,h6,?_⟩
 cases fl with
 | none=>exact h7
 | some f =>
  obtain⟨T,oT,ts,q1,q2,q3,q4⟩:=h7
  exact⟨T,oT,ts,q1,q2,k T q3,q4⟩
structure Kept (U:Addr->Prop) (fs:List Addr) (h h':Heap):Prop where
 same:∀b o,h.get? b=some o->¬U b->b∉fs->h'.get? b=some o
 slot:∀b o,h.get? b=some o->¬U b->∃sl,h'.get? b=some { o with slots:=sl }
 there:∀b o,h.get? b=some o->∃o',h'.get? b=some o'
 size:h.objs.size<=h'.objs.size
theorem Kept.refl (U:Addr->Prop) (fs:List Addr) (h:Heap):Kept U fs h h:=⟨λ_ _ e _ _=>e,λ_ o e _=>⟨o.slots,e⟩,λ_ o e=>⟨o,e⟩,Nat.le_refl _⟩
theorem Kept.trans {U:Addr->Prop}{fs:List Addr}{h h1 h2:Heap}(a:Kept U fs h h1) (b:Kept U fs h1 h2):Kept U fs h h2 where
 same:=λc o e n f=>b.same c o (a.same c o e n f) n f
 slot:=λc o e n=>by
  obtain⟨sl,e1⟩:=a.slot c o e n
  obtain⟨sl',e2⟩:=b.slot c _ e1 n
  exact⟨sl',e2⟩
 there:=λc o e=>by
  obtain⟨o1,e1⟩:=a.there c o e
  exact b.there c o1 e1
 size:=Nat.le_trans a.size b.size
theorem Kept.fun_ {U:Addr->Prop}{fs:List Addr}{base h h':Heap}{l:List Env}(k:Kept U fs h h') (hl:h.FunFrames base l) (hU:∀b∈l.filterMap (·.frame),¬U b):h'.FunFrames base l:=by
 induction l with
 | nil=>trivial
 | cons env r ih =>
  obtain⟨hk,⟨L,o,hf,hn,ho,hd⟩,hr⟩:=hl
  have hL:¬U L:=hU L (by rw[List.filterMap_cons,hf];exact List.mem_cons_self)
  obtain⟨sl,e⟩:=k.slot L o ho hL
  exact⟨hk,⟨L,_,hf,hn,e,hd⟩,ih hr λb hb=>hU b (by rw[List.filterMap_cons,hf];exact List.mem_cons_of_mem _ hb)⟩
theorem kept_field {U:Addr->Prop}{fs:List Addr}{h:Heap}{a:Addr}{o:Obj}{vs:Array Value}{i:Nat}{x:Value}(ho:h.get? a=some o) (hd:o.data=.fields vs) (ha:U a) :
  Kept U fs h (h.update a (Obj.mapFields (·.setIfInBounds i x))):=by
 have new:=Heap.get?_update_self (Obj.mapFields (·.setIfInBounds i x)) ho (Obj.isFreed_of_fields (Obj.data_mapFields hd _))
 have old:∀b,b≠a->(h.update a (Obj.mapFields (·.setIfInBounds i x))).get? b=h.get? b:=λb hb=>Heap.get?_update_other _ _ (Ne.symm hb)
 refine⟨λb o' e n _=>?_,λb o' e n=>⟨o'.slots,?_⟩,λb o' e=>?_,Nat.le_of_eq (Heap.size_after_update ..).symm⟩
 ·rw[old b λz=>n (z▸ha)];exact e
 ·rw[old b λz=>n (z▸ha)];exact e
 ·by_cases hb:b=a
  ·subst hb;exact⟨_,new⟩
  ·exact⟨o',by rw[old b hb];exact e⟩
theorem kept_push {U:Addr->Prop}{fs:List Addr}{h:Heap}(o:Obj):Kept U fs h (h.push o) :=
 ⟨λ_ _ e _ _=>Heap.get?_push_of_some _ e,λ_ u e _=>⟨u.slots,Heap.get?_push_of_some _ e⟩,λ_ u e=>⟨u,Heap.get?_push_of_some _ e⟩,by rw[Heap.size_push];exact Nat.le_succ _⟩
section
variable {M:Model}{A:Around}{E:Value->Shared->Prop}{s:Shared}{U:Addr->Prop}{env:Env}{outer:List Env}{base:Heap}{L e:Addr}{cls cx:Value}{od:Option Addr}
theorem wp_flight {fl:Value}{to:Option Addr}{fs:List Addr}{Q:Unit->Shared->Prop}(x:Exc U s.heap e cls od cx (some fl))
  (h:∀h',Kept U fs s.heap h'->Exc U h' e cls od cx (some (to.elim .none λf=>rawInt f))->Q () { s with heap:=h' }):wpAny M A (setFlight (.ref e) to) Q E s:=by
 obtain⟨ue,oe,vs,h1,h2,h3,h4,h5,h6,T,oT,ts,q1,q2,q3,q4,q5,q6⟩:=x
 have n3:3<ts.size:=(Array.getElem?_eq_some_iff.mp q6).1
 unfold setFlight
 refine wpAny_bind (wpAny_field h1 h4 q1 ?_)
 rw[if_pos (show (Value.ref T != Value.none)=true from by simp)]
 refine wpAny_setField q4 q5 n3 (h _ (kept_field q4 q5 q3) ⟨ue,oe,vs,?_,h2,h3,h4,h5,h6,T,_,_,q1,q2,q3,Heap.get?_update_self _ q4 (Obj.isFreed_of_fields (Obj.data_mapFields q5 _)),Obj.data_mapFields q5 _,by simp[n3]⟩)
 rw[Heap.get?_update_other _ _ q2];exact h1
theorem wp_flight0 {to:Option Addr}{Q:Unit->Shared->Prop}(x:Exc U s.heap e cls od cx none) (h:Q () s):wpAny M A (setFlight (.ref e) to) Q E s:=by
 obtain⟨ue,oe,vs,h1,h2,h3,h4,h5,h6,q⟩:=x
 unfold setFlight
 refine wpAny_bind (wpAny_field h1 h4 q ?_)
 rw[if_neg (by decide)]
 exact wpAny_pure h
theorem wp_entry {head:Value}{had:Bool}{fl:Option Value}{Q:Unit->Shared->Prop}(hfr:A.frames=some (env::outer)) (hl:s.heap.FunFrames base (env::outer)) (hf:env.frame=some L) (hU:∀b,s.heap.objs.size<=b->U b)
  (hF:∀b∈(env::outer).filterMap (·.frame),¬U b) (x:Exc U s.heap e cls od cx fl)
  (h:∀h',Kept U ((env::outer).filterMap (·.frame)) s.heap h'->Exc U h' e cls od cx (some (rawInt L))->Q () { s with heap:=h' }) :
  wpAny M A (do let a <- frameOf env;let pl <- entryPlaceOf L had;let b <- EntryCells.newEntry head a .none (rawInt L) .none pl;setField (.ref e) 1 b) Q E s:=by
 obtain⟨ue,oe,vs,h1,h2,h3,h4,h5,h6,_⟩:=x
 refine wpAny_bind (wpAny_frameOf_fun hfr hl hf λg hs=>?_)
 refine wpAny_bind (wpAny_entryPlaceOf λpl hpl=>?_)
 unfold EntryCells.newEntry newFields
 refine wpAny_bind (wpAny_newObj_type ?_ (hpl.sizeOk5 _ _ _ _ _))
 have g1:g.get? e=some oe:=(hs.2.1 e λz=>hF e z ue).trans h1
 have k1:Kept U ((env::outer).filterMap (·.frame)) s.heap g:=⟨λb o q _ f=>(hs.2.1 b f).trans q,λb o q _=>hs.2.2 b o q,λb o q=>let ⟨_,z⟩:=hs.2.2 b o q;⟨_,z⟩,Nat.le_of_eq hs.1.symm⟩
 generalize hnew:({ cls:=.type "traceback",dict:=none,data:=.fields ([head,.ref L,.none,rawInt L,.none]++(if pl.isEmpty then List.replicate 6 Value.none else pl)).toArray }:Obj)=new
 have g2:=Heap.get?_push_of_some new g1
 have nT:g.objs.size≠e:=Nat.ne_of_gt (Heap.lt_size g1)
 have uT:U g.objs.size:=hU _ (by rw[hs.1];exact Nat.le_refl _)
 have dn:new.data=.fields ([head,.ref L,.none,rawInt L,.none]++(if pl.isEmpty then List.replicate 6 Value.none else pl)).toArray:=by rw[<-hnew]
 have gT:(g.push new).get? g.objs.size=some new:=Heap.get?_push_size g (by rw[<-hnew];rfl)
 refine wpAny_setField g2 h4 (by omega) (h _ (k1.trans ((kept_push new).trans (kept_field g2 h4 ue))) ⟨ue,_,_,Heap.get?_update_self _ g2 (Obj.isFreed_of_fields (Obj.data_mapFields h4 _)),?_,?_,Obj.data_mapFields h4 _,?_,?_,g.objs.size,new,_,?_,nT,uT,?_,dn,?_⟩)
 ·rw[Obj.cls_mapFields];exact h2
 ·obtain⟨c,d,dt,sl⟩:=oe
  cases dt <;> first | exact h3 | (cases h4;exact h3)
 ·simp[h5]
 ·rw[Array.getElem?_setIfInBounds_ne (by decide)];exact h6
 ·simp[h5]
 ·rw[Heap.get?_update_other _ _ (Ne.symm nT)];exact gT
 ·first | (simp;done) | (rcases hpl with rfl | ⟨_,_,_,_,_,_,_,rfl⟩ <;> simp)
theorem wp_note {fl:Option Value}{Q:Unit->Shared->Prop}(hfr:A.frames=some (env::outer)) (hl:s.heap.FunFrames base (env::outer)) (hf:env.frame=some L) (hU:∀b,s.heap.objs.size<=b->U b)
  (hF:∀b∈(env::outer).filterMap (·.frame),¬U b) (x:Exc U s.heap e cls od cx fl) (hfl:fl=none\/fl=some .none\/fl=some (rawInt L))
  (h:∀h',Kept U ((env::outer).filterMap (·.frame)) s.heap h'->Exc U h' e cls od cx (some (rawInt L))->Q () { s with heap:=h' }):wpAny M A (noteFrame (.ref e) env) Q E s:=by
 have x0:=x
 obtain⟨ue,oe,vs,h1,h2,h3,h4,h5,h6,hd⟩:=x
 unfold noteFrame
 simp only[hf]
 rcases hfl with rfl | rfl | rfl
 ·refine wpAny_bind (wpAny_field h1 h4 hd ?_)
  rw[if_neg (by decide)]
  exact wp_entry hfr hl hf hU hF x0 h
 ·obtain⟨T,oT,ts,q1,q2,q3,q4,q5,q6⟩:=hd
  refine wpAny_bind (wpAny_field h1 h4 q1 ?_)
  rw[if_pos (show (Value.ref T != Value.none)=true from by simp)]
  refine wpAny_bind (wpAny_field q4 q5 q6 ?_)
  rw[if_neg (show ¬((Value.none == rawInt L)=true) from by simp[rawInt])]
  refine wpAny_bind (wpAny_setField q4 q5 (Array.getElem?_eq_some_iff.mp q6).1 ?_)
  have k:Kept U ((env::outer).filterMap (·.frame)) s.heap (s.heap.update T (Obj.mapFields (·.setIfInBounds 3 Value.none))):=kept_field q4 q5 q3
  refine wp_entry hfr (k.fun_ hl hF) hf (λb hb=>hU b ?_) hF (fl:=some .none) ?_ λh' k' x'=>h h' (k.trans k') x'
  ·exact Nat.le_trans k.size hb
  ·refine⟨ue,oe,vs,?_,h2,h3,h4,h5,h6,T,_,_,q1,q2,q3,Heap.get?_update_self _ q4 (Obj.isFreed_of_fields (Obj.data_mapFields q5 _)),Obj.data_mapFields q5 _,by simp[(Array.getElem?_eq_some_iff.mp q6).1]⟩
   show (s.heap.update T (Obj.mapFields (·.setIfInBounds 3 Value.none))).get? e=some oe
   rw[Heap.get?_update_other _ _ q2];exact h1
 ·obtain⟨T,oT,ts,q1,q2,q3,q4,q5,q6⟩:=hd
  refine wpAny_bind (wpAny_field h1 h4 q1 ?_)
  rw[if_pos (show (Value.ref T != Value.none)=true from by simp)]
  refine wpAny_bind (wpAny_field q4 q5 q6 ?_)
  rw[if_pos (show (rawInt L == rawInt L)=true from by first | (simp;done) | exact beq_self_eq_true _)]
  exact wpAny_pure (h _ (Kept.refl _ _ _) x0)
theorem wp_leave {fl:Option Value}{Q:Unit->Shared->Prop}(hfr:A.frames=some (env::outer)) (hl:s.heap.FunFrames base (env::outer)) (hf:env.frame=some L) (hU:∀b,s.heap.objs.size<=b->U b)
  (hF:∀b∈(env::outer).filterMap (·.frame),¬U b) (x:Exc U s.heap e cls od cx fl) (hfl:fl=none\/fl=some .none\/fl=some (rawInt L))
  (h:∀h',Kept U ((env::outer).filterMap (·.frame)) s.heap h'->Exc U h' e cls od cx (some .none)->Q () { s with heap:=h' }):wpAny M A (leaving env (.ref e)) Q E s:=by
 unfold leaving
 refine wpAny_bind (wp_note hfr hl hf hU hF x hfl λh1 k1 x1=>?_)
 exact wp_flight (s:={ s with heap:=h1 }) (to:=none) x1 λh2 k2 x2=>h h2 (k1.trans k2) x2
end
end Tx
end
section
namespace Tx
open PySem PySem.W
abbrev excMro:List Value:=[.type "Exception",.type "BaseException",.type "object"]
structure XCls (K:Frag) (C:Addr):Prop where
 obj:∃nm q N bs hdct sn sub ab col dd k0 k1 k2 k3 k5,K.lookup C=some (excClassObj nm q C N bs excMro hdct sn sub ab col dd k0 k1 k2 k3 k5 "Exception.__new__")
def InitEnd (x:Addr) (R:Result->Shared->Prop) (r:Result) (s':Shared):Prop:=match r with
 | .ok (.ret v)=>v=.none/\R (.ok (.ret (.ref x))) s'
 | .ok _=>False
 | .error e=>R (.error e) s'
abbrev argsObj (vs:List Value):Obj:={ cls:=.type "tuple",data:=.seq vs.toArray }
abbrev excObj (C t:Addr) (od:Option Addr):Obj:={ cls:=.ref C,dict:=od,data:=.fields #[.ref t,.none,.none,.none,.bool false,.none] }
section
variable {prog:Program}{w:World}{A:Around}{K:Frag}{C f:Addr}{R:Result->Shared->Prop}{h:Heap}{g:Array GenState}{d:Drawn}{t:Nat}{os:OsState}
theorem exc_make {rest:List Value}(X:K.In h) (xc:XCls K C) (hi:findIn K (.ref C) "__init__"=some (some (.ref f))) (hb:∀self,Looks (model prog w) h (bindSpecial (.ref f) self) (.ref f,[self])) (hrest:rest.length<=sizeLine)
  (hq:codeAny (model prog w) (A.under (.builtin "type.__call__" ⟨.ref C::rest,[]⟩)) (.call (.ref f) ⟨.ref (h.objs.size+1)::rest,[]⟩) (InitEnd (h.objs.size+1) R)
   ⟨(h.push (argsObj rest)).push (excObj C h.objs.size none),g,d,t,os⟩) :
  codeAny (model prog w) A (.call (.ref C) ⟨rest,[]⟩) R ⟨h,g,d,t,os⟩:=by
 obtain⟨nm,q,N,bs,hdct,sn,sub,ab,col,dd,k0,k1,k2,k3,k5,lk0⟩:=xc.obj
 have hC:=X _ _ lk0
 have F:=PySem.F.excBase_Exception
 have f1:=tc_lookup
 have f2:=tc_bind (.ref C)
 have hT:(⟨h,g,d,t,os⟩:Shared).TypeIs (.ref C) "type":=⟨_,hC,rfl⟩
 refine codeAny_of_tree ?_
 show wpAny _ _ (callAny (.ref C) _) _ _ _
 repeat (any_goals (first | assumption | with_reducible refine wpAny_loadPart_at hC ?_ | wp_step))
 refine⟨rfl,?_⟩
 refine codeAny_call_builtin_at (Code.quiet_builtin _ (by decide +kernel)) entry_typeCall (wpAny_check_type_call_sub hC ?_)
 repeat (first | with_reducible refine wpAny_loadPart_at hC ?_ | with_reducible refine wpAny_madeBy_exc hC ?_ | wp_step)
 refine codeAny_call_builtin_code (Code.quiet_builtin _ F.quiet) (wpAny_check_new_sub F hC ?_)
 refine codeAny_exc_new_sub F hC ?_ hrest
 show wpAny _ _ _ _ _ _
 have k:∀b o,h.get? b=some o->((h.push (argsObj rest)).push (excObj C h.objs.size none)).get? b=some o:=λb o e=>Heap.get?_push_of_some _ (Heap.get?_push_of_some _ e)
 have hC1:=k _ _ hC
 have he:((h.push (argsObj rest)).push (excObj C h.objs.size none)).get? (h.objs.size+1)=some (excObj C h.objs.size none):=by heap_get
 have cc:(Value.ref C::excMro).contains (.ref C)=true:=by simp
 have i1:Looks (model prog w) ((h.push (argsObj rest)).push (excObj C h.objs.size none)) (typeLookup (.ref C) "__init__") (some (.ref f)):=(looks_findIn X hi).keeps k
 have b1:=(hb (.ref (h.objs.size+1))).keeps k
 unfold isInstance
 have t1:Looks (model prog w) ((h.push (argsObj rest)).push (excObj C h.objs.size none)) (typeOf (.ref (h.objs.size+1))) (.ref C):=(Looks.ld he).andThen .now
 refine wpAny_bind (wpAny_bind (t1.at (wpAny_isSubtype_exc hC1 ?_)))
 rw[cc]
 unfold callSpecial? specialOf
 repeat (first | with_reducible refine wpAny_call ?_ | lk)
 refine codeAny_mono hq λr s' z=>?_
 rcases r with e | (v | _ | _ | _) <;> first | exact z | exact z.elim | skip
 obtain⟨rfl,z⟩:=z
 exact wpAny_pure (wpAny_pure z)
end
end Tx
end
section
namespace Tx
open PySem PySem.W
section
variable {prog:Program}{w:World}{A:Around}{K:Frag}{C:Addr}{R:Result->Shared->Prop}{h:Heap}{g:Array GenState}{d:Drawn}{t:Nat}{os:OsState}
theorem exc_make0 (X:K.In h) (xc:XCls K C) (hi:findIn K (.ref C) "__init__"=some (some (.builtin "Exception.__init__")))
  (hq:∀h' u,(∀b o,h.get? b=some o->h'.get? b=some o)->h.objs.size<=h'.objs.size->h'.get? (h.objs.size+1)=some (excObj C u none)->R (.ok (.ret (.ref (h.objs.size+1)))) ⟨h',g,d,t,os⟩) :
  codeAny (model prog w) A (.call (.ref C) ⟨[],[]⟩) R ⟨h,g,d,t,os⟩:=by
 obtain⟨nm,q,N,bs,hdct,sn,sub,ab,col,dd,k0,k1,k2,k3,k5,lk0⟩:=xc.obj
 have hC:=X _ _ lk0
 have F:=PySem.F.excBase_Exception
 have f1:=tc_lookup
 have f2:=tc_bind (.ref C)
 have hT:(⟨h,g,d,t,os⟩:Shared).TypeIs (.ref C) "type":=⟨_,hC,rfl⟩
 refine codeAny_of_tree ?_
 show wpAny _ _ (callAny (.ref C) _) _ _ _
 repeat (any_goals (first | assumption | with_reducible refine wpAny_loadPart_at hC ?_ | wp_step))
 refine⟨rfl,?_⟩
 refine codeAny_call_builtin_at (Code.quiet_builtin _ (by decide +kernel)) entry_typeCall (wpAny_check_type_call_sub hC ?_)
 repeat (first | with_reducible refine wpAny_loadPart_at hC ?_ | with_reducible refine wpAny_madeBy_exc hC ?_ | wp_step)
 refine codeAny_call_builtin_code (Code.quiet_builtin _ F.quiet) (wpAny_check_new_sub F hC ?_)
 refine codeAny_exc_new_sub F hC ?_ (by decide)
 show wpAny _ _ _ _ _ _
 have k:∀b o,h.get? b=some o->((h.push (argsObj [])).push (excObj C h.objs.size none)).get? b=some o:=λb o e=>Heap.get?_push_of_some _ (Heap.get?_push_of_some _ e)
 have hC1:=k _ _ hC
 have he:((h.push (argsObj [])).push (excObj C h.objs.size none)).get? (h.objs.size+1)=some (excObj C h.objs.size none):=by heap_get
 have cc:(Value.ref C::excMro).contains (.ref C)=true:=by simp
 have i1:Looks (model prog w) ((h.push (argsObj [])).push (excObj C h.objs.size none)) (typeLookup (.ref C) "__init__") _:=(looks_findIn X hi).keeps k
 have b1:Looks (model prog w) ((h.push (argsObj [])).push (excObj C h.objs.size none)) (bindSpecial (.builtin "Exception.__init__") (.ref (h.objs.size+1))) _:=Looks.of_pure (F.init.bind _)
 unfold isInstance
 have t1:Looks (model prog w) ((h.push (argsObj [])).push (excObj C h.objs.size none)) (typeOf (.ref (h.objs.size+1))) (.ref C):=(Looks.ld he).andThen .now
 refine wpAny_bind (wpAny_bind (t1.at (wpAny_isSubtype_exc hC1 ?_)))
 rw[cc]
 unfold callSpecial? specialOf
 repeat (first | with_reducible refine wpAny_call ?_ | lk)
 refine codeAny_call_builtin F.init.plain F.initEntry (wpAny_check_init_sub F hC1 he rfl ?_)
 wp_walk
 refine hq _ (h.objs.size+2) (λb o hb=>?_) ?_ ?_
 ·rw[Heap.get?_update_other _ _ (Nat.ne_of_gt (Nat.lt_succ_of_lt (Heap.lt_size hb)))]
  exact Heap.get?_push_of_some _ (k b o hb)
 ·rw[Heap.size_after_update,Heap.size_push,Heap.size_push,Heap.size_push]
  omega
 ·rw[Heap.get?_update_self _ (Heap.get?_push_of_some _ he) rfl]
  simp only[Heap.size_push]
  rfl
end
end Tx
end
section
namespace Tx
open PySem PySem.W Builtin Builtin.ObjectAttr
def XAt (h:Heap) (C:Addr):Prop:=∃nm q N bs hdct sn sub ab col dd k0 k1 k2 k3 k5,h.get? C=some (excClassObj nm q C N bs excMro hdct sn sub ab col dd k0 k1 k2 k3 k5 "Exception.__new__")
theorem XCls.at_ {K:Frag}{C:Addr}{h:Heap}(x:XCls K C) (X:K.In h):XAt h C:=by
 obtain⟨nm,q,N,bs,hdct,sn,sub,ab,col,dd,k0,k1,k2,k3,k5,e⟩:=x.obj
 exact⟨nm,q,N,bs,hdct,sn,sub,ab,col,dd,k0,k1,k2,k3,k5,X _ _ e⟩
theorem XAt.kept {h h':Heap}{C:Addr}(x:XAt h C) (k:∀o,h.get? C=some o->h'.get? C=some o):XAt h' C:=by
 obtain⟨nm,q,N,bs,hdct,sn,sub,ab,col,dd,k0,k1,k2,k3,k5,e⟩:=x
 exact⟨nm,q,N,bs,hdct,sn,sub,ab,col,dd,k0,k1,k2,k3,k5,k _ e⟩
section
variable {M:Model}{A:Around}{E:Value->Shared->Prop}{env:Env}{U:Addr->Prop}{C e:Addr}{od:Option Addr}{cx:Value}
theorem wp_raise {s:Shared}{x:Sem Value}{Q:Flow->Shared->Prop}(hh:A.handled=none)
  (h:wpAny M A x (λv s1=>∃e U od cx,v=.ref e/\XAt s1.heap C/\Exc U s1.heap e (.ref C) od cx none/\E (.ref e) s1) E s):wpAny M A (raiseStmt env (some x) none) Q E s:=by
 unfold raiseStmt
 refine wpAny_bind (wpAny_mono h (λv s1 h1=>?_) λ_ _ z=>z)
 obtain⟨e,U,od,cx,rfl,⟨nm,q,N,bs,hdct,sn,sub,ab,col,dd,k0,k1,k2,k3,k5,hC⟩,xe,hE⟩:=h1
 obtain⟨ue,⟨ocls,odict,odata,oslots⟩,vs,h1,h2,h3,h4,h5,h6,h7⟩:=id xe
 dsimp only at h2 h3 h4
 subst h2 h3 h4
 have hb:(Value.ref C::excMro).contains (.type "BaseException")=true:=by rw[List.contains_cons,PySem.F.excBase_Exception.hasBase,Bool.or_true]
 obtain⟨hp,g,d,tk,os⟩:=s1
 have h7':vs[1]?=some Value.none:=h7
 have hd0:(Data.fields vs:Data)=.fields vs:=rfl
 repeat (first | with_reducible refine wpAny_loadPart_at h1 ?_ | with_reducible refine wpAny_loadPart_at hC ?_ | (with_reducible refine wpAny_isSubtype_exc hC ?_;rw[hb]) | with_reducible refine wpAny_field h1 rfl h7' ?_ | wp_step)
 exact wpAny_raiseNew_none hh hE
theorem Exc.write {h:Heap}{cls:Value}{i:Nat}{x:Value}(y:Exc U h e cls od cx none) (h1:i≠1):Exc U (h.update e (Obj.mapFields (·.setIfInBounds i x))) e cls od (if i=2 then x else cx) none:=by
 obtain⟨ue,oe,vs,q1,q2,q3,q4,q5,q6,q7⟩:=y
 refine⟨ue,_,_,Heap.get?_update_self _ q1 (Obj.isFreed_of_fields (Obj.data_mapFields q4 _)),?_,?_,Obj.data_mapFields q4 _,by simp[q5],?_,?_⟩
 ·rw[Obj.cls_mapFields];exact q2
 ·obtain⟨c,d,dt,sl⟩:=oe
  cases dt <;> first | exact q3 | (cases q4;exact q3)
 ·by_cases z:i=2
  ·subst z;simp[q5]
  ·rw[if_neg z,Array.getElem?_setIfInBounds_ne z];exact q6
 ·show (vs.setIfInBounds i x)[1]?=_
  rw[Array.getElem?_setIfInBounds_ne h1];exact q7
theorem wp_setField {s:Shared}{cls:Value}{i:Nat}{x:Value}{Q:Unit->Shared->Prop}(y:Exc U s.heap e cls od cx none) (h1:i≠1) (hi:i<6)
  (h:∀h',Kept U [] s.heap h'->Exc U h' e cls od (if i=2 then x else cx) none->Q () { s with heap:=h' }):wpAny M A (setField (.ref e) i x) Q E s:=by
 have y0:=y
 obtain⟨ue,oe,vs,q1,q2,q3,q4,q5,q6,q7⟩:=y
 exact wpAny_setField q1 q4 (by omega) (h _ (kept_field q1 q4 ue) (y0.write h1))
end
theorem unchain_entry:entryFor table "proto.unchain"=some Builtin.«proto.unchain»:=entryFor_of_tree (by kernel_rfl)
section
variable {prog:Program}{w:World}{A:Around}{E:Value->Shared->Prop}{env:Env}{C b:Addr}
theorem wp_raise_none {s:Shared}{x c:Sem Value}{Q:Flow->Shared->Prop}(hh:A.handled=some (.ref b))
  (h:wpAny (model prog w) A x (λv s1=>wpAny (model prog w) A c (λcv s2=>cv=.none/\∃e U od cx ob vb,v=.ref e/\XAt s2.heap C/\¬U C/\Exc U s2.heap e (.ref C) od cx none/\s2.heap.get? b=some ob/\ob.data=.fields vb/\vb[2]?=some .none/\¬U b /\
   ∀h',Kept U [] s2.heap h'->Exc U h' e (.ref C) od (.ref b) none->E (.ref e) { s2 with heap:=h' }) E s1) E s):wpAny (model prog w) A (raiseStmt env (some x) (some c)) Q E s:=by
 unfold raiseStmt
 refine wpAny_bind (wpAny_mono h (λv s1 h1=>?_) λ_ _ z=>z)
 dsimp only
 refine wpAny_bind (wpAny_holding (wpAny_mono h1 (λcv s2 h2=>wpAny_bind (wpAny_pure ?_)) λ_ _ z=>z))
 obtain⟨rfl,e,U,od,cx,ob,vb,rfl,xc,nC,xe,hb1,hb2,hb3,nb,hE⟩:=h2
 have hb:(Value.ref C::excMro).contains (.type "BaseException")=true:=by rw[List.contains_cons,PySem.F.excBase_Exception.hasBase,Bool.or_true]
 have inst:∀ {s:Shared}{Q:Value->Shared->Prop},XAt s.heap C->Exc U s.heap e (.ref C) od cx none->Q (.ref e) s->wpAny (model prog w) A (excFromValue (.ref e) "exceptions must derive from BaseException") Q E s:=by
  intro s Q xc xe hq
  obtain⟨nm,q,N,bs,hdct,sn,sub,ab,col,dd,k0,k1,k2,k3,k5,hC⟩:=xc
  obtain⟨ue,⟨ocls,odict,odata,oslots⟩,vs,h1,h2,h3,h4,h5,h6,h7⟩:=xe
  dsimp only at h2 h3 h4
  subst h2 h3 h4
  obtain⟨hp,g,d,tk,os⟩:=s
  unfold excFromValue isExcClass
  repeat (first | with_reducible refine wpAny_loadPart_at h1 ?_ | with_reducible refine wpAny_loadPart_at hC ?_ | (with_reducible refine wpAny_isSubtype_exc hC ?_;rw[hb]) | wp_step)
  exact hq
 have typ:∀ {s:Shared}{cx:Value}{Q:Bool->Shared->Prop},Exc U s.heap e (.ref C) od cx none->Q false s->wpAny (model prog w) A (isType (.ref e)) Q E s:=by
  intro s cx Q xe hq
  obtain⟨ue,⟨ocls,odict,odata,oslots⟩,vs,h1,h2,h3,h4,h5,h6,h7⟩:=xe
  dsimp only at h2 h3 h4
  subst h2 h3 h4
  obtain⟨hp,g,d,tk,os⟩:=s
  repeat (first | with_reducible refine wpAny_loadPart_at h1 ?_ | wp_step)
  exact hq
 have rin:∀ {s:Shared}{cx:Value}{Q:Value->Shared->Prop},XAt s.heap C->Exc U s.heap e (.ref C) od cx none->Q (.ref e) s->wpAny (model prog w) A (raisedInstance (.ref e)) Q E s:=by
  intro s cx Q xc xe hq
  obtain⟨nm,q,N,bs,hdct,sn,sub,ab,col,dd,k0,k1,k2,k3,k5,hC⟩:=xc
  obtain⟨ue,⟨ocls,odict,odata,oslots⟩,vs,h1,h2,h3,h4,h5,h6,h7⟩:=xe
  dsimp only at h2 h3 h4
  subst h2 h3 h4
  obtain⟨hp,g,d,tk,os⟩:=s
  repeat (first | with_reducible refine wpAny_loadPart_at h1 ?_ | with_reducible refine wpAny_loadPart_at hC ?_ | wp_step)
  exact hq
 refine wpAny_bind (wpAny_holding (inst xc xe ?_))
 dsimp only
 rw[if_pos (show (Value.none == Value.none)=true from rfl)]
 refine wpAny_bind (wpAny_pure ?_)
 refine wpAny_bind (wp_setField xe (i:=3) (by decide) (by decide) λg1 k1 x1=>?_)
 rw[if_neg (by decide)]at x1
 refine wpAny_bind (wp_setField (s:={ s2 with heap:=g1 }) x1 (i:=4) (by decide) (by decide) λg2 k2 x2=>?_)
 rw[if_neg (by decide)]at x2
 refine wpAny_bind (typ x2 ?_)
 rw[if_neg (by decide)]
 have k12:=k1.trans k2
 have xc2:XAt g2 C:=xc.kept λo q=>k12.same C o q nC (by simp)
 refine wpAny_bind (rin xc2 x2 ?_)
 refine wpAny_bind (wp_flight0 x2 ?_)
 unfold raiseNew
 refine wpAny_bind (wpAny_handled ?_)
 rw[hh]
 dsimp only
 have ne:(Value.ref b != Value.ref e)=true:=by
  have z:b≠e:=λz=>nb (z▸xe.1)
  simp[z]
 rw[if_pos ne]
 refine wpAny_bind (wpAny_holding (wpAny_runValue (codeAny_builtin unchain_entry ?_)))
 have hb':=k12.same b ob hb1 nb (by simp)
 refine wpAny_bind (wpAny_field hb' hb2 hb3 ?_)
 rw[if_pos (show (Value.none == Value.none)=true from rfl)]
 refine wpAny_pure (a:=Fin.done (.ret .none)) ?_
 show wpAny (model prog w) A (updateField e 2 (.ref b) >>= λ_=>throw (.ref e)) Q E _
 refine wpAny_bind (wp_setField (s:={ s2 with heap:=g2 }) x2 (i:=2) (x:=.ref b) (by decide) (by decide) λg3 k3 x3=>wpAny_throw ?_)
 exact hE g3 (k12.trans k3) x3
end
end Tx
end
section
namespace Tx
open PySem PySem.W Builtin Builtin.ObjectAttr
section
variable {prog:Program}{w:World}{A:Around}{E:Value->Shared->Prop}{h:Heap}{g:Array GenState}{d:Drawn}{t:Nat}{os:OsState}{K:Frag}{C x:Addr}{name:Str}{v:Value}{mA:Str->Option Value}
theorem exc_load {expr:Bool}{Q:Value->Shared->Prop}(X:K.In h) (xc:XCls K C) (hg:findIn K (.ref C) "__getattribute__"=some (some (.builtin "BaseException.__getattribute__"))) (hk:findIn K (.ref C) "__getattr__"=some none)
  (hf:findIn K (.ref C) name=some none) (hd:(match K.lookup C with | some ⟨_,_,.cls cd,_⟩=>cd.hasDict | _=>false)=true) (I:h.Inst x C mA) (hv:mA name=some v) (hh:handedOut v=pure v) (hq:Q v ⟨h,g,d,t+1,os⟩) :
  wpAny (model prog w) A (getAttr (.ref x) name expr) Q E ⟨h,g,d,t,os⟩:=by
 obtain⟨nm,q,N,bs,hdct,sn,sub,ab,col,dd,k0,k1,k2,k3,k5,lk0⟩:=xc.obj
 rw[lk0]at hd
 have hd':hdct=true:=hd
 subst hd'
 have hC:=X _ _ lk0
 obtain⟨⟨ocls,odict,odata,oslots⟩,hx,hc,hnc,hdd⟩:=I
 dsimp only at hc hnc hdd
 subst hc
 rcases hdd with⟨_,hmA⟩|⟨dx,hdx,hne,hns⟩
 ·rw[hmA name]at hv;cases hv
 subst hdx
 have FB:=PySem.F.attrBase_Exception
 have f3:=FB.ga.bind (.ref x)
 have e1:Looks (model prog w) h (typeLookup (.ref C) "__getattribute__") _:=looks_findIn X hg
 have e2:Looks (model prog w) h (typeLookup (.ref C) "__getattr__") _:=looks_findIn X hk
 have e3:Looks (model prog w) h (typeLookup (.ref C) name) _:=looks_findIn X hf
 have hx0:(expr&&onTheHeap (Value.builtin "BaseException.__getattribute__"))=false:=by cases expr <;> rfl
 have hx2:(Value.builtin "BaseException.__getattribute__" == Value.builtin "object.__getattribute__")=false:=by decide +kernel
 have hx1:(onTheHeap (Value.ref C)&&Value.builtin "BaseException.__getattribute__" == Value.builtin "object.__getattribute__")=false:=by rw[hx2];rfl
 have hcB:(Value.ref C::excMro).contains (.type "BaseException")=true:=by rw[List.contains_cons,PySem.F.excBase_Exception.hasBase,Bool.or_true]
 have ent:∀(A':Around) (Q:Fin->Shared->Prop) (E':Value->Shared->Prop) (tk:Tok) (t':Nat),Q (.done (.ret v)) ⟨h,g,d,t',os⟩->wpAny (model prog w) A' (Builtin.«object.__getattribute__» ⟨[.ref x,.str name tk],[]⟩) Q E' ⟨h,g,d,t',os⟩:=by
  intro A' Q E' tk t' hq
  unfold Builtin.«object.__getattribute__»
  repeat (first | with_reducible refine wpAny_loadPart_at hx ?_ | with_reducible refine e3.at ?_ | wp_step)
  split
  ·rename_i c hcd
   exact absurd hcd (hnc c)
  unfold instanceDict
  repeat (first | with_reducible refine wpAny_loadPart_at hx ?_ | with_reducible refine wpAny_loadPart_at hC ?_ | (with_reducible refine wpAny_nsGet hns.ns ?_;rw[hv]) | wp_step)
  exact hq
 have chk:∀(A':Around) (Q:Unit->Shared->Prop) (E':Value->Shared->Prop) (tk:Tok) (t':Nat),Q () ⟨h,g,d,t',os⟩->wpAny (model prog w) A' (checkBuiltinCall "BaseException.__getattribute__" ⟨[.ref x,.str name tk],[]⟩) Q E' ⟨h,g,d,t',os⟩:=by
  intro A' Q E' tk t' hq
  have hk:builtinKind "BaseException.__getattribute__"=some .slot:=by decide +kernel
  have hsplit:splitId "BaseException.__getattribute__"=some ("BaseException","__getattribute__"):=by decide +kernel
  have ha:=F.args_bexc_ga (.ref x) (.str name tk)
  simp only[checkBuiltinCall,hk,hsplit]
  refine wpAny_bind ?_
  unfold isInstance
  repeat (first | with_reducible refine wpAny_loadPart_at hx ?_ | (with_reducible refine wpAny_isSubtype_exc hC ?_;rw[hcB]) | wp_step)
  exact hq
 unfold getAttr getAttrBy
 repeat (first | with_reducible refine wpAny_loadPart_at hx ?_ | with_reducible refine e1.at ?_ | with_reducible refine e2.at ?_ | wp_step)
 refine codeAny_call_builtin FB.ga.plain F.entry_bexc_ga (chk _ _ _ _ _ (ent _ _ _ _ _ ?_))
 show wpAny (model prog w) A (handedOut v) Q E _
 rw[hh]
 exact wpAny_pure hq
end
end Tx
end
section
namespace Tx
open PySem PySem.W Builtin Builtin.ObjectAttr
structure XCls2 (K:Frag) (C N:Addr):Prop where
 obj:∃nm q bs sn sub ab col dd k0 k1 k2 k3 k5,K.lookup C=some (excClassObj nm q C N bs excMro true sn sub ab col dd k0 k1 k2 k3 k5 "Exception.__new__")
 ok:nsOkIn K N=true
 sa:nsIn K N "__setattr__"=some none
theorem XCls2.one {K:Frag}{C N:Addr}(x:XCls2 K C N):XCls K C:=by
 obtain⟨nm,q,bs,sn,sub,ab,col,dd,k0,k1,k2,k3,k5,e⟩:=x.obj
 exact⟨nm,q,N,bs,true,sn,sub,ab,col,dd,k0,k1,k2,k3,k5,e⟩
section
variable {prog:Program}{w:World}{A:Around}{E:Value->Shared->Prop}{h:Heap}{g:Array GenState}{d:Drawn}{t:Nat}{os:OsState}{K:Frag}{C N x:Addr}{name:Str}{v:Value}{mA:Str->Option Value}
theorem exc_store2 {Q:Unit->Shared->Prop}{ns:List Str}(X:K.In h) (xc:XCls2 K C N) (hna:nsIn K N name=some none) (hB:typeLookup (.type "Exception") name=pure none) (hxC:x≠C){t0 dx:Addr}
  (hx:h.get? x=some (excObj C t0 (some dx))) (hne:dx≠x) (hn:h.Ns1 dx mA) (hw:Within mA ns) (hsz:ns.length<=sizeLine)
  (hq:∀h' tk',h'.Ns1 dx (λy=>if y=name then some v else mA y)->h'.get? x=some (excObj C t0 (some dx))->(∀b o,b≠x->b≠dx->h.get? b=some o->h'.get? b=some o)->Q () ⟨h',g,d,tk',os⟩) :
  wpAny (model prog w) A (setAttr (.ref x) name v) Q E ⟨h,g,d,t,os⟩:=by
 obtain⟨nm,q,bs,sn,sub,ab,col,dd,k0,k1,k2,k3,k5,e⟩:=xc.obj
 refine store_attr PySem.F.store_Exception (X _ _ e) (.of_isNs (isNs_of_in X xc.ok)) (nsMap_none_of_in X xc.ok xc.sa) (nsMap_none_of_in X xc.ok hna) hB hxC
  ⟨_,hx,rfl,λc z=>(by cases z),.inr ⟨dx,rfl,hne,hn⟩⟩ (λh' tk' I' kp same=>?_) hw hsz
 obtain⟨o1,q1,q2,q3,q4,q5⟩:=same _ hx
 have q6:=q5 dx rfl
 clear q5
 obtain⟨c1,d1,dt1,sl1⟩:=o1
 dsimp only at q2 q3 q4 q6
 subst q2 q3 q4 q6
 obtain⟨o2,r1,_,_,r4⟩:=I'
 rw[q1]at r1
 cases r1
 rcases r4 with⟨z,_⟩|⟨d2,z,_,r5⟩
 ·cases z
 ·cases z
  exact hq h' tk' r5 q1 λb o h1 h2 h3=>kp b o h1 (λo0 dx0 e1 e2=>by rw[hx]at e1;cases e1;cases e2;exact h2) h3
theorem store_ent {Q:Fin->Shared->Prop}{tk:Tok}(X:K.In h) (xc:XCls2 K C N) (hf:findIn K (.ref C) name=some none){t0:Addr}(hx:h.get? x=some (excObj C t0 none))
  (hq:∀h' tk',h'.Ns1 h.objs.size (λy=>if y=name then some v else none)->h'.get? x=some (excObj C t0 (some h.objs.size))->(∀b o,b≠x->h.get? b=some o->h'.get? b=some o)->Q (.done (.ret .none)) ⟨h',g,d,tk',os⟩) :
   wpAny (model prog w) A (Builtin.«object.__setattr__» ⟨[.ref x,.str name tk,v],[]⟩) Q E ⟨h,g,d,t,os⟩:=by
 obtain⟨nm,q,bs,sn,sub,ab,col,dd,k0,k1,k2,k3,k5,lk⟩:=xc.obj
 have hC:=X _ _ lk
 have e3:Looks (model prog w) h (typeLookup (.ref C) name) _:=looks_findIn X hf
 have hpass:=PySem.F.store_Exception.passes (.ref x)
 have hx0:=hx
 generalize ho:excObj C t0 none=o at hx
 have hc:o.cls=.ref C:=by rw[<-ho]
 have hdn:o.dict=none:=by rw[<-ho]
 unfold Builtin.«object.__setattr__»
 repeat (first | rw[refuse_eq] | (rw[refuseLoop_ref,hpass]) | (with_reducible refine wpAny_loadPart_at hx ?_;rw[hc]) | with_reducible refine wpAny_mroOf_exc hC ?_ | with_reducible refine e3.at ?_ | wp_step)
 subst ho
 have n0:x≠h.objs.size:=Nat.ne_of_lt (Heap.lt_size hx0)
 have p0:=Heap.get?_push_of_some { cls:=.type "dict",data:=.dict #[] } hx0
 show wpAny (model prog w) A (do
   let d <- alloc { cls:=Value.type "dict",data:=Data.dict #[] }
   update x λo=>{ cls:=o.cls,dict:=some d,data:=o.data,slots:=o.slots }
   dictMade (Value.ref C) x d) _ _ _
 refine wpAny_bind (wpAny_alloc' (wpAny_bind (wpAny_update' p0 (wpAny_pure ?_))))
 generalize hu:(h.push { cls:=.type "dict",data:=.dict #[] }).update x (λo=>{ cls:=o.cls,dict:=some h.objs.size,data:=o.data,slots:=o.slots })=u
 have u1:u.get? x=some (excObj C t0 (some h.objs.size)):=by rw[<-hu];exact Heap.get?_update_self _ p0 rfl
 have u2:∀b,b≠x->u.get? b=(h.push { cls:=.type "dict",data:=.dict #[] }).get? b:=λb hb=>by rw[<-hu];exact Heap.get?_update_ne _ _ _ _ hb
 have u3:u.get? h.objs.size=some { cls:=.type "dict",data:=.dict #[] }:=(u2 _ (Ne.symm n0)).trans (Heap.get?_push_at rfl rfl)
 have u4:u.Ns h.objs.size (λ_=>none):=⟨_,#[],_,u3,rfl,λe he=>absurd he (by simp),λ_=>rfl⟩
 show wpAny _ _ (storeInDict h.objs.size (.str name tk) name v) _ _ _
 unfold storeInDict newKeyGuard
 refine wpAny_bind (wpAny_pure (wpAny_bind (wpAny_nsSet1 (Heap.Ns1.of_empty u4) λh' z same=>?_)))
 obtain⟨oD,esD,epD,r1,r2,r3⟩:=z.count (Within.cons name v Within.nil)
 have few:esD.size<=sizeLine:=Nat.le_trans r3 (by rw[List.length_cons,List.length_nil,sizeLine_eq];omega)
 refine wpAny_bind (wpAny_lookBehind r1 (by rw[r2];exact pastItsLine_dict (Nat.le_succ_of_le few)) ?_)
 wp_walk
 exact hq h' _ z ((same.2 x n0).trans u1) λb o hb e=>(same.2 b (Nat.ne_of_lt (Heap.lt_size e))).trans ((u2 b hb).trans (Heap.get?_push_of_some _ e))
end
end Tx
end
section
namespace Tx
open PySem PySem.W Builtin Builtin.ObjectAttr
section
variable {prog:Program}{w:World}{A:Around}{E:Value->Shared->Prop}{h:Heap}{g:Array GenState}{d:Drawn}{t:Nat}{os:OsState}{K:Frag}{C N x:Addr}{name:Str}{v:Value}{mA:Str->Option Value}
variable {nm q:Str}{bs bm:List Value}{sn:List Str}{sub:List Value}{ab:Bool}{col:Option Bool}{dd:Option Addr}{k0 k1 k2 k3 k5:Option Value}{B newId sa owner:String}
theorem store_via {tk:Tok}{R:Result->Shared->Prop}{o:Obj}{P:Heap->Prop}(SF:StoreFacts B bm sa owner) (hC:h.get? C=some (excClassObj nm q C N bs bm true sn sub ab col dd k0 k1 k2 k3 k5 newId)) (hx:h.get? x=some o) (hc:o.cls=.ref C)
  (ent:∀(A:Around) (Q:Fin->Shared->Prop) (E:Value->Shared->Prop),(∀h' tk',P h'->Q (.done (.ret .none)) ⟨h',g,d,tk',os⟩)->wpAny (model prog w) A (Builtin.«object.__setattr__» ⟨[.ref x,.str name tk,v],[]⟩) Q E ⟨h,g,d,t,os⟩)
  (hq:∀h' tk',P h'->R (.ok (.ret .none)) ⟨h',g,d,tk',os⟩):codeAny (model prog w) A (.call (.builtin sa) ⟨[.ref x,.str name tk,v],[]⟩) R ⟨h,g,d,t,os⟩ :=
 codeAny_call_builtin SF.slot.plain SF.entry (wpAny_check_sa SF hC hx hc (ent _ _ _ λh' tk' p=>hq h' tk' p))
theorem attr_via {Q:Unit->Shared->Prop}{o:Obj}{P:Heap->Prop}(SF:StoreFacts B bm sa owner) (hC:h.get? C=some (excClassObj nm q C N bs bm true sn sub ab col dd k0 k1 k2 k3 k5 newId)) (hx:h.get? x=some o) (hc:o.cls=.ref C)
  (e1:Looks (model prog w) h (typeLookup (.ref C) "__setattr__") (some (.builtin sa)))
  (ent:∀(tk:Tok) (t:Nat) (A:Around) (Q:Fin->Shared->Prop) (E:Value->Shared->Prop),(∀h' tk',P h'->Q (.done (.ret .none)) ⟨h',g,d,tk',os⟩)->wpAny (model prog w) A (Builtin.«object.__setattr__» ⟨[.ref x,.str name tk,v],[]⟩) Q E ⟨h,g,d,t,os⟩)
  (hq:∀h' tk',P h'->Q () ⟨h',g,d,tk',os⟩):wpAny (model prog w) A (setAttr (.ref x) name v) Q E ⟨h,g,d,t,os⟩:=by
 have f3:=SF.slot.bind (.ref x)
 have t1:Looks (model prog w) h (typeOf (.ref x)) (.ref C):=(Looks.ld hx).andThen (by rw[hc];exact .now)
 unfold setAttr callSpecial? specialOf
 iterate 6 (first | (with_reducible refine wpAny_loadPart_at hx ?_;rw[hc]) | with_reducible refine e1.at ?_ | wp_step)
 refine wpAny_bind (wpAny_bind (t1.at (e1.at ?_)))
 refine wpAny_holding (wpAny_bind ?_)
 rw[f3]
 refine wpAny_pure (wpAny_bind (wpAny_call ?_))
 exact store_via SF hC hx hc (ent _ _) λh' tk' p=>wpAny_pure (wpAny_pure (hq h' _ p))
theorem exc_store1 {Q:Unit->Shared->Prop}(X:K.In h) (xc:XCls2 K C N) (hsa:findIn K (.ref C) "__setattr__"=some (some (.builtin "object.__setattr__"))) (hf:findIn K (.ref C) name=some none){t0:Addr}(hx:h.get? x=some (excObj C t0 none))
  (hq:∀h' tk',h'.Ns1 h.objs.size (λy=>if y=name then some v else none)->h'.get? x=some (excObj C t0 (some h.objs.size))->(∀b o,b≠x->h.get? b=some o->h'.get? b=some o)->Q () ⟨h',g,d,tk',os⟩) :
  wpAny (model prog w) A (setAttr (.ref x) name v) Q E ⟨h,g,d,t,os⟩:=by
 have xc0:=xc
 obtain⟨nm,q,bs,sn,sub,ab,col,dd,k0,k1,k2,k3,k5,lk⟩:=xc0.obj
 exact attr_via (P:=λh'=>h'.Ns1 h.objs.size (λy=>if y=name then some v else none)/\h'.get? x=some (excObj C t0 (some h.objs.size))/\∀b o,b≠x->h.get? b=some o->h'.get? b=some o)
  PySem.F.store_Exception (X _ _ lk) hx rfl (looks_findIn X hsa) (λtk t A Q E k=>store_ent X xc hf hx λh' tk' a b c=>k h' tk' ⟨a,b,c⟩) λh' tk' p=>hq h' tk' p.1 p.2.1 p.2.2
end
end Tx
end
section
namespace L2
open PySem PySem.Spec PyProof.Rows Tx
theorem hok_kept {P:Program}{w:World}{H:Hp}{h h':Heap}{U:Addr->Prop}{gs:List Addr}(x:HOk P w H h) (k:Kept U gs h h') (hU:∀b,U b->H b=none) (hg:∀b∈gs,H b=none):HOk P w H h':=λa o e=>by
 refine (x a o e).stay (λb u hb q=>k.same b u q (λz=>?_) λz=>?_) (λ_ q=>q) λ_ _ q=>q
 ·have n:=hU b z
  rcases hb with rfl | hb
  ·rw[n]at e;cases e
  ·rw[n]at hb;cases hb
 ·have n:=hg b z
  rcases hb with rfl | hb
  ·rw[n]at e;cases e
  ·rw[n]at hb;cases hb
structure Own (X:Cx) (pins:List (Addr×Obj)) (U:Addr->Prop) (H:Hp) (s:Shared):Prop where
 fresh:∀b,s.heap.objs.size<=b->U b
 un:∀b,U b->H b=none
 old:∀b,b<X.s_0.heap.objs.size->¬U b
 loc:¬U X.env.locals
 cell:∀x c,X.env.cells.lookup x=some c->¬U c
 pin:∀p∈X.pn++pins,¬U p.1
section
variable {X:Cx}{pins:List (Addr×Obj)}{U:Addr->Prop}{σ:St}{H:Hp}{s:Shared}{h':Heap}
theorem Own.frames (O:Own X pins U H s) (I:Inv X pins σ H s):∀b∈frs X.stack,¬U b:=λb hb=>by
 rcases List.mem_cons.mp (I.stkSub b hb) with e | hb
 ·rw[e];exact O.loc
 ·obtain⟨_,o,ho,_⟩:=I.ok.funs.mem hb
  exact O.old b (Heap.lt_size ho)
theorem Own.kept (O:Own X pins U H s){gs:List Addr}(k:Kept U gs s.heap h'):Own X pins U H { s with heap:=h' } :=
 ⟨λb hb=>O.fresh b (Nat.le_trans k.size hb),O.un,O.old,O.loc,O.cell,O.pin⟩
open Classical in
theorem inv_kept (I:Inv X pins σ H s) (O:Own X pins U H s) (k:Kept U (frs X.stack) s.heap h'):Inv X pins σ H { s with heap:=h' }:=by
 have nch:∀b o,s.heap.get? b=some o->b∉(List.range s.heap.objs.size).filter (λb=>decide (U b))->¬U b:=λb o e hb z=>hb (List.mem_filter.mpr ⟨List.mem_range.mpr (Heap.lt_size e),decide_eq_true z⟩)
 have uch:∀b∈(List.range s.heap.objs.size).filter (λb=>decide (U b)),U b:=λb hb=>of_decide_eq_true (List.mem_filter.mp hb).2
 obtain⟨m,⟨o,es,ep,ho,r⟩,_⟩:=id I.loc
 obtain⟨sl,hL⟩:=k.slot _ o ho O.loc
 refine I.step (g':=s.gens) (t':=s.toks) (d':=s.drawn) (ch:=(List.range s.heap.objs.size).filter (λb=>decide (U b)))
  (λb hb=>⟨.inr (Nat.le_of_not_lt λz=>O.old b z (uch b hb)),λz=>O.loc (z▸uch b hb),λx c e z=>O.cell x c e (z▸uch b hb),λp hp z=>O.pin p hp (z▸uch b hb)⟩)
  (λb o hb1 hb2 hb3 e n=>k.same b o e (nch b o e hb3) λz=>(List.mem_cons.mp (I.stkSub b z)).elim hb1 hb2) (λb o _ _ hb3 e _=>k.slot b o e (nch b o e hb3)) (λ_ _ _ _ n=>n) (λb o _ e=>k.there b o e)
  (λ_ _ e=>e) (λ_ _ _ e=>e) (λb ps e=>⟨#[],by rw[e];simp⟩) (λm' hm=>?_) (hok_kept I.hok k O.un I.stkFree) I.bare
 obtain⟨o',es',ep',ho',r'⟩:=hm
 rw[ho]at ho';cases ho'
 exact⟨_,es',ep',hL,r'⟩
end
def CX1 (P:Program) (w:World):CXT:=λouter H s E x s'=>∃(e:Addr) (cls:Value) (od:Option Addr) (cx:Value) (H':Hp),x=.ref e/\s'.os=s.os/\AllBare s'.gens/\Un (frs outer) [] H H' s.heap s'.heap/\HOk P w H' s'.heap /\
 s.heap.objs.size<=s'.heap.objs.size/\Exc (λb=>s.heap.objs.size<=b/\H' b=none) s'.heap e cls od cx (some .none)/\(od=none->cx=.none)/\E cls od H'
def Takes (X:Cx) (R:St->XK):Prop:=∀(pins:List (Addr×Obj)) (σ:St) (H:Hp) (s:Shared) (U:Addr->Prop) (e:Addr) (cls:Value) (od:Option Addr) (cx:Value) (fl:Option Value),Inv X pins σ H s->Own X pins U H s ->
 Exc U s.heap e cls od cx fl->(fl=none\/fl=some .none\/fl=some (rawInt X.env.locals))->(od=none->cx=.none)->R σ cls od H->X.xe (.ref e) s
def PassesS (CX:CXT) (X:Cx) (R:St->XK):Prop:=∀(pins:List (Addr×Obj)) (σ:St) (H:Hp) (s:Shared) (e:Value) (s':Shared),Inv X pins σ H s->CX X.stack H s (R σ) e s'->X.xe e s'
theorem own_call {X:Cx}{pins:List (Addr×Obj)}{σ:St}{H H':Hp}{s s':Shared}(I:Inv X pins σ H s) (hok:HOk X.prog X.w H' s'.heap) (sz:s.heap.objs.size<=s'.heap.objs.size):Own X pins (λb=>s.heap.objs.size<=b/\H' b=none) H' s':=by
 refine⟨λb hb=>⟨Nat.le_trans sz hb,hok.fresh hb⟩,λb z=>z.2,λb hb z=>?_,λz=>?_,λx c e z=>?_,λp hp z=>?_⟩
 ·have:=I.sz;have:=z.1;omega
 ·exact absurd z.1 (Nat.not_le.mpr I.lt)
 ·obtain⟨v,o,ho,_⟩:=I.cell x c e
  exact absurd z.1 (Nat.not_le.mpr (Heap.lt_size ho))
 ·exact absurd z.1 (Nat.not_le.mpr (Heap.lt_size (I.pin p hp).1))
theorem Takes.passes {X:Cx}{R:St->XK}(T:Takes X R):PassesS (CX1 X.prog X.w) X R:=by
 rintro pins σ H s x s' I ⟨e,cls,od,cx,H',rfl,os,bare,un,hok,sz,xe,rd,q⟩
 exact T pins σ H' s' _ e cls od cx _ (I.call' os un hok bare λb z=>absurd z (by simp)) (own_call I hok sz) xe (.inr (.inl rfl)) rd q
theorem qqc {P:Program}{w:World}{K:PySem.W.Frag}{mg:Str->Option Value}{base:Heap}{N:List Str}{qual:Str}{scope:Scope}{f:Addr}{cd:Value}{A:Around}{outer:List Env}{s:Shared}{H:Hp}{E:XK} :
  Takes (cxOf (CX1 P w) P w K mg base N qual scope f cd A outer s H E) (λ_=>E):=by
 intro pins σ H1 s1 U e cls od cx fl I O xe hfl rd q
 refine wp_leave (base:=base) I.ok.frames I.stack rfl O.fresh (O.frames I) xe hfl λh' k x'=>?_
 have J:=inv_kept I O k
 exact⟨e,cls,od,cx,H1,rfl,I.os,I.bare,J.base,J.hok,J.sz,x'.mono λb z=>⟨Nat.le_of_not_lt λy=>O.old b y z,O.un b z⟩,rd,q⟩
theorem owns_fn {P:Program}{w:World}{K:PySem.W.Frag}{mg:Str->Option Value}{base:Heap}{N:List Str}{qual:Str}{scope:Scope}{f:Addr}{cd:Value}{A:Around}{outer:List Env}{s:Shared}{H:Hp}{E:XK} :
  PassesOwn (model P w) (cxOf (CX1 P w) P w K mg base N qual scope f cd A outer s H E).A (cxOf (CX1 P w) P w K mg base N qual scope f cd A outer s H E).env (cxOf (CX1 P w) P w K mg base N qual scope f cd A outer s H E).xe:=PassesOwn.leaving
def tCallS (sp:Sp) (dvs:List V) (R:St->XK) (t:TA):TE:=λσ H Q=>t σ H λvs H1=>sp (vs++dvs) H1 Q (R σ)
def tMethS (C:Addr) (m:Str) (sp:Sp) (dvs:List V) (R:St->XK) (ta:TE) (t:TA):TE:=λσ H Q=>ta σ H λx H1=>∃a dx fs,x=.ref a/\H1 a=some (.ins C dx fs)/\fs.lookup m=none /\
 t σ H1 λvs H2=>sp (x::(vs++dvs)) H2 Q (R σ)
section
variable {X:Cx}{CX:CXT}{k:Nat}{f C:Addr}{fd:FuncData}{ps:List Str}{sp:Sp}{dvs:List V}{ds:List Value}{R:St->XK}{x m:Str}{p pos apos:Pos}{e o:Expr}{es:List Expr}{ta:TE}{t:TA}
theorem run_fnS {pins:List (Addr×Obj)}{σ:St}{H:Hp}{s:Shared}{Q:VK}{us:List Value}{vs:List V}(F:FnOk X.prog X.w X.K X.mg X.base CX k f fd ps sp) (hr:Room k X.A) (hb:Binds X.K fd ps ds) (hd:Vals dvs ds) (hx:PassesS CX X R)
  (I:Inv X pins σ H s) (r:Vals vs us) (h:sp (vs++dvs) H Q (R σ)):wpAny (model X.prog X.w) X.A (call (.ref f) us) (EP X pins σ Q) X.xe s:=by
 have r2:Vals (vs++dvs) (us++ds):=r.append hd
 have hl:(us++ds).length=ps.length:=by rw[<-r2.length];exact F.len _ _ _ _ h
 refine wpAny_call (codeAny_mono (F.run X.A X.stack s H ⟨us,[]⟩ (us++ds) (vs++dvs) Q (R σ) hr I.env0 (hb s us I.kIn hl) r2 h) λr s' hq=>?_)
 match r,hq with
 | .error e,hq=>exact hx pins σ H s e s' I hq
 | .ok (.ret u),hq=>exact I.after hq
 | .ok .next,hq=>exact False.elim hq
 | .ok .brk,hq=>exact False.elim hq
 | .ok .cont,hq=>exact False.elim hq
theorem pe_callS (F:FnOk X.prog X.w X.K X.mg X.base CX k f fd ps sp) (hr:Room k X.A) (hg:Gl X x) (hm:X.mg x=some (.ref f)) (hk:PySem.W.keepIn X.K (.ref f)=true) (hb:Binds X.K fd ps ds) (hd:Vals dvs ds) (hx:PassesS CX X R)
  (ha:PA X (e::es) t) (hdb:(x == ("__debug__":Str))=false:=by decide) (he:starEach (e::es) X.env=(false,eval e X.env)::starEach es X.env:=by rfl) (hpl:(backTo pos (starEach es X.env)).any (·.1)=false:=by rfl) :
  PE X (.Call (.Name x p) (e::es) [] pos) (tCallS sp dvs R t):=by
 intro pins s σ H Q I h
 refine wpAny_Call_Name_kw (ld_glob I hg hm ?_ hdb)
 refine PySem.W.callWith_K (h₀:=X.base) I.ok.mod.kin hk (thn (ha pos pins s σ H _ I h) λus s1 ⟨vs,H1,I1,r,q⟩=>⟨I1.kIn,?_⟩) he hpl
 exact run_fnS F hr hb hd hx I1 r q
theorem pe_methS {pl:Sem Bool}(he:PE X o ta) (c:Cls X.K C) (hm:Meth X.K C m f) (F:FnOk X.prog X.w X.K X.mg X.base CX k f fd ps sp) (hr:Room k X.A) (hb:Binds X.K fd ps ds) (hd:Vals dvs ds) (hx:PassesS CX X R) (ha:PA X (e::es) t)
  (hst:starEach (e::es) X.env=(false,eval e X.env)::starEach es X.env:=by rfl) (hpl:(backTo pos (starEach es X.env)).any (·.1)=false:=by rfl)
  (ht:eval (.Call (.Attribute o m apos) (e::es) [] pos) X.env=(do
   let ov <- eval o X.env
   standAt apos.atName
   let (f,first) <- holding [ov] (getMethod ov m pl)
   callWith pos f first (backTo pos (starEach (e::es) X.env)) (backToKw pos (keywordEach [] X.env))):=by rfl) :
  PE X (.Call (.Attribute o m apos) (e::es) [] pos) (tMethS C m sp dvs R ta t):=by
 intro pins s σ H Q I h
 refine PySem.W.methodCall_KW (pl:=pl) (thn (he pins s σ H _ I h) λu s1 ⟨x,H1,I1,rx,a,dx,fs,ex,ea,l,q⟩=>?_) ht
 subst ex
 obtain rfl:u=Value.ref a:=rx
 refine getmeth_ok I1 ea c hm l ?_
 refine PySem.W.callWith_K (first:=[.ref a]) (h₀:=X.base) I.ok.mod.kin hm.kp (thn (ha pos pins s1 σ H1 _ I1 q) λus s2 ⟨vs,H2,I2,r,q2⟩=>⟨I2.kIn,?_⟩) hst hpl
 exact run_fnS (us:=.ref a::us) (vs:=.ref a::vs) F hr hb hd hx I2 (.cons rfl r) q2
theorem pe_methS0 {pl:Sem Bool}(he:PE X o ta) (c:Cls X.K C) (hm:Meth X.K C m f) (F:FnOk X.prog X.w X.K X.mg X.base CX k f fd ps sp) (hr:Room k X.A) (hb:Binds X.K fd ps ds) (hd:Vals dvs ds) (hx:PassesS CX X R)
  (ht:eval (.Call (.Attribute o m apos) [] [] pos) X.env=(do
   let ov <- eval o X.env
   standAt apos.atName
   let (f,first) <- holding [ov] (getMethod ov m pl)
   callWith pos f first (backTo pos (starEach [] X.env)) (backToKw pos (keywordEach [] X.env))):=by rfl) :
  PE X (.Call (.Attribute o m apos) [] [] pos) (tMethS C m sp dvs R ta tNil):=by
 intro pins s σ H Q I h
 refine PySem.W.methodCall_KW (pl:=pl) (thn (he pins s σ H _ I h) λu s1 ⟨x,H1,I1,rx,a,dx,fs,ex,ea,l,q⟩=>?_) ht
 subst ex
 obtain rfl:u=Value.ref a:=rx
 refine getmeth_ok I1 ea c hm l ?_
 exact PySem.W.callWith_K0 (first:=[.ref a]) I1.kIn hm.kp (run_fnS (us:=[.ref a]) (vs:=[.ref a]) F hr hb hd hx I1 (.cons rfl .nil) q)
end
end L2
end
section
namespace L2
open PySem PySem.Spec PyProof.Rows Tx
abbrev Cx.hot (X:Cx) (A:Around) (E:Value->Shared->Prop):Cx:={ X with A:=A,calm:=false,xe:=E }
theorem Cx.Ok.hot {X:Cx}{A:Around}{E:Value->Shared->Prop}(ok:X.Ok) (hf:A.frames=X.A.frames):(X.hot A E).Ok :=
 ⟨ok.mod,ok.kind,ok.glob,ok.blt,ok.above,ok.inj,ok.has,ok.cab,λz=>absurd z (by simp),hf.trans ok.frames,ok.stk,ok.exf,ok.bs,ok.bsz,ok.noex,ok.exfs,ok.funs,ok.frf⟩
theorem Inv.hot {X:Cx}{A:Around}{E:Value->Shared->Prop}{pins:List (Addr×Obj)}{σ:St}{H:Hp}{s:Shared}(I:Inv X pins σ H s) (hf:A.frames=X.A.frames):Inv (X.hot A E) pins σ H s :=
 ⟨I.ok.hot hf,I.os,I.bare,I.base,I.loc,I.cell,I.free,I.freeC,I.pin,I.hok,I.len⟩
def exIs (C t:Addr) (od:Option Addr) (e:Addr):HO:=.ext λh=>h.get? e=some (excObj C t od)
def dcIs (fs:List (Str×V)) (dx:Addr):HO:=.ext λh=>∃mA,h.Ns1 dx mA/\(∀f,RelO (fs.lookup f) (mA f))/\PySem.Within mA (fs.map (·.1))
theorem exIs_ok {P:Program}{w:World}{H:Hp}{h:Heap}{C t e:Addr}{od:Option Addr}(x:h.get? e=some (excObj C t od)):ObjOk P w H h e (exIs C t od e):=⟨x,⟨_,x⟩,λ_ _ a k=>k _ a⟩
theorem dcIs_ok {P:Program}{w:World}{H:Hp}{h:Heap}{dx:Addr}{fs:List (Str×V)}{mA:Str->Option Value}(n:h.Ns1 dx mA) (r:∀f,RelO (fs.lookup f) (mA f)) (wi:PySem.Within mA (fs.map (·.1))):ObjOk P w H h dx (dcIs fs dx):=by
 refine⟨⟨mA,n,r,wi⟩,let ⟨o,_,_,e,_⟩:=n;⟨o,e⟩,λh1 h2 ⟨mB,⟨o,es,ep,e,c⟩,r2,w2⟩ k=>⟨mB,⟨o,es,ep,k _ e,c⟩,r2,w2⟩⟩
theorem Inv.two {X:Cx}{pins:List (Addr×Obj)}{σ:St}{H:Hp}{s:Shared}{h':Heap}{t':Nat}{e dx:Addr}{φ:Heap->Prop}{oE oD:HO}(I:Inv X pins σ H s) (he:H e=some (.ext φ)) (hd:s.heap.objs.size<=dx)
  (kp:∀b o,b≠e->s.heap.get? b=some o->h'.get? b=some o) (heo:∃o,h'.get? e=some o) (ne:dx≠e) (newE:ObjOk X.prog X.w (upd (upd H dx oD) e oE) h' e oE) (newD:ObjOk X.prog X.w (upd (upd H dx oD) e oE) h' dx oD) :
  Inv X pins σ (upd (upd H dx oD) e oE) { s with heap:=h',toks:=t' }:=by
 have hn:H dx=none:=I.hok.fresh hd
 have at_:∀ {b:Addr}{o:HO},H b=some o->b≠e->(upd (upd H dx oD) e oE) b=some o:=λ{b o} q z=>by rw[qqa z,qqa (nen q hn)];exact q
 have nE:∀ {b:Addr}{o:HO},H b=some o->(∀ψ,o≠.ext ψ)->b≠e:=λ{b o} q z=>ne_of q he (z _)
 have nN:∀ {b:Addr},H b=none->b≠e:=λ{b} q=>(nen he q).symm
 refine I.un ⟨λb o q n _ _=>kp b o (nN n) q,λb o q n _ _=>⟨o.slots,kp b o (nN n) q⟩,λb o q n _=>?_,λb o q _=>?_,λb xs q=>at_ q (nE q λψ z=>by cases z),λb o u q=>at_ q (nE q λψ z=>by cases z),λb ps q=>⟨#[],by rw[at_ q (nE q λψ z=>by cases z)];simp⟩⟩ λb u q=>?_
 ·rw[qqa (nN n),qqa (Nat.ne_of_lt (Nat.lt_of_lt_of_le (Heap.lt_size q) hd))];exact n
 ·by_cases hb:b=e
  ·rw[hb];exact heo
  ·exact⟨o,kp b o hb q⟩
 ·by_cases hb:b=e
  ·subst hb;rw[ups]at q;cases q;exact newE
  ·by_cases hb2:b=dx
   ·subst hb2;rw[qqa hb,ups]at q;cases q;exact newD
   ·rw[qqa hb,qqa hb2]at q
    refine (I.hok b u q).stay (λc v hc z=>kp c v ?_ z) (λc z=>at_ z (nE z λψ y=>by cases y)) λc xs z=>at_ z (nE z λψ y=>by cases y)
    rcases hc with rfl | hc
    ·exact hb
    ·exact nE hc λψ y=>by cases y
section
variable {X:Cx}{pins:List (Addr×Obj)}{σ:St}{H:Hp}{s:Shared}{C N e t dx:Addr}{f:Str}{y:V}{u:Value}{A:Around}{E:Value->Shared->Prop}
theorem exIs_at (I:Inv X pins σ H s){od:Option Addr}(h:H e=some (exIs C t od e)):s.heap.get? e=some (excObj C t od):=(I.hok e _ h).1
theorem relO1 {f:Str}{y:V}{u:Value}(r:RelV y u) (g:Str):RelO (([(f,y)]:List (Str×V)).lookup g) (if g=f then some u else none):=by
 by_cases q:g=f
 ·subst q;simp[List.lookup,RelO];exact r
 ·have:(g == f)=false:=by simpa using q
  simp[List.lookup,this,q,RelO]
theorem xset1 {Q:Unit->Shared->Prop}(I:Inv X pins σ H s) (he:H e=some (exIs C t none e)) (xc:XCls2 X.K C N) (hsa:PySem.W.findIn X.K (.ref C) "__setattr__"=some (some (.builtin "object.__setattr__"))) (hf:PySem.W.findIn X.K (.ref C) f=some none) (ry:RelV y u)
  (h:∀dx s',H dx=none->dx≠e->Inv X pins σ (upd (upd H dx (dcIs [(f,y)] dx)) e (exIs C t (some dx) e)) s'->Q () s'):wpAny (model X.prog X.w) A (setAttr (.ref e) f u) Q E s:=by
 obtain⟨hp,g,d,tk,os⟩:=s
 have hx:=exIs_at I he
 refine exc_store1 I.kIn xc hsa hf hx λh' tk' n x' kp=>?_
 have lt:e<hp.objs.size:=Heap.lt_size hx
 have n0:H hp.objs.size=none:=I.hok.fresh (Nat.le_refl _)
 have ne:hp.objs.size≠e:=Nat.ne_of_gt lt
 refine h hp.objs.size _ n0 ne (I.two (s:=⟨hp,g,d,tk,os⟩) he (Nat.le_refl _) kp ⟨_,x'⟩ ne (exIs_ok x') (dcIs_ok n (relO1 ry) (λk hk=>?_)))
 by_cases q:k=f
 ·exact List.mem_singleton.mpr q
 ·exact absurd (if_neg q) hk
theorem xset2 {Q:Unit->Shared->Prop}{fs:List (Str×V)}(I:Inv X pins σ H s) (he:H e=some (exIs C t (some dx) e)) (hd:H dx=some (dcIs fs dx)) (ne:dx≠e) (xc:XCls2 X.K C N) (hna:PySem.W.nsIn X.K N f=some none) (hB:typeLookup (.type "Exception") f=pure none) (hl:fs.length<1000) (ry:RelV y u)
  (h:∀s',Inv X pins σ (upd H dx (dcIs (putF f y fs) dx)) s'->Q () s'):wpAny (model X.prog X.w) A (setAttr (.ref e) f u) Q E s:=by
 obtain⟨hp,g,d,tk,os⟩:=s
 have hx:=exIs_at I he
 obtain⟨mA,n,r,wi⟩:=(I.hok dx _ hd).1
 have hz:(fs.map (·.1)).length<=sizeLine:=by rw[List.length_map,sizeLine_eq];omega
 have eC:e≠C:=λz=>by
  obtain⟨_,_,_,_,_,_,_,_,_,_,_,_,_,lk⟩:=xc.obj
  have q:=I.kIn _ _ lk
  rw[<-z,hx]at q
  cases q
 refine exc_store2 I.kIn xc hna hB eC hx ne n wi hz λh' tk' n' x' kp=>h _ ?_
 refine I.write (s:=⟨hp,g,d,tk,os⟩) (x:=dx) (e:=dx) (by rw[hd];exact True.intro) (.inl rfl) (λb q hb z=>?_) (let ⟨o,_,_,q,_⟩:=n';⟨o,q⟩) (dcIs_ok n' (λk=>?_) λk hk=>?_)
 ·by_cases hbe:b=e
  ·subst hbe
   have z':hp.get? b=some q:=z
   rw[hx]at z';cases z';exact x'
  ·exact kp b q hbe hb z
 ·rw[lookup_putF]
  by_cases q:k=f
  ·rw[if_pos q,if_pos q];exact ry
  ·rw[if_neg q,if_neg q];exact r k
 ·by_cases q:k=f
  ·rw[q];exact (keys_putF f y fs).1
  ·refine (keys_putF f y fs).2 k (wi k λz=>hk ?_)
   rw[if_neg q];exact z
end
theorem run_hot {P:Program}{w:World}{K:PySem.W.Frag}{mg:Str->Option Value}{base:Heap}{f:Addr}{name qual:Str}{params:Arguments}{body:List Stmt}{scope:Scope}{dV kV doc pm cdv ct oc:Value}{an od:Option Addr}
  {osl:Array (Option Value)}{N ps:List Str}{A:Around}{outer:List Env}{s:Shared}{H:Hp}{args:Args}{us:List Value}{vs:List V}{Q:VK}{R:Result->Shared->Prop}
  (lk:K.lookup f=some ⟨oc,od,.func (PySem.W.fnOf name qual params body scope dV kV doc pm an cdv ct),osl⟩) (hcd:PySem.W.codeIn K cdv qual=true) (S:qqb N ps scope) (dp:A.depth<recursionLimit)
  (e0:Env0 P w K mg base A outer s H) (hb:BindsTo s (PySem.W.fnOf name qual params body scope dV kV doc pm an cdv ct) args (ps.zip us)) (hl:vs.length=ps.length) (r:Vals vs us)
  (hbody:∃t,PSs ((cxOf CX0 P w K mg base N qual scope f cdv { A with handled:=none } outer s H E0).hot (A.deeper (envOfC qual scope s.heap.objs.size f cdv)) λ_ _=>False) body t/\t { nx:=λ_ H'=>Q .non H',rt:=Q } (start N vs) H)
  (hR:∀u s',CE outer P w H s Q u s'->R (.ok (.ret u)) s'):codeAny (model P w) A (.call (.ref f) args) R s:=by
 have KX:K.In s.heap:=e0.mod.kin.keeps λb o e=>(e0.bs b o e).1
 have lim:s.heap.NoLimit:=e0.mod.nolimit.keeps λb o e=>(e0.bs b o e).1
 have hkind:∀y∈ps.zip us,scope.names.lookup y.1=some .local\/(scope.names.lookup y.1=some .cell/\((cellsFrom (s.heap.objs.size+1) scope.names []).lookup y.1).isSome=true):=by
  rintro⟨n,v⟩ hy
  exact (S.par n (List.of_mem_zip hy).1).imp id λq=>⟨q,PySem.W.cellsFrom_some _ _ _ (.inl q)⟩
 refine codeAny_call_function dp (KX _ _ lk) rfl S.co S.gen rfl (PySem.W.codeRec_of KX hcd) (hb _ _ _ _ ?_)
 refine wpAny_newFunctionEnv_cells S.kind hkind λenv he s1 x=>?_
 subst he
 refine⟨lim.keeps x.toInCall.keep,codeAny_func ?_⟩
 obtain⟨t,ht,hq⟩:=hbody
 have e1:Env0 P w K mg base { A with handled:=none } outer s H:=⟨e0.frames,e0.mod,e0.bs,e0.bsz,e0.funs,e0.frf,e0.hok,e0.bare⟩
 have I:Inv (cxOf CX0 P w K mg base N qual scope f cdv { A with handled:=none } outer s H E0) [] (start N vs) H s1:=inv_start S rfl e1 hl r x
 have fr:(A.deeper (envOfC qual scope s.heap.objs.size f cdv)).frames=(({ A with handled:=none }:Around).deeper (envOfC qual scope s.heap.objs.size f cdv)).frames :=
  (Around.frames_deeper e0.frames).trans (Around.frames_deeper e1.frames).symm
 refine wpAny_mono (ht [] s1 (start N vs) H _ (I.hot fr) hq) (λfl s' hs=>?_) λe s' hs=>hs.elim
 have J:∀ {σ':St}{H':Hp}{v:V}{u:Value},Inv ((cxOf CX0 P w K mg base N qual scope f cdv { A with handled:=none } outer s H E0).hot (A.deeper (envOfC qual scope s.heap.objs.size f cdv)) λ_ _=>False) [] σ' H' s'->RelV v u->Q v H'->R (.ok (.ret u)) s' :=
  λ{σ' H' v u} J rv q=>hR u s' ⟨v,H',J.os,J.bare,J.base,J.hok,rv,q⟩
 match fl,hs with
 | .ret u,⟨v,σ',H',I',rv,q⟩=>exact J I' rv q
 | .next,⟨σ',H',I',q⟩=>exact J (v:=V.non) (u:=Value.none) I' rfl q
 | .brk,⟨_,_,_,q⟩=>exact q.elim
 | .cont,⟨_,_,_,q⟩=>exact q.elim
structure Fault (K:PySem.W.Frag) (x:Str) (st:Stmt) (C N f:Addr) (fd:FuncData):Prop where
 cls:XCls2 K C N
 init:PySem.W.findIn K (.ref C) "__init__"=some (some (.ref f))
 fn:PySem.W.isFn K (.ref f)=true
 kp:PySem.W.keepIn K (.ref C)=true
 sa:PySem.W.findIn K (.ref C) "__setattr__"=some (some (.builtin "object.__setattr__"))
 kind:PySem.W.findIn K (.ref C) "kind"=some none
 place:PySem.W.nsIn K N "place"=some none
 F:Fun K "__init__" x st f fd
 sc:qqb ["self","kind","place"] ["self","kind","place"] (dSc st)
 v0:(dSc st).names.lookup ("self":Str)=some .local
 v1:(dSc st).names.lookup ("kind":Str)=some .local
 v2:(dSc st).names.lookup ("place":Str)=some .local
 binds:Binds K fd ["self","kind","place"] []
 body:∃p1 p2 p3 p4 q1 q2 q3 q4,defBody st=[.Assign [.Attribute (.Name "self" p1) "kind" p2] (.Name "kind" p3) p4,.Assign [.Attribute (.Name "self" q1) "place" q2] (.Name "place" q3) q4]
theorem place_free:typeLookup (.type "Exception") "place"=pure none:=by rw[typeLookup_type,builtinLookup_eq_fast];kernel_rfl
section
variable {X:Cx}{o value:Expr}{ta tv:TE}{f:Str}{pos pos':Pos}{C N:Addr}
theorem ps_x1 (xc:XCls2 X.K C N) (hsa:PySem.W.findIn X.K (.ref C) "__setattr__"=some (some (.builtin "object.__setattr__"))) (hf:PySem.W.findIn X.K (.ref C) f=some none) (ha:PE X o ta) (hv:PE X value tv)
  (hs:swapsWith value (some (.Attribute o f pos')) pos.line X.env=pure false):PS X (.Assign [.Attribute o f pos'] value pos) (λD σ H=>tv σ H λy H1=>ta σ H1 λx H2=>∃e t,x=.ref e/\H2 e=some (exIs C t none e) /\
   ∀dx,H2 dx=none->dx≠e->D.nx σ (upd (upd H2 dx (dcIs [(f,y)] dx)) e (exIs C t (some dx) e))):=by
 intro pins s σ H D I h
 refine plainObj_wpAny_Assign_Attribute (thn (hv pins s σ H _ I h) λu s1 ⟨y,H1,I1,ry,q⟩=>thn (ha pins s1 σ H1 _ I1 q) λov s2 ⟨x,H2,I2,rx,e,t,ex,ee,q2⟩=>?_) hs
 subst ex
 obtain rfl:ov=Value.ref e:=rx
 exact xset1 I2 ee xc hsa hf ry λdx s3 n ne I3=>⟨σ,_,I3,q2 dx n ne⟩
theorem ps_x2 (xc:XCls2 X.K C N) (hna:PySem.W.nsIn X.K N f=some none) (hB:typeLookup (.type "Exception") f=pure none) (ha:PE X o ta) (hv:PE X value tv)
  (hs:swapsWith value (some (.Attribute o f pos')) pos.line X.env=pure false):PS X (.Assign [.Attribute o f pos'] value pos) (λD σ H=>tv σ H λy H1=>ta σ H1 λx H2=>∃e t dx fs,x=.ref e/\H2 e=some (exIs C t (some dx) e)/\H2 dx=some (dcIs fs dx)/\dx≠e/\fs.length<1000 /\
   D.nx σ (upd H2 dx (dcIs (putF f y fs) dx))):=by
 intro pins s σ H D I h
 refine plainObj_wpAny_Assign_Attribute (thn (hv pins s σ H _ I h) λu s1 ⟨y,H1,I1,ry,q⟩=>thn (ha pins s1 σ H1 _ I1 q) λov s2 ⟨x,H2,I2,rx,e,t,dx,fs,ex,ee,ed,ne,hl,q2⟩=>?_) hs
 subst ex
 obtain rfl:ov=Value.ref e:=rx
 exact xset2 I2 ee ed ne xc hna hB hl ry λs3 I3=>⟨σ,_,I3,q2⟩
end
theorem put_kp (va vb:V):putF "place" vb [(("kind":Str),va)]=[(("kind":Str),va),(("place":Str),vb)]:=by
 unfold putF putF
 rw[if_neg (by decide)]
theorem run_fault {X:Cx}{pins:List (Addr×Obj)}{σ:St}{H:Hp}{s:Shared}{Q:VK}{qual:Str}{st:Stmt}{C N f:Addr}{fd:FuncData}{us:List Value}{va vb:V}(Fa:Fault X.K qual st C N f fd) (dp:X.A.depth+1<recursionLimit)
  (I:Inv X pins σ H s) (r:Vals [va,vb] us) (h:∀e dx t,s.heap.objs.size<=e->H e=none->H dx=none->dx≠e->Q (.ref e) (upd (upd H dx (dcIs [("kind",va),("place",vb)] dx)) e (exIs C t (some dx) e))) :
  wpAny (model X.prog X.w) X.A (call (.ref C) us) (EP X pins σ Q) X.xe s:=by
 obtain⟨hp,g,d,tk,os⟩:=s
 obtain⟨u1,u2,rfl,r1,r2⟩:=Vals.two r
 refine wpAny_call (exc_make I.kIn Fa.cls.one Fa.init (λself=>PySem.W.bind_fn I.kIn self (beq_iff_eq.mp Fa.fn)) (by show 2<=sizeLine;decide) ?_)
 have kx:∀b o,hp.get? b=some o->((hp.push (argsObj [u1,u2])).push (excObj C hp.objs.size none)).get? b=some o:=λb o q=>Heap.get?_push_of_some _ (Heap.get?_push_of_some _ q)
 have gx:((hp.push (argsObj [u1,u2])).push (excObj C hp.objs.size none)).get? (hp.objs.size+1)=some (excObj C hp.objs.size none):=by
  have z:=Heap.get?_push_size (hp.push (argsObj [u1,u2])) (o:=excObj C hp.objs.size none) rfl
  rw[Heap.size_push]at z
  exact z
 have I2:Inv X pins σ (upd H (hp.objs.size+1) (exIs C hp.objs.size none (hp.objs.size+1))) ⟨(hp.push (argsObj [u1,u2])).push (excObj C hp.objs.size none),g,d,tk,os⟩ :=
  I.laid (t':=tk) kx (Nat.le_succ _) (exIs_ok gx)
 have nE:H (hp.objs.size+1)=none:=I.hok.fresh (Nat.le_succ _)
 have lE:hp.objs.size<=hp.objs.size+1:=Nat.le_succ _
 have h:=λe dx t (k:hp.objs.size<=e)=>h e dx t k
 generalize he:hp.objs.size+1=e at *
 generalize ht:hp.objs.size=t at *
 obtain⟨oc,od,kV,doc,pm,an,cdv,ct,osl,rfl,lk,hcd⟩:=Fa.F.ex
 obtain⟨p1,p2,p3,p4,q1,q2,q3,q4,bd⟩:=Fa.body
 have sc:=Fa.sc
 refine run_hot (N:=["self","kind","place"]) (vs:=[.ref e,va,vb]) (us:=[.ref e,u1,u2]) (Q:=λv H2=>v=.non/\Q (.ref e) H2) lk hcd sc (by rw[make_depth];exact dp) (I2.env0.make C [u1,u2] []) (Fa.binds _ [.ref e,u1,u2] I2.kIn rfl) rfl (.cons rfl (.cons r1 (.cons r2 .nil))) ?_ ?_
 ·rw[bd]
  refine⟨_,psc (ps_x1 Fa.cls Fa.sa Fa.kind (pv 0 (hv:=.inl Fa.v0)) (pv 1 (hv:=.inl Fa.v1)) rfl) (pso (ps_x2 Fa.cls Fa.place place_free (pv 0 (hv:=.inl Fa.v0)) (pv 2 (hv:=.inl Fa.v2)) rfl)),?_⟩
  refine⟨_,rfl,_,rfl,e,t,rfl,ups,λdx hn ne=>⟨_,rfl,_,rfl,e,t,dx,_,rfl,ups,by rw[qqa ne];exact ups,ne,(by show 1<1000;decide),?_⟩⟩
  have hq:=h e dx t lE nE (by rw[qqa ne]at hn;exact hn) ne
  have sw:upd (upd (upd (upd H e (exIs C t none e)) dx (dcIs [("kind",va)] dx)) e (exIs C t (some dx) e)) dx (dcIs (putF "place" vb [("kind",va)]) dx)=upd (upd H dx (dcIs [("kind",va),("place",vb)] dx)) e (exIs C t (some dx) e):=by
   rw[put_kp]
   funext b
   unfold upd
   by_cases h1:b=e
   ·have h2:¬b=dx:=λz=>ne (z.symm.trans h1)
    rw[if_neg h2,if_pos h1,if_pos h1]
   ·by_cases h2:b=dx
    ·rw[if_pos h2,if_neg h1,if_pos h2]
    ·rw[if_neg h2,if_neg h1,if_neg h2,if_neg h1,if_neg h1,if_neg h2]
  rw[sw]
  exact⟨rfl,hq⟩
 ·intro u s' hc
  obtain⟨v,H',I3,rv,ev,q3⟩:=I2.after hc
  subst ev
  exact⟨rv,⟨V.ref e,H',I3,rfl,q3⟩⟩
end L2
end
section
namespace L2
open PySem PySem.Spec PyProof.Rows Tx
def drp (H:Hp) (e:Addr):Hp:=λb=>if b=e then none else H b
theorem drp_ne {H:Hp}{b e:Addr}(h:b≠e):drp H e b=H b:=if_neg h
section
variable {X:Cx}{pins:List (Addr×Obj)}{σ:St}{H:Hp}{s:Shared}{C N e t dx:Addr}
theorem Inv.drop {φ:Heap->Prop}(I:Inv X pins σ H s) (he:H e=some (.ext φ)):Inv X pins σ (drp H e) s:=by
 have at_:∀ {b:Addr}{o:HO},H b=some o->(∀ψ,o≠.ext ψ)->drp H e b=some o:=λ{b o} q z=>by rw[drp_ne (ne_of q he (z _))];exact q
 refine I.un (t':=s.toks) (h':=s.heap) ⟨λb o q _ _ _=>q,λb o q _ _ _=>⟨o.slots,q⟩,λb o q n _=>?_,λb o q _=>⟨o,q⟩,λb xs q=>at_ q (λψ z=>nomatch z),λb o u q=>at_ q (λψ z=>nomatch z),λb ps q=>⟨#[],by rw[at_ q (λψ z=>nomatch z)];simp⟩⟩ λb u q=>?_
 ·unfold drp;by_cases hb:b=e
  ·rw[if_pos hb]
  ·rw[if_neg hb];exact n
 ·have q':H b=some u:=by
   unfold drp at q
   by_cases hb:b=e
   ·rw[if_pos hb]at q;cases q
   ·rw[if_neg hb]at q;exact q
  exact (I.hok b u q').stay (λ_ _ _ z=>z) (λc z=>at_ z λψ y=>by cases y) λc xs z=>at_ z λψ y=>by cases y
theorem Inv.dict {fs:List (Str×V)}(I:Inv X pins σ H s) (hd:H dx=some (dcIs fs dx)):Inv X pins σ (upd H dx (.xd fs)) s:=by
 obtain⟨mA,n,r,wi⟩:=(I.hok dx _ hd).1
 exact I.write (t':=s.toks) (h':=s.heap) (x:=dx) (e:=dx) (by rw[hd];exact True.intro) (.inl rfl) (λ_ _ _ z=>z) (let ⟨o,_,_,q,_⟩:=n;⟨o,q⟩) ⟨mA,n,r⟩
theorem own_made {H0:Hp}{s0:Shared}(I0:Inv X pins σ H0 s0) (I:Inv X pins σ H s) (le:s0.heap.objs.size<=e) (hn:H e=none):Own X pins (λb=>b=e\/s.heap.objs.size<=b) H s:=by
 have old:∀b,b<s0.heap.objs.size->b<s.heap.objs.size->¬(b=e\/s.heap.objs.size<=b):=λb h1 h2 z=>by
  rcases z with z | z
  ·rw[z]at h1;exact absurd le (Nat.not_le.mpr h1)
  ·exact absurd z (Nat.not_le.mpr h2)
 refine⟨λb hb=>.inr hb,λb z=>?_,λb hb=>old b (Nat.lt_of_lt_of_le hb I0.sz) (Nat.lt_of_lt_of_le hb I.sz),old _ I0.lt I.lt,λx c q=>?_,λp hp=>old _ (Heap.lt_size (I0.pin p hp).1) (Heap.lt_size (I.pin p hp).1)⟩
 ·rcases z with z | z
  ·rw[z];exact hn
  ·exact I.hok.fresh z
 ·obtain⟨v,o,ho,_⟩:=I0.cell x c q
  obtain⟨v',o',ho',_⟩:=I.cell x c q
  exact old c (Heap.lt_size ho) (Heap.lt_size ho')
theorem exc_made {U:Addr->Prop}{od:Option Addr}{h:Heap}(x:h.get? e=some (excObj C t od)) (ue:U e):Exc U h e (.ref C) od .none none:=⟨ue,_,_,x,rfl,rfl,rfl,rfl,rfl,rfl⟩
end
section
variable {X:Cx}{R:St->XK}{x:Str}{p pos cpos:Pos}{C N f:Addr}{fd:FuncData}{qual:Str}{st:Stmt}{a b:Expr}{ta:TA}
theorem ps_raise0 (hc:X.calm=true) (T:Takes X R) (xc:XCls X.K C) (hi:PySem.W.findIn X.K (.ref C) "__init__"=some (some (.builtin "Exception.__init__"))) (hk:PySem.W.keepIn X.K (.ref C)=true) (hg:Gl X x) (hm:X.mg x=some (.ref C))
  (hdb:(x == ("__debug__":Str))=false:=by decide):PS X (.Raise (some (.Call (.Name x p) [] [] cpos)) none pos) (λD σ H=>R σ (.ref C) none H):=by
 intro pins s σ H D I h
 rw[arm_exec_Raise]
 refine wpAny_bind (wpAny_standAt (wp_raise (C:=C) (I.ok.hd hc) (wpAny_bind ?_)))
 refine wpAny_Call_Name_kw (ld_glob I hg hm ?_ hdb)
 refine PySem.W.callWith_K0 I.kIn hk (wpAny_call ?_)
 obtain⟨hp,g,d,tk,os⟩:=s
 refine exc_make0 I.kIn xc hi λh' u kp sz x'=>wpAny_bind (wpAny_standAt (wpAny_pure ?_))
 have I1:Inv X pins σ H ⟨h',g,d,tk,os⟩:=I.kept (t':=tk) kp
 have hn:H (hp.objs.size+1)=none:=I.hok.fresh (Nat.le_succ _)
 exact⟨_,λb=>b=hp.objs.size+1\/h'.objs.size<=b,none,.none,rfl,xc.at_ I1.kIn,exc_made x' (.inl rfl),T pins σ H _ _ _ _ _ _ _ I1 (own_made I I1 (Nat.le_succ _) hn) (exc_made x' (.inl rfl)) (.inl rfl) (λ_=>rfl) h⟩
theorem ps_raise2 (hc:X.calm=true) (T:Takes X R) (Fa:Fault X.K qual st C N f fd) (dp:X.A.depth+1<recursionLimit) (hg:Gl X x) (hm:X.mg x=some (.ref C)) (ha:PA X [a,b] ta)
  (hdb:(x == ("__debug__":Str))=false:=by decide) (he:starEach [a,b] X.env=(false,eval a X.env)::starEach [b] X.env:=by rfl) (hpl:(backTo cpos (starEach [b] X.env)).any (·.1)=false:=by rfl) :
  PS X (.Raise (some (.Call (.Name x p) [a,b] [] cpos)) none pos) (λD σ H=>ta σ H λvs H1=>∃va vb,vs=[va,vb]/\∀dx,H1 dx=none->R σ (.ref C) (some dx) (upd H1 dx (.xd [("kind",va),("place",vb)]))):=by
 intro pins s σ H D I h
 rw[arm_exec_Raise]
 refine wpAny_bind (wpAny_standAt (wp_raise (C:=C) (I.ok.hd hc) (wpAny_bind ?_)))
 refine wpAny_Call_Name_kw (ld_glob I hg hm ?_ hdb)
 refine PySem.W.callWith_K (h₀:=X.base) I.ok.mod.kin Fa.kp (thn (ha cpos pins s σ H _ I h) λus s1 ⟨vs,H1,I1,r,va,vb,ev,q⟩=>⟨I1.kIn,?_⟩) he hpl
 subst ev
 refine thn (run_fault (Q:=λv H2=>∃e dx t,v=.ref e/\s1.heap.objs.size<=e/\H1 e=none/\H1 dx=none/\dx≠e/\H2=upd (upd H1 dx (dcIs [("kind",va),("place",vb)] dx)) e (exIs C t (some dx) e)) Fa dp I1 r
  λe dx t le n1 n2 ne=>⟨e,dx,t,rfl,le,n1,n2,ne,rfl⟩) λv s2 ⟨v',H2,I2,rv,e,dx,t,ev,le,n1,n2,ne,eH⟩=>wpAny_bind (wpAny_standAt (wpAny_pure ?_))
 subst ev
 obtain rfl:v=Value.ref e:=rv
 have hE:H2 e=some (exIs C t (some dx) e):=by rw[eH];exact ups
 have hD:H2 dx=some (dcIs [("kind",va),("place",vb)] dx):=by rw[eH,qqa ne];exact ups
 have xe:=exIs_at I2 hE
 have I3:=(I2.drop hE).dict (by rw[drp_ne ne];exact hD)
 have eq:upd (drp H2 e) dx (.xd [("kind",va),("place",vb)])=upd H1 dx (.xd [("kind",va),("place",vb)]):=by
  funext b
  unfold upd drp
  by_cases h2:b=dx
  ·rw[if_pos h2,if_pos h2]
  ·rw[if_neg h2,if_neg h2]
   by_cases h1:b=e
   ·rw[if_pos h1,h1,n1]
   ·rw[if_neg h1,eH];unfold upd;rw[if_neg h1,if_neg h2]
 rw[eq]at I3
 have hn:(upd H1 dx (.xd [("kind",va),("place",vb)])) e=none:=by rw[qqa (Ne.symm ne)];exact n1
 exact⟨e,λb=>b=e\/s2.heap.objs.size<=b,some dx,.none,rfl,Fa.cls.one.at_ I3.kIn,exc_made xe (.inl rfl),T pins σ _ _ _ _ _ _ _ _ I3 (own_made I1 I3 le hn) (exc_made xe (.inl rfl)) (.inl rfl) (λ_=>rfl) (q dx n2)⟩
end
end L2
end
section
namespace Tx
open PySem PySem.W
section
variable {M:Model}{A:Around}{E:Value->Shared->Prop}{U:Addr->Prop}{C e:Addr}{od:Option Addr}{cx:Value}{fl:Option Value}
theorem Kept.mono {fs gs:List Addr}{h h':Heap}(k:Kept U fs h h') (m:∀b∈fs,b∈gs):Kept U gs h h':=⟨λb o e n f=>k.same b o e n λz=>f (m b z),k.slot,k.there,k.size⟩
theorem wp_match {s:Shared}{Q:Bool->Shared->Prop}(xc:XAt s.heap C) (xe:Exc U s.heap e (.ref C) od cx fl) (h:Q true s):wpAny M A (excMatches (.ref e) (.ref C)) Q E s:=by
 obtain⟨nm,q,N,bs,hdct,sn,sub,ab,col,dd,k0,k1,k2,k3,k5,hC⟩:=xc
 obtain⟨ue,oe,vs,h1,h2,_⟩:=xe
 have cb:(Value.ref C::excMro).contains (.type "BaseException")=true:=by rw[List.contains_cons,PySem.F.excBase_Exception.hasBase,Bool.or_true]
 have cc:(Value.ref C::excMro).contains (.ref C)=true:=by simp
 have nt:isSubtype (.type "type") (.type "tuple")=pure false:=by rw[isSubtype_type];kernel_rfl
 obtain⟨hp,g,d,tk,os⟩:=s
 unfold excMatches isInstance isExcClass
 repeat (first | (with_reducible refine wpAny_loadPart_at h1 ?_;rw[h2]) | with_reducible refine wpAny_loadPart_at hC ?_ | rw[nt] | (with_reducible refine wpAny_isSubtype_exc hC ?_;first | rw[cb] | rw[cc]) | wp_step)
 exact h
end
end Tx
end
section
namespace L2
open PySem PySem.Spec PyProof.Rows Tx
def Flies (X:Cx) (pins:List (Addr×Obj)) (R:St->XK) (x:Value) (s':Shared):Prop:=∃σ H U e cls od cx fl,x=.ref e/\Inv X pins σ H s'/\Own X pins U H s'/\Exc U s'.heap e cls od cx fl /\
 (fl=none\/fl=some .none\/fl=some (rawInt X.env.locals))/\(od=none->cx=.none)/\R σ cls od H
abbrev Cx.tried (X:Cx) (pins:List (Addr×Obj)) (R:St->XK):Cx:={ X with pn:=X.pn++pins,xe:=Flies X pins R }
section
variable {X:Cx}{pins pins':List (Addr×Obj)}{R:St->XK}{σ:St}{H:Hp}{s:Shared}{U:Addr->Prop}
theorem Cx.Ok.pinned {pn:List (Addr×Obj)}{E:Value->Shared->Prop}(ok:X.Ok):({ X with pn:=pn,xe:=E }:Cx).Ok :=
 ⟨ok.mod,ok.kind,ok.glob,ok.blt,ok.above,ok.inj,ok.has,ok.cab,ok.hd,ok.frames,ok.stk,ok.exf,ok.bs,ok.bsz,ok.noex,ok.exfs,ok.funs,ok.frf⟩
theorem Cx.Ok.unpinned {pn:List (Addr×Obj)}{E:Value->Shared->Prop}(ok:({ X with pn:=pn,xe:=E }:Cx).Ok):X.Ok :=
 ⟨ok.mod,ok.kind,ok.glob,ok.blt,ok.above,ok.inj,ok.has,ok.cab,ok.hd,ok.frames,ok.stk,ok.exf,ok.bs,ok.bsz,ok.noex,ok.exfs,ok.funs,ok.frf⟩
theorem Inv.tried (I:Inv X pins σ H s):Inv (X.tried pins R) [] σ H s :=
 ⟨I.ok.pinned,I.os,I.bare,I.base,I.loc,I.cell,I.free,I.freeC,λp hp=>I.pin p (by simpa using hp),I.hok,I.len⟩
theorem Inv.untried (I:Inv (X.tried pins R) pins' σ H s):Inv X pins σ H s :=
 ⟨I.ok.unpinned,I.os,I.bare,I.base,I.loc,I.cell,I.free,I.freeC,λp hp=>I.pin p (List.mem_append_left _ hp),I.hok,I.len⟩
theorem SP.untried {D:Ends}{f:Flow}(h:SP (X.tried pins R) pins' D f s):SP X pins D f s:=by
 cases f with
 | next=>obtain⟨σ',H',I,q⟩:=h;exact⟨σ',H',I.untried,q⟩
 | brk=>obtain⟨σ',H',I,q⟩:=h;exact⟨σ',H',I.untried,q⟩
 | cont=>obtain⟨σ',H',I,q⟩:=h;exact⟨σ',H',I.untried,q⟩
 | ret u=>obtain⟨v,σ',H',I,q⟩:=h;exact⟨v,σ',H',I.untried,q⟩
theorem takes_try:Takes (X.tried pins R) R:=by
 intro pins' σ H s U e cls od cx fl I O xe hfl rd q
 exact⟨σ,H,U,e,cls,od,cx,fl,rfl,I.untried,⟨O.fresh,O.un,O.old,O.loc,O.cell,λp hp=>O.pin p (List.mem_append_left _ hp)⟩,xe,hfl,rd,q⟩
theorem tried {body:List Stmt}{tb:TS}{D:Ends}{h0:ExceptHandler}{hs:List ExceptHandler}{pos:Pos}(hst:X.stack=X.env::X.outer) (hfr:X.env.frame=some X.env.locals) (hb:PSs (X.tried pins R) body tb) (I:Inv X pins σ H s) (q:tb D σ H)
  (hh:∀σ' H' U e cls od cx s',Inv X pins σ' H' s'->Own X pins U H' s'->Exc U s'.heap e cls od cx (some .none)->(od=none->cx=.none)->R σ' cls od H'->wpAny (model X.prog X.w) X.A (handleBy (.ref e) X.env (h0::hs)) (SP X pins D) X.xe s') :
  wpAny (model X.prog X.w) X.A (exec (.Try body (h0::hs) [] [] pos) X.env) (SP X pins D) X.xe s:=by
 refine wpAny_Try_except (wpAny_mono (hb [] s σ H D I.tried q) (λf s1 h1=>?_) λx s1 h1=>?_)
 ·have z:=SP.untried h1
  cases f with
  | next=>exact wpAny_execs_nil z
  | ret v=>exact z
  | brk=>exact z
  | cont=>exact z
 ·obtain⟨σ1,H1,U,e,cls,od,cx,fl,rfl,I1,O1,xe,hfl,rd,r⟩:=h1
  have fr:X.A.frames=some (X.env::X.outer):=by rw[I1.ok.frames,hst]
  have fu:s1.heap.FunFrames X.base (X.env::X.outer):=by rw[<-hst];exact I1.stack
  have nU:∀b∈(X.env::X.outer).filterMap (·.frame),¬U b:=by have z:=O1.frames I1;rw[hst]at z;exact z
  refine wp_note fr fu hfr O1.fresh nU xe hfl λh' k x'=>?_
  have k1:Kept U (frs X.stack) s1.heap h':=by rw[hst];exact k
  refine wp_flight (fs:=frs X.stack) (s:={ s1 with heap:=h' }) (to:=none) x' λh2 k2 x2=>?_
  have k3:=k1.trans k2
  exact hh σ1 H1 U e cls od cx { s1 with heap:=h2 } (inv_kept I1 O1 k3) (O1.kept k3) x2 rd r
end
end L2
end
section
namespace L2
open PySem PySem.Spec PyProof.Rows Tx
abbrev Cx.suite (X:Cx) (e:Addr) (pn:List (Addr×Obj)) (E:Value->Shared->Prop):Cx:={ X with A:=X.A.mark (some (.ref e)),calm:=false,pn:=pn,xe:=E }
section
variable {X:Cx}{pins pins':List (Addr×Obj)}{R:St->XK}{σ:St}{H:Hp}{s:Shared}{U:Addr->Prop}{e:Addr}{oe:Obj}{E:Value->Shared->Prop}
theorem Inv.suite (I:Inv X pins σ H s) (he:s.heap.get? e=some oe) (hn:H e=none) (hL:e≠X.env.locals) (hf:e∉X.fs) (hc:∀v,oe.data≠.cell v):Inv (X.suite e (X.pn++pins++[(e,oe)]) E) [] σ H s :=
 ⟨⟨I.ok.mod,I.ok.kind,I.ok.glob,I.ok.blt,I.ok.above,I.ok.inj,I.ok.has,I.ok.cab,λz=>absurd z (by simp),I.ok.frames,I.ok.stk,I.ok.exf,I.ok.bs,I.ok.bsz,I.ok.noex,I.ok.exfs,I.ok.funs,I.ok.frf⟩,
  I.os,I.bare,I.base,I.loc,I.cell,I.free,I.freeC,λp hp=>by
   rw[List.append_nil]at hp
   rcases List.mem_append.mp hp with z | z
   ·exact I.pin p z
   ·rw[List.mem_singleton.mp z];exact⟨he,hn,hL,hf,hc⟩,I.hok,I.len⟩
theorem Inv.unsuite {pn:List (Addr×Obj)}(ok:X.Ok) (I:Inv (X.suite e (X.pn++pins++pn) E) pins' σ H s):Inv X pins σ H s :=
 ⟨ok,I.os,I.bare,I.base,I.loc,I.cell,I.free,I.freeC,λp hp=>I.pin p (List.mem_append_left _ (List.mem_append_left _ hp)),I.hok,I.len⟩
theorem exc_data {cls cx:Value}{od:Option Addr}{fl:Option Value}{h:Heap}(x:Exc U h e cls od cx fl):∃oe vs,h.get? e=some oe/\oe.cls=cls/\oe.dict=od/\oe.data=.fields vs/\vs[2]?=some cx:=by
 obtain⟨_,oe,vs,h1,h2,h3,h4,_,h6,_⟩:=x
 exact⟨oe,vs,h1,h2,h3,h4,h6⟩
theorem Inv.lost {h':Heap}{t':Nat}{m':Str->Option Value}(I:Inv X pins σ H s) (hn:h'.Ns X.env.locals m') (hs:Heap.SameBut X.env.locals s.heap h'):Inv X pins (List.replicate X.N.length none) H { s with heap:=h',toks:=t' }:=by
 have cne:=I.cne
 have nl:∀ {b:Addr}{o:Obj},X.s_0.heap.get? b=some o->b≠X.env.locals:=λq=>Nat.ne_of_lt (Nat.lt_of_lt_of_le (Heap.lt_size q) I.ok.above)
 refine⟨I.ok,I.os,I.bare,⟨λb o q n hb hx=>(hs.2 b (nl q)).trans (I.base.keep b o q n hb hx),λb o q n hb hx=>?_,I.base.free,λb o q hx=>?_,I.base.tups,I.base.frzs,I.base.tbls⟩,⟨m',hn,λj y v e1 e2=>?_⟩,λy c q=>?_,I.free,I.freeC,λp hp=>?_,λb u q=>?_,by simp⟩
 ·obtain⟨sl,z⟩:=I.base.slot b o q n hb hx
  exact⟨sl,(hs.2 b (nl q)).trans z⟩
 ·obtain⟨o',z⟩:=I.base.there b o q hx
  exact⟨o',(hs.2 b (nl q)).trans z⟩
 ·rw[List.getElem?_replicate]at e2
  split at e2 <;> cases e2
 ·obtain⟨v,z⟩:=I.cell y c q
  exact⟨v,z.sameBut hs (cne y c q)⟩
 ·obtain⟨z,n,ne,nf,d⟩:=I.pin p hp
  exact⟨(hs.2 p.1 ne).trans z,n,ne,nf,d⟩
 ·refine (I.hok b u q).stay (λc v hc z=>(hs.2 c λy=>?_).trans z) (λ_ z=>z) λ_ _ z=>z
  have nf:=I.free
  rcases hc with rfl | hc
  ·rw[y,nf]at q;cases q
  ·rw[y,nf]at hc;cases hc
theorem takes_suite {pn:List (Addr×Obj)}(hst:X.stack=X.env::X.outer) (hfr:X.env.frame=some X.env.locals) (ok:X.Ok) (T:Takes X R) :
  Takes (X.suite e (X.pn++pins++pn) (notedBy (model X.prog X.w) (X.A.mark (some (.ref e))) X.env (cameBackBy (model X.prog X.w) X.A X.env X.xe))) R:=by
 intro pins' σ H s U x cls od cx fl I O xe hfl rd q
 have I1:Inv X pins σ H s:=I.unsuite ok
 have O1:Own X pins U H s:=⟨O.fresh,O.un,O.old,O.loc,O.cell,λp hp=>O.pin p (List.mem_append_left _ (List.mem_append_left _ hp))⟩
 have fr:(X.A.mark (some (.ref e))).frames=some (X.env::X.outer):=by show X.A.frames=_;rw[I1.ok.frames,hst]
 have fu:s.heap.FunFrames X.base (X.env::X.outer):=by rw[<-hst];exact I1.stack
 have nU:∀b∈(X.env::X.outer).filterMap (·.frame),¬U b:=by have z:=O1.frames I1;rw[hst]at z;exact z
 refine wp_note fr fu hfr O1.fresh nU xe hfl λh' k x'=>?_
 have k1:Kept U (frs X.stack) s.heap h':=by rw[hst];exact k
 obtain⟨_,oe,vs,h1,h2,h3,h4,h5,h6,T1,oT,ts,q1,q2⟩:=id x'
 refine wpAny_bind (wpAny_field h1 h4 q1 ?_)
 rw[if_neg (show ¬(Value.ref T1 == Value.none)=true from by simp)]
 refine wp_flight (fs:=frs X.stack) (s:={ s with heap:=h' }) (to:=X.env.frame) x' λh2 k2 x2=>?_
 have k3:=k1.trans k2
 rw[hfr]at x2
 exact T pins σ H { s with heap:=h2 } U x cls od cx _ (inv_kept I1 O1 k3) (O1.kept k3) x2 (.inr (.inr rfl)) rd q
end
section
variable {X:Cx}{R:St->XK}{x:Str}{p pos cpos npos:Pos}{j:Nat}{C N f b:Addr}{fd:FuncData}{qual:Str}{st:Stmt}{a c:Expr}{ta:TA}{ob:Obj}{vb:Array Value}
theorem ps_raiseN (hh:X.A.handled=some (.ref b)) (hb:(b,ob)∈X.pn) (hd:ob.data=.fields vb) (h2:vb[2]?=some .none) (T:Takes X R) (Fa:Fault X.K qual st C N f fd) (dp:X.A.depth+1<recursionLimit) (hg:Gl X x) (hm:X.mg x=some (.ref C)) (ha:PA X [a,c] ta)
  (hdb:(x == ("__debug__":Str))=false:=by decide) (he:starEach [a,c] X.env=(false,eval a X.env)::starEach [c] X.env:=by rfl) (hpl:(backTo cpos (starEach [c] X.env)).any (·.1)=false:=by rfl) :
  PS X (.Raise (some (.Call (.Name x p) [a,c] [] cpos)) (some (.Constant .none j npos)) pos) (λD σ H=>ta σ H λvs H1=>∃va vb,vs=[va,vb]/\∀dx,H1 dx=none->R σ (.ref C) (some dx) (upd H1 dx (.xd [("kind",va),("place",vb)]))):=by
 intro pins s σ H D I h
 rw[arm_exec_Raise]
 refine wpAny_bind (wpAny_standAt (wp_raise_none (C:=C) hh (wpAny_bind ?_)))
 refine wpAny_Call_Name_kw (ld_glob I hg hm ?_ hdb)
 refine PySem.W.callWith_K (h₀:=X.base) I.ok.mod.kin Fa.kp (thn (ha cpos pins s σ H _ I h) λus s1 ⟨vs,H1,I1,r,va,vb',ev,q⟩=>⟨I1.kIn,?_⟩) he hpl
 subst ev
 refine thn (run_fault (Q:=λv H2=>∃e dx t,v=.ref e/\s1.heap.objs.size<=e/\H1 e=none/\H1 dx=none/\dx≠e/\H2=upd (upd H1 dx (dcIs [("kind",va),("place",vb')] dx)) e (exIs C t (some dx) e)) Fa dp I1 r
  λe dx t le n1 n2 ne=>⟨e,dx,t,rfl,le,n1,n2,ne,rfl⟩) λv s2 ⟨v',H2,I2,rv,e,dx,t,ev,le,n1,n2,ne,eH⟩=>wpAny_bind (wpAny_standAt (wpAny_pure ?_))
 subst ev
 obtain rfl:v=Value.ref e:=rv
 have hE:H2 e=some (exIs C t (some dx) e):=by rw[eH];exact ups
 have hD:H2 dx=some (dcIs [("kind",va),("place",vb')] dx):=by rw[eH,qqa ne];exact ups
 have xe:=exIs_at I2 hE
 have I3:=(I2.drop hE).dict (by rw[drp_ne ne];exact hD)
 have eq:upd (drp H2 e) dx (.xd [("kind",va),("place",vb')])=upd H1 dx (.xd [("kind",va),("place",vb')]):=by
  funext z
  unfold upd drp
  by_cases h2:z=dx
  ·rw[if_pos h2,if_pos h2]
  ·rw[if_neg h2,if_neg h2]
   by_cases h1:z=e
   ·rw[if_pos h1,h1,n1]
   ·rw[if_neg h1,eH];unfold upd;rw[if_neg h1,if_neg h2]
 rw[eq]at I3
 have hn:(upd H1 dx (.xd [("kind",va),("place",vb')])) e=none:=by rw[qqa (Ne.symm ne)];exact n1
 have O:=own_made I1 I3 le hn
 have pb:=I3.pin (b,ob) (List.mem_append_left _ hb)
 have nC:¬(C=e\/s2.heap.objs.size<=C):=λz=>by
  obtain⟨_,_,_,_,_,_,_,_,_,_,_,_,_,lk⟩:=Fa.cls.obj
  have q:=I1.kIn _ _ lk
  have q2:=I3.kIn _ _ lk
  rcases z with z | z
  ·rw[z]at q;exact absurd le (Nat.not_le.mpr (Heap.lt_size q))
  ·exact absurd z (Nat.not_le.mpr (Heap.lt_size q2))
 refine wpAny_bind (wpAny_Constant_none (wpAny_bind (wpAny_standAt (wpAny_pure ⟨rfl,e,λz=>z=e\/s2.heap.objs.size<=z,some dx,.none,ob,vb,rfl,Fa.cls.one.at_ I3.kIn,nC,exc_made xe (.inl rfl),pb.1,hd,h2,O.pin (b,ob) (List.mem_append_left _ hb),λh' k x'=>?_⟩))))
 have k':Kept (λz=>z=e\/s2.heap.objs.size<=z) (frs X.stack) s2.heap h':=k.mono (by simp)
 exact T pins σ _ { s2 with heap:=h' } _ e _ _ _ _ (inv_kept I3 O k') (O.kept k') x' (.inl rfl) (λz=>nomatch z) (q dx n2)
end
end L2
end
section
namespace L2
open PySem PySem.Spec PyProof.Rows Tx
section
variable {X:Cx}{R:St->XK}{xs n:Str}{pos np hpos apos:Pos}{C e dx:Addr}{body bs:List Stmt}{b0:Stmt}{tb:(St->XK)->TS}{ts:TS}{tsA:Addr->Addr->TS}
abbrev noEnd:Ends:=⟨λ_ _=>False,λ_ _=>False,λ_ _=>False,λ_ _=>False⟩
def RbN (C:Addr) (ts:TS):St->XK:=λσ cls od H=>cls=.ref C/\od=none/\ts noEnd σ H
def RbA (C:Addr) (i:Nat) (ts:Addr->Addr->TS) (D:Ends):St->XK:=λσ cls od H=>cls=.ref C/\∃dx,od=some dx/\∀e,ts e dx ⟨λ_ _=>False,D.rt,λ_ _=>False,λ_ _=>False⟩ (σ.set i (some (.ref e))) H
theorem eval_cls {A:Around}{pins:List (Addr×Obj)}{σ:St}{H:Hp}{s:Shared}{Q:Value->Shared->Prop}{E:Value->Shared->Prop}(I:Inv X pins σ H s) (hf:A.frames=X.A.frames) (hg:Gl X xs) (hm:X.mg xs=some (.ref C)) (h:Q (.ref C) s) (hdb:(xs == ("__debug__":Str))=false) :
  wpAny (model X.prog X.w) A (eval (.Name xs np) X.env) Q E s:=ld_glob (X:=X.hot A E) (I.hot hf) hg hm h hdb
theorem ps_tryR (hst:X.stack=X.env::X.outer) (hfr:X.env.frame=some X.env.locals) (T:Takes X R) (xc:XCls X.K C) (hg:Gl X xs) (hm:X.mg xs=some (.ref C)) (hb:∀pins Rb,PSs (X.tried pins Rb) body (tb Rb))
  (hs:∀(e:Addr) (pn:List (Addr×Obj)) (E:Value->Shared->Prop) (ob:Obj) (vb:Array Value),(e,ob)∈pn->ob.data=.fields vb->vb[2]?=some .none->Takes (X.suite e pn E) R->PSs (X.suite e pn E) (b0::bs) ts)
  (hdb:(xs == ("__debug__":Str))=false:=by decide):PS X (.Try body [.ExceptHandler (some (.Name xs np)) none (b0::bs) hpos] [] [] pos) (λD σ H=>tb (RbN C ts) D σ H):=by
 intro pins s σ H D I h
 refine tried hst hfr (hb pins (RbN C ts)) I h λσ1 H1 U e cls od cx s1 I1 O1 xe rd ⟨ec,eo,q⟩=>?_
 subst ec eo
 obtain rfl:=rd rfl
 refine wpAny_handleBy_cons (codeAny_handlers_test (eval_cls I1 rfl hg hm (wp_match (xc.at_ I1.kIn) xe ?_) hdb)) (by intro z;cases z)
 refine codeAny_handlers_suite (wp_flight (fs:=frs X.stack) (to:=none) xe λh' k x'=>?_)
 have I2:=inv_kept I1 O1 k
 have O2:=O1.kept k
 obtain⟨oe,vs,g1,g2,g3,g4,g5⟩:=exc_data x'
 have nf:e∉X.fs:=λz=>by
  obtain⟨_,o,ho,_⟩:=I2.ok.funs.mem z
  exact O2.old e (Heap.lt_size ho) x'.1
 have nL:e≠X.env.locals:=λz=>O2.loc (z▸x'.1)
 have J:=I2.suite (E:=notedBy (model X.prog X.w) (X.A.mark (some (.ref e))) X.env (cameBackBy (model X.prog X.w) X.A X.env X.xe)) g1 (O2.un e x'.1) nL nf (λv z=>by rw[g4]at z;cases z)
 refine wpAny_mono (hs e _ _ oe vs (by simp) g4 g5 (takes_suite (pins:=pins) hst hfr I2.ok T) [] _ σ1 H1 noEnd J q) (λf s3 z=>?_) λx s3 z=>z
 cases f with
 | next=>obtain⟨_,_,_,z⟩:=z;exact z.elim
 | brk=>obtain⟨_,_,_,z⟩:=z;exact z.elim
 | cont=>obtain⟨_,_,_,z⟩:=z;exact z.elim
 | ret u=>obtain⟨_,_,_,_,_,z⟩:=z;exact z.elim
theorem ps_tryA {i:Nat}(hst:X.stack=X.env::X.outer) (hfr:X.env.frame=some X.env.locals) (xc:XCls X.K C) (hg:Gl X xs) (hm:X.mg xs=some (.ref C)) (hN:X.N.Nodup) (hi:X.N[i]?=some n) (hl:X.env.scope.names.lookup n=some .local) (hb:∀pins Rb,PSs (X.tried pins Rb) body (tb Rb))
  (hs:∀(e dx:Addr) (pn:List (Addr×Obj)) (oe:Obj),(e,oe)∈pn->oe.cls=.ref C->oe.dict=some dx->(∀c,oe.data≠.cls c)->PSs (X.suite e pn λ_ _=>False) (b0::bs) (tsA e dx))
  (hdb:(xs == ("__debug__":Str))=false:=by decide):PS X (.Try body [.ExceptHandler (some (.Name xs np)) (some n) (b0::bs) hpos] [] [] pos) (λD σ H=>tb (RbA C i tsA D) D σ H):=by
 intro pins s σ H D I h
 refine tried hst hfr (hb pins (RbA C i tsA D)) I h λσ1 H1 U e cls od cx s1 I1 O1 xe rd ⟨ec,dx,eo,q⟩=>?_
 subst ec eo
 refine wpAny_handleBy_cons (codeAny_handlers_test (eval_cls I1 rfl hg hm (wp_match (xc.at_ I1.kIn) xe ?_) hdb)) (by intro z;cases z)
 refine codeAny_handlers_suite_as (wp_flight (fs:=frs X.stack) (to:=none) xe λh' k x'=>?_)
 have I2:=inv_kept I1 O1 k
 have O2:=O1.kept k
 obtain⟨oe,vs,g1,g2,g3,g4,g5⟩:=exc_data x'
 have nf:e∉X.fs:=λz=>by
  obtain⟨_,o,ho,_⟩:=I2.ok.funs.mem z
  exact O2.old e (Heap.lt_size ho) x'.1
 have nL:e≠X.env.locals:=λz=>O2.loc (z▸x'.1)
 have J:=I2.suite (E:=λ_ _=>False) g1 (O2.un e x'.1) nL nf (λv z=>by rw[g4]at z;cases z)
 refine store_ok (X:=X.suite e (X.pn++pins++[(e,oe)]) λ_ _=>False) J hN hi (.inl hl) (v:=.ref e) rfl (λs2 I3=>?_) (.inr hl)
 refine wpAny_mono (hs e dx _ oe (by simp) g2 g3 (λc z=>by rw[g4]at z;cases z) [] s2 _ H1 _ I3 (q e)) (λf s3 z=>?_) λx s3 z=>z.elim
 cases f with
 | next=>obtain⟨_,_,_,z⟩:=z;exact z.elim
 | brk=>obtain⟨_,_,_,z⟩:=z;exact z.elim
 | cont=>obtain⟨_,_,_,z⟩:=z;exact z.elim
 | ret u =>
  obtain⟨v,σ3,H3,I4,rv,z⟩:=z
  have I5:Inv X pins σ3 H3 s3:=I4.unsuite I2.ok
  obtain⟨m,hn,_⟩:=id I5.loc
  refine wpAny_nameGoes hl hn (by rw[I5.ok.kind];rfl) λh5 m5 n5 s5=>⟨v,_,H3,I5.lost n5 s5,rv,z⟩
structure Reads (K:PySem.W.Frag) (C:Addr):Prop where
 cls:XCls K C
 ga:PySem.W.findIn K (.ref C) "__getattribute__"=some (some (.builtin "BaseException.__getattribute__"))
 gk:PySem.W.findIn K (.ref C) "__getattr__"=some none
 hd:(match K.lookup C with | some ⟨_,_,.cls cd,_⟩=>cd.hasDict | _=>false)=true
theorem pe_exfld {oe:Obj}{o:Expr}{to:TE}{f:Str}(hp:(e,oe)∈X.pn) (hc:oe.cls=.ref C) (hd:oe.dict=some dx) (hn:∀c,oe.data≠.cls c) (rd:Reads X.K C) (hf:PySem.W.findIn X.K (.ref C) f=some none) (ho:PE X o to)
  (hb:attributeBase o f X.env (eval o X.env)=eval o X.env):PE X (.Attribute o f pos) (λσ H Q=>to σ H λx H1=>x=.ref e/\∃fs v,H1 dx=some (.xd fs)/\fs.lookup f=some v/\Q v H1):=by
 intro pins s σ H Q I h
 refine attr_of hb (thn (ho pins s σ H _ I h) λu s1 ⟨x,H1,I1,rx,ex,fs,v,hx,hl,q⟩=>?_)
 subst ex
 obtain rfl:u=Value.ref e:=rx
 obtain⟨hp1,g,d,tk,os⟩:=s1
 have pe:=I1.pin (e,oe) (List.mem_append_left _ hp)
 obtain⟨mA,n,r⟩:=I1.hok dx _ hx
 have rf:=r f
 rw[hl]at rf
 obtain⟨w,hw,rw'⟩:=RelO.some_of rf
 have ne:dx≠e:=λz=>by rw[z,pe.2.1]at hx;cases hx
 refine exc_load I1.kIn rd.cls rd.ga rd.gk hf rd.hd ⟨oe,pe.1,hc,hn,.inr ⟨dx,hd,ne,n⟩⟩ hw ?_ ⟨v,H1,I1.tok _,rw',q⟩
 exact PySem.W.handedOut_of (handed_of rw')
end
end L2
end
section
namespace PySem
open AutoSeq1 (wpAny_loadPart')
section
variable {pr:Program}{wd:World}{Ar:Around}{Er:Value->Shared->Prop}{st:Shared}
theorem tupNext_go {it a:Addr}{i:Nat}{xs:Array Value}{x:Value}{Qr:Value->Shared->Prop}(hI:st.heap.IsTupleIter it a i) (hT:st.heap.IsTuple a xs) (hx:xs[i]?=some x)
  (kx:∀h',h'.IsTupleIter it a (i+1)->Heap.SameBut it st.heap h'->Qr x { st with heap:=h' }):wpAny (model pr wd) Ar (Builtin.SmallTypes.nextOf (.ref it)) Qr Er st:=by
 obtain⟨ob,hob,hcl,hdt⟩:=id hI
 obtain⟨ot,hot,_,nn,hdd⟩:=hT
 unfold Builtin.SmallTypes.nextOf
 refine wpAny_bind (wpAny_callSpecial?_slot (name:=Str.ofString "__next__") hI.typeIs F.slot_tuple_iterator_next (wpAny_call_entry F.slot_tuple_iterator_next hI.typeIs F.entry_tuple_iterator_next ?_ (F.args_tuple_iterator_next_1 _)))
 refine (show wpAny _ _ (field (.ref it) 0 >>= _) _ _ st from wpAny_bind (wpAny_field hob hdt (x:=.ref a) rfl ?_))
 refine (show wpAny _ _ (if (Value.ref a == Value.none)=true then _ else _) _ _ st from ?_)
 rw[if_neg (show ¬((Value.ref a == Value.none)=true) from (by decide:¬(false=true)))]
 refine (show wpAny _ _ (field (.ref it) 1 >>= _) _ _ st from wpAny_bind (wpAny_field hob hdt (x:=.int i 0) rfl ?_))
 refine (show wpAny _ _ (seqItems? (.ref a) >>= _) _ _ st from wpAny_bind (wpAny_seqItems hot hdd ?_))
 simp only[Int.toNat_natCast,hx]
 exact wpAny_bind (wpAny_setField hob hdt (by simp) (wpAny_pure ⟨x,rfl,wpAny_pure (kx _ ⟨_,Heap.get?_update_self _ hob (Obj.isFreed_of_fields (Obj.data_mapFields hdt _)),(Obj.cls_mapFields ..).trans hcl,by rw[Obj.data_mapFields hdt];simp[rawInt]⟩ (Heap.SameBut.update ..))⟩))
theorem tupNext_no {it a:Addr}{i:Nat}{xs:Array Value}{Qr:Value->Shared->Prop}(hq:Ar.handled=none) (hI:st.heap.IsTupleIter it a i) (hT:st.heap.IsTuple a xs) (hx:xs[i]?=none)
  (kx:∀h' e,Heap.ExtBut it st.heap h'->(∃o,h'.get? e=some o/\o.cls=.type "StopIteration")->Er (.ref e) { st with heap:=h' }):wpAny (model pr wd) Ar (Builtin.SmallTypes.nextOf (.ref it)) Qr Er st:=by
 obtain⟨ob,hob,hcl,hdt⟩:=id hI
 obtain⟨ot,hot,_,nn,hdd⟩:=hT
 unfold Builtin.SmallTypes.nextOf
 refine wpAny_bind (wpAny_callSpecial?_slot (name:=Str.ofString "__next__") hI.typeIs F.slot_tuple_iterator_next (wpAny_call_entry F.slot_tuple_iterator_next hI.typeIs F.entry_tuple_iterator_next ?_ (F.args_tuple_iterator_next_1 _)))
 refine (show wpAny _ _ (field (.ref it) 0 >>= _) _ _ st from wpAny_bind (wpAny_field hob hdt (x:=.ref a) rfl ?_))
 refine (show wpAny _ _ (if (Value.ref a == Value.none)=true then _ else _) _ _ st from ?_)
 rw[if_neg (show ¬((Value.ref a == Value.none)=true) from (by decide:¬(false=true)))]
 refine (show wpAny _ _ (field (.ref it) 1 >>= _) _ _ st from wpAny_bind (wpAny_field hob hdt (x:=.int i 0) rfl ?_))
 refine (show wpAny _ _ (seqItems? (.ref a) >>= _) _ _ st from wpAny_bind (wpAny_seqItems hot hdd ?_))
 simp only[Int.toNat_natCast,hx]
 refine wpAny_bind (wpAny_rule (wpAny_bind (wpAny_setField hob hdt (by simp) ?_)))
 refine (show wpAny _ _ (newExc (.type "StopIteration") [] >>= _) _ _ _ from wpAny_bind ?_)
 simp only[newExc,newTuple]
 refine wpAny_bind (wpAny_newObj_type (wpAny_bind (m:=firstArgMember _ _) (wpAny_of_eq (a:=Value.none) (by first | rfl | (simp only[firstArgMember];rfl)) ?_)) (by size_fits))
 refine wpAny_newObj_type ?_ (by size_fits)
 simp only[raiseNew]
 refine wpAny_bind (wpAny_handled ?_)
 first
 | rw[show Ar.in1.handled=none from hq]
 | rw[hq]
 exact wpAny_bind (wpAny_pure (wpAny_throw (kx _ _ (((Heap.SameBut.update ..).extBut.push _).push _) ⟨_,Heap.get?_push_size _ rfl,rfl⟩)))
theorem tup_draws (hq:Ar.handled=none) (it a:Addr) (hne:a≠it) (xs:Array Value):Draws pr wd Ar it [it,a] xs.size (λi v=>xs[i]?=some v) (λi h=>h.IsTupleIter it a i/\h.IsTuple a xs) where
 live:=λ_ _ z=>let ⟨o,ho,_⟩:=z.1;⟨o,ho⟩
 frame:=λ_ _ _ z hk=>⟨z.1.at λo e=>hk it (by simp) o e,z.2.at λo e=>hk a (by simp) o e⟩
 item:=λi s Q E hi z hQ=>tupNext_go z.1 z.2 (x:=xs[i]) (by simp[hi]) λh' hit' hs'=>hQ _ h' s.toks (by simp[hi]) ⟨hit',z.2.at λo e=>hs'.extBut _ _ hne e⟩ hs'
 done:=λs Q E z hE=>tupNext_no hq z.1 z.2 (by simp) hE
end
theorem enumNew_tup (a:Addr) (xs:Array Value) (nn:Nat) (dct:Option Addr) (sl:Array (Option Value)) :
  Meets (Builtin.«enumerate.__new__» ⟨[.type "enumerate",.ref a],[]⟩) (λ_ R s=>s.heap.get? a=some { cls:=.type "tuple",dict:=dct,data:=.seq xs nn,slots:=sl } /\
   R (.ok (.ret (.ref (s.heap.push { cls:=.type "tuple_iterator",data:=.fields #[.ref a,.int 0 0] }).objs.size)))
    { s with heap:=(s.heap.push { cls:=.type "tuple_iterator",data:=.fields #[.ref a,.int 0 0] }).push { cls:=.type "enumerate",data:=.fields #[.none,.bool false,.ref s.heap.objs.size,rawInt 0,.none,.none] } }) :=
 .of_wp λpr wd Ar R s hh=>by
  obtain⟨hp,g,d,tk,os⟩:=s
  obtain⟨ha,hh⟩:=hh
  have hsub:=sub_enumerate
  have hT:Heap.IsTuple (Shared.heap ⟨hp,g,d,tk,os⟩) a xs:=⟨_,ha,rfl,nn,rfl⟩
  wp_walk using wpAny_loadPart' ha
  refine wpAny_stack_any λst=>wpAny_pure ?_
  split
  ·rename_i c _ _ _ _ _
   cases (c == Value.type "enumerate") <;> (wp_walk using wpAny_loadPart' ha,wpAny_pyIter_tuple hT;exact⟨_,rfl,hh⟩)
  ·wp_walk using wpAny_loadPart' ha,wpAny_pyIter_tuple hT
   exact⟨_,rfl,hh⟩
end PySem
end
section
namespace Tx
open PySem PySem.Spec PyProof.Rows L2
theorem ints_get:∀ {vs:List Value}{ns:List Int},IntsAre vs ns->∀ {i:Nat},i<vs.length->∃a t,vs[i]?=some (.int a t)/\ns.drop i=a::ns.drop (i+1)
 | _,_,.nil,i,h=>absurd h (Nat.not_lt_zero _)
 | _,_,.cons a t r,0,_=>⟨a,t,rfl,rfl⟩
 | _,_,.cons a t r,i+1,h=>by
  obtain⟨c,u,e1,e2⟩:=ints_get r (i:=i) (by simpa using h)
  exact⟨c,u,by rw[List.getElem?_cons_succ];exact e1,by rw[List.drop_succ_cons,List.drop_succ_cons];exact e2⟩
section
open PySem.SeqAt
open PySem.AutoSeq1 (wpAny_loadPart')
open PySem.MeetsSeq PySem.MeetsSeq2 PySem.MeetsSeq3 PySem.SeqRoads2
theorem lt_loop (l b:Addr) (items items2:Array Value) (n n2:Nat) (dd dd2:Option Addr) (sl sl2:Array (Option Value)) (ns ms:List Int) (hi:IntsAre items.toList ns) (hj:IntsAre items2.toList ms) (k:Nat) :
  ∀i:Nat,items.size - i=k->i<=items.size->i<=items2.size->Meets (Builtin.«list.__eq__.loop» ⟨[.ref l,.ref b,rawInt i,rawInt 0],[]⟩)
   (λ_ R s=>s.heap.get? l=some { cls:=.type "list",dict:=dd,data:=.seq items n,slots:=sl }/\s.heap.get? b=some { cls:=.type "list",dict:=dd2,data:=.seq items2 n2,slots:=sl2 } /\
    R (.ok (.ret (.bool (HT.lexLt (ns.drop i) (ms.drop i))))) s):=by
 have z1:items.size=ns.length:=by rw[<-hi.length];simp
 have z2:items2.size=ms.length:=by rw[<-hj.length];simp
 induction k with
 | zero =>
  intro i hk q1 q2 prog w A R s h
  obtain⟨hp,g,d,tk,os⟩:=s;obtain⟨hl,hb,h⟩:=h
  have hi1:items[((i:Nat):Int).toNat]?=none:=by simp;omega
  have e1:ns.drop i=[]:=by simp;omega
  rw[e1]at h
  have fin:R (.ok (.ret (.bool (decide (items.size<items2.size))))) ⟨hp,g,d,tk,os⟩:=by
   by_cases hlt:i<items2.size
   ·obtain⟨c,u,_,e2⟩:=ints_get hj (i:=i) (by simpa using hlt)
    rw[e2,HT.lexLt_nil_cons]at h
    rw[decide_eq_true (by omega)]
    exact h
   ·have e2:ms.drop i=[]:=by simp;omega
    rw[e2,HT.lexLt_nil_nil]at h
    rw[decide_eq_false (by omega)]
    exact h
  wp_walk using wpAny_loadPart' hl,wpAny_loadPart' hb
  rw[hi1]
  cases hi2:items2[((i:Nat):Int).toNat]? <;>
  ·wp_walk using wpAny_loadPart' hl,wpAny_loadPart' hb
   exact fin
 | succ k ih =>
  intro i hk q1 q2 prog w A R s h
  obtain⟨hp,g,d,tk,os⟩:=s;obtain⟨hl,hb,h⟩:=h
  have hlt:i<items.size:=by omega
  obtain⟨a,t,ea,da⟩:=ints_get hi (i:=i) (by simpa using hlt)
  have hi1:items[((i:Nat):Int).toNat]?=some (.int a t):=by simpa using ea
  have hc:((i:Int)+1)=((i+1:Nat):Int):=by push_cast;rfl
  rw[da]at h
  by_cases hlt2:i<items2.size
  ·obtain⟨c,u,ec,dc⟩:=ints_get hj (i:=i) (by simpa using hlt2)
   have hi2:items2[((i:Nat):Int).toNat]?=some (.int c u):=by simpa using ec
   rw[dc,HT.lexLt_cons]at h
   wp_walk using wpAny_loadPart' hl,wpAny_loadPart' hb
   rw[hi1,hi2]
   obtain⟨e,he,hiff⟩:=HT.eqAt_int A.in1 ⟨hp,g,d,tk,os⟩ a t c u
   refine wpAny_bind (he prog w _ _ ?_)
   cases e with
   | true =>
    rw[if_pos (hiff.mp rfl)]at h
    wp_walk
    rw[hc]
    exact⟨plainId_quiet plain_eq_loop _,codeAny_builtin entry_eq_loop (by
     rw[Around.under_plainId plain_eq_loop _]
     exact ih (i+1) (by omega) (by omega) (by omega) prog w A R _ ⟨hl,hb,h⟩)⟩
   | false =>
    rw[if_neg (λq=>absurd (hiff.mpr q) Bool.false_ne_true)]at h
    have hri:=HT.rcLt_int A.in1 ⟨hp,g,d,tk,os⟩ a t c u prog w
    wp_walk using wpAny_loadPart' hl,wpAny_loadPart' hb
    rw[hi1,hi2]
    wp_walk using hri
    exact h
  ·have hi2:items2[((i:Nat):Int).toNat]?=none:=by simp;omega
   have e2:ms.drop i=[]:=by simp;omega
   rw[e2,HT.lexLt_cons_nil]at h
   have fin:R (.ok (.ret (.bool (decide (items.size<items2.size))))) ⟨hp,g,d,tk,os⟩:=by
    rw[decide_eq_false (by omega)]
    exact h
   wp_walk using wpAny_loadPart' hl,wpAny_loadPart' hb
   rw[hi1,hi2]
   wp_walk using wpAny_loadPart' hl,wpAny_loadPart' hb
   exact fin
theorem list_lt_ints (l b:Addr) (items items2:Array Value) (n n2:Nat) (dd dd2:Option Addr) (sl sl2:Array (Option Value)) (ns ms:List Int) (hi:IntsAre items.toList ns) (hj:IntsAre items2.toList ms) :
  Meets (Builtin.«list.__lt__» ⟨[.ref l,.ref b],[]⟩)
   (λ_ R s=>s.heap.get? l=some { cls:=.type "list",dict:=dd,data:=.seq items n,slots:=sl }/\s.heap.get? b=some { cls:=.type "list",dict:=dd2,data:=.seq items2 n2,slots:=sl2 } /\
    R (.ok (.ret (.bool (HT.lexLt ns ms)))) s):=by
 intro prog w A R s h
 obtain⟨hp,g,d,tk,os⟩:=s;obtain⟨hl,hb,h⟩:=h
 have f3:=AutoSeq1.sub_list_list
 wp_walk using wpAny_loadPart' hl,wpAny_loadPart' hb
 exact⟨plainId_quiet plain_eq_loop _,codeAny_builtin entry_eq_loop (by
  rw[Around.under_plainId plain_eq_loop _]
  exact lt_loop l b items items2 n n2 dd dd2 sl sl2 ns ms hi hj _ 0 rfl (Nat.zero_le _) (Nat.zero_le _) prog w A R _ ⟨hl,hb,by simpa using h⟩)⟩
theorem rcLt_lists {A:Around}{s:Shared}{l b:Addr}{items items2:Array Value}{ns ms:List Int}(hl:s.heap.IsList l items) (hb:s.heap.IsList b items2) (hi:IntsAre items.toList ns) (hj:IntsAre items2.toList ms) (hu:A.units<cLine)
  (prog:Program) (w:World) (E Q:Value->Shared->Prop) (h:Q (.bool (HT.lexLt ns ms)) s):wpAny (model prog w) A (richCompare .Lt (.ref l) (.ref b)) Q E s:=by
 obtain⟨⟨cls,dd,data,sl⟩,ho,hc,n,hd⟩:=id hl
 obtain⟨⟨cls2,dd2,data2,sl2⟩,ho2,hc2,n2,hd2⟩:=id hb
 simp only at hc hd hc2 hd2
 subst hc hd hc2 hd2
 exact richCompare_meets_room (op:=.Lt) ⟨_,ho,rfl⟩ ⟨_,ho2,rfl⟩ PySem.F.slot_list_lt PySem.F.entry_list_lt (PySem.F.args_list_lt_2 _ _) (list_lt_ints l b items items2 n n2 dd dd2 sl sl2 ns ms hi hj)
  ⟨ho,ho2,show Value.bool (HT.lexLt ns ms)≠Value.notImplemented/\Q (.bool (HT.lexLt ns ms)) s from⟨(λx=>nomatch x),h⟩⟩ hu
structure Ord2 (A:Around) (s:Shared) (x y:Value) (e r:Bool):Prop where
 eq:SeqAt.EqAt A s x y e
 lt:∀(prog:Program) (w:World) (E Q:Value->Shared->Prop),Q (.bool r) s->wpAny (model prog w) A (richCompare .Lt x y) Q E s
inductive Ords (A:Around) (s:Shared):List Value->List Value->List (Bool×Bool)->Prop
 | nil:Ords A s [] [] []
 | cons {x y:Value}{e r:Bool}{xs ys:List Value}{ps:List (Bool×Bool)}:Ord2 A s x y e r->Ords A s xs ys ps->Ords A s (x::xs) (y::ys) ((e,r)::ps)
theorem Ords.len {A:Around}{s:Shared}:∀ {xs ys:List Value}{ps:List (Bool×Bool)},Ords A s xs ys ps->xs.length=ys.length
 | _,_,_,.nil=>rfl
 | _,_,_,.cons _ r=>by rw[List.length_cons,List.length_cons,r.len]
def lexB:List (Bool×Bool)->Bool
 | []=>false
 | p::ps=>if p.1=true then lexB ps else p.2
theorem tuple_lt_at (l b:Addr) (items items2:Array Value) (n n2:Nat) (dd dd2:Option Addr) (sl sl2:Array (Option Value)) (ps:List (Bool×Bool)) :
  Meets (Builtin.«tuple.__lt__» ⟨[.ref l,.ref b],[]⟩)
   (λA R s=>s.heap.get? l=some { cls:=.type "tuple",dict:=dd,data:=.seq items n,slots:=sl }/\s.heap.get? b=some { cls:=.type "tuple",dict:=dd2,data:=.seq items2 n2,slots:=sl2 } /\
    Ords A.in1 s items.toList items2.toList ps/\R (.ok (.ret (.bool (lexB ps)))) s) :=
 .of_wp λprog w A R s h=>by
  obtain⟨hp,g,d,tk,os⟩:=s;obtain⟨hl,hb,ho,h⟩:=h
  have f2:=AutoSeq1.sub_tuple_tuple
  have zz:items.size=items2.size:=by have:=ho.len;simpa using this
  wp_walk using wpAny_loadPart' hl,wpAny_loadPart' hb,wpAny_forIn_list _ (λrest b s'=>b.1=none/\s'=⟨hp,g,d,tk,os⟩/\∃(vs ws:List Value) (ps':List (Bool×Bool)),rest=vs.zip ws /\
   Ords A.in1 ⟨hp,g,d,tk,os⟩ vs ws ps'/\R (.ok (.ret (.bool (lexB ps')))) ⟨hp,g,d,tk,os⟩) _
  case turn =>
   rintro⟨y,x⟩ rest b s' ⟨hb',rfl,vs,ws,ps',hz,hvi,hR⟩
   cases hvi with
   | nil=>rw[List.zip_nil_left]at hz;cases hz
   | @cons x1 y1 e r xs ys ps1 o2 rest2 =>
    rw[List.zip_cons_cons]at hz
    injection hz with hyx hrest
    injection hyx with hy hx
    subst hy hx
    refine wpAny_bind (o2.eq prog w _ _ ?_)
    cases e with
    | true =>
     wp_walk
     exact⟨rfl,rfl,_,_,_,hrest,rest2,hR⟩
    | false =>
     have hri:=o2.lt prog w
     wp_walk using hri
     exact⟨_,rfl,hR⟩
  case fin =>
   rintro⟨b1,b2⟩ s' ⟨hb',rfl,vs,ws,ps',hz,hvi,hR⟩
   simp only at hb'
   subst hb'
   cases hvi with
   | cons _ _=>rw[List.zip_cons_cons]at hz;cases hz
   | nil =>
    have hv:decide (items.size<items2.size)=false:=decide_eq_false (by omega)
    wp_walk
    exact⟨_,rfl,by simpa[Builtin.Tuple.tupleCompareSizes,hv,lexB,zz] using hR⟩
  case h =>
   exact⟨rfl,rfl,items.toList,items2.toList,ps,rfl,ho,h⟩
theorem lt_tup {prog:Program}{w:World}{A:Around}{E:Value->Shared->Prop}{s:Shared}{l b:Addr}{items items2:Array Value}{ps:List (Bool×Bool)}{Q:Value->Shared->Prop}(hl:IsTup s.heap l items) (hb:IsTup s.heap b items2)
  (ho:Ords A.in1 s items.toList items2.toList ps) (hu:A.units<cLine) (h:Q (.bool (lexB ps)) s):wpAny (model prog w) A (compareOp .Lt (.ref l) (.ref b)) Q E s:=by
 obtain⟨⟨cls,dd,data,sl⟩,h1,hc,n,hd⟩:=id hl
 obtain⟨⟨cls2,dd2,data2,sl2⟩,h2,hc2,n2,hd2⟩:=id hb
 simp only at hc hd hc2 hd2
 subst hc hd hc2 hd2
 exact richCompare_meets_room (op:=.Lt) ⟨_,h1,rfl⟩ ⟨_,h2,rfl⟩ PySem.F.slot_tuple_lt PySem.F.entry_tuple_lt (PySem.F.args_tuple_lt_2 _ _) (tuple_lt_at l b items items2 n n2 dd dd2 sl sl2 ps)
  ⟨h1,h2,ho,show Value.bool (lexB ps)≠Value.notImplemented/\Q (.bool (lexB ps)) s from⟨(λx=>nomatch x),h⟩⟩ hu
end
end Tx
end
section
namespace Tx
open PySem
def CmpAt (prog:Program) (w:World) (A:Around) (G:Heap->Prop) (P:Nat->Value->Prop) (bt:Nat->Nat->Bool):Prop :=
 ∀i j vi vj (s:Shared) (Q:Value->Shared->Prop) (E:Value->Shared->Prop),G s.heap->P i vi->P j vj->Q (.bool (bt i j)) s->wpAny (model prog w) A (richCompare .Lt vi vj) Q E s
section
variable {prog:Program}{w:World}{A:Around}{R:Result->Shared->Prop}{J:Addr}{fp wr:List Addr}{n:Nat}{P:Nat->Value->Prop}{St:Nat->Heap->Prop}{G:Heap->Prop}
theorem min_lp (W:Walks prog w A.in1 J fp wr n P St) (bt:Nat->Nat->Bool) (cmp:CmpAt prog w A.in1 G P bt) (Z:Addr) (zf:Z∉fp) (GZ:∀h h':Heap,G h->(∀b o,b∉wr->b≠Z->h.get? b=some o->h'.get? b=some o)->G h') :
  ∀(k j:Nat) (s:Shared) (vb:Value) (c:Nat),n - (j+1)=k->j+1<=n->G s.heap->St (j+1) s.heap->P (argBest bt j) vb->s.heap.get? Z=some { cls:=.type "list",dict:=none,data:=.seq #[vb,vb] c,slots:=#[] } ->
  (∀v h' tk,P (argBest bt (n - 1)) v->(∀b o,b∉wr->b≠Z->s.heap.get? b=some o->h'.get? b=some o)->R (.ok (.ret v)) { s with heap:=h',toks:=tk })->codeAny (model prog w) A (.builtin "min.loop" ⟨[.ref J,.none,.ref Z],[]⟩) R s:=by
 have zw:Z∉wr:=λh=>zf (W.sub _ h)
 have nm:(toString "min"++toString ".loop":String) = "min.loop":=by decide
 intro k
 induction k with
 | zero =>
  intro j s vb c ek ej gs st pb zz fin
  have jn:j+1=n:=by omega
  refine codeAny_builtin PySem.F.entry_min_loop ?_
  rw[Around.under_plainId PySem.F.plain_min_loop _]
  show wpAny _ A.in1 (seqItems? (.ref Z) >>= _) _ _ s
  refine wpAny_bind (wpAny_seqItems zz rfl ?_)
  show wpAny _ A.in1 (tryCatch (pyNext (.ref J)) _ >>= _) _ _ s
  refine wpAny_bind (wpAny_tryCatch (W.done s _ _ (jn▸st) λh' tk kp=>?_))
  have zz':=kp Z _ zw zz
  show wpAny _ A.in1 (updateSeq Z (λ_=>#[]) >>= _) _ _ _
  refine wpAny_bind ?_
  refine wpAny_updateSeq zz' rfl (wpAny_bind (wpAny_letGo (wpAny_pure ?_)))
  exact fin vb _ tk (by rw[<-jn];exact pb) λb o bw bZ e=>(Heap.get?_update_other _ _ (Ne.symm bZ)).trans (kp b o bw e)
 | succ k ih =>
  intro j s vb c ek ej gs st pb zz fin
  have jn:j+1<n:=by omega
  refine codeAny_builtin PySem.F.entry_min_loop ?_
  rw[Around.under_plainId PySem.F.plain_min_loop _]
  show wpAny _ A.in1 (seqItems? (.ref Z) >>= _) _ _ s
  refine wpAny_bind (wpAny_seqItems zz rfl ?_)
  show wpAny _ A.in1 (tryCatch (pyNext (.ref J)) _ >>= _) _ _ s
  refine wpAny_bind (wpAny_tryCatch (W.item (j+1) s _ _ jn st λv h' tk pv st' kp=>?_))
  have zz':=kp Z _ zw zz
  have g1:G h':=GZ _ _ gs λb o bw _ e=>kp b o bw e
  show wpAny _ A.in1 (tryCatch (holding [v,v] (richCompare .Lt v vb >>= _)) _ >>= _) _ _ _
  refine wpAny_bind (wpAny_tryCatch (wpAny_holding (wpAny_bind (cmp (j+1) (argBest bt j) v vb _ _ _ g1 pv pb ?_))))
  refine wpAny_bind (wpAny_holding (wpAny_truthy_bool (wpAny_bind (wpAny_letGo (wpAny_pure ?_)))))
  cases hb:bt (j+1) (argBest bt j) with
  | true =>
   simp only[if_true]
   refine wpAny_bind (wpAny_updateSeq zz' rfl (wpAny_bind (wpAny_letGo ?_)))
   rw[nm]
   have oth:∀b,b≠Z->(h'.update Z (Obj.mapSeq λ_=>#[v,v])).get? b=h'.get? b:=λb hb=>Heap.get?_update_other _ _ (Ne.symm hb)
   refine wpAny_pure ⟨plainId_quiet PySem.F.plain_min_loop _,ih (j+1) _ v _ (by omega) jn (GZ _ _ g1 λb o _ bZ e=>(oth b bZ).trans e) (W.frame _ _ _ st' λb bf o e=>(oth b λz=>zf (z▸bf)).trans e) (by simp only[argBest,hb,if_true];exact pv) (Heap.get?_update_self _ zz' rfl)
    λv' h2 tk2 p2 kp2=>fin v' h2 tk2 p2 λb o bw bZ e=>kp2 b o bw bZ ((oth b bZ).trans (kp b o bw e))⟩
  | false =>
   simp only[Bool.false_eq_true,if_false]
   refine wpAny_bind (wpAny_letGo ?_)
   rw[nm]
   exact wpAny_pure ⟨plainId_quiet PySem.F.plain_min_loop _,ih (j+1) _ vb c (by omega) jn g1 st' (by simp only[argBest,hb,Bool.false_eq_true,if_false];exact pb) zz' λv' h2 tk2 p2 kp2=>fin v' h2 tk2 p2 λb o bw bZ e=>kp2 b o bw bZ (kp b o bw e)⟩
theorem min_first (W:Walks prog w A.in1 J fp wr n P St) (bt:Nat->Nat->Bool) (cmp:CmpAt prog w A.in1 G P bt) (Z:Addr) (zf:Z∉fp) (GZ:∀h h':Heap,G h->(∀b o,b∉wr->b≠Z->h.get? b=some o->h'.get? b=some o)->G h') (n0:0<n){s:Shared}{c:Nat}(gs:G s.heap) (st:St 0 s.heap)
  (zz:s.heap.get? Z=some { cls:=.type "list",dict:=none,data:=.seq #[] c,slots:=#[] })
  (fin:∀v h' tk,P (argBest bt (n - 1)) v->(∀b o,b∉wr->b≠Z->s.heap.get? b=some o->h'.get? b=some o)->R (.ok (.ret v)) { s with heap:=h',toks:=tk }):codeAny (model prog w) A (.builtin "min.loop" ⟨[.ref J,.none,.ref Z],[]⟩) R s:=by
 have zw:Z∉wr:=λh=>zf (W.sub _ h)
 have nm:(toString "min"++toString ".loop":String) = "min.loop":=by decide
 refine codeAny_builtin PySem.F.entry_min_loop ?_
 rw[Around.under_plainId PySem.F.plain_min_loop _]
 show wpAny _ A.in1 (seqItems? (.ref Z) >>= _) _ _ s
 refine wpAny_bind (wpAny_seqItems zz rfl ?_)
 show wpAny _ A.in1 (tryCatch (pyNext (.ref J)) _ >>= _) _ _ s
 refine wpAny_bind (wpAny_tryCatch (W.item 0 s _ _ n0 st λv h' tk pv st' kp=>?_))
 have zz':=kp Z _ zw zz
 have g1:G h':=GZ _ _ gs λb o bw _ e=>kp b o bw e
 show wpAny _ A.in1 (updateSeq Z (λ_=>#[v,v]) >>= _) _ _ _
 refine wpAny_bind (wpAny_updateSeq zz' rfl ?_)
 rw[nm]
 have oth:∀b,b≠Z->(h'.update Z (Obj.mapSeq λ_=>#[v,v])).get? b=h'.get? b:=λb hb=>Heap.get?_update_other _ _ (Ne.symm hb)
 exact wpAny_pure ⟨plainId_quiet PySem.F.plain_min_loop _,min_lp W bt cmp Z zf GZ _ 0 _ v _ rfl n0 (GZ _ _ g1 λb o _ bZ e=>(oth b bZ).trans e) (W.frame _ _ _ st' λb bf o e=>(oth b λz=>zf (z▸bf)).trans e) pv (Heap.get?_update_self _ zz' rfl)
  λv' h2 tk2 p2 kp2=>fin v' h2 tk2 p2 λb o bw bZ e=>kp2 b o bw bZ ((oth b bZ).trans (kp b o bw e))⟩
end
section
variable {prog:Program}{w:World}{A:Around}{E:Value->Shared->Prop}{s:Shared}
theorem call_minL {l:Addr}{its:Array Value}{bt:Nat->Nat->Bool}{G:Heap->Prop}{Q:Value->Shared->Prop}(hh:A.handled=none) (hl:s.heap.IsList l its) (n0:0<its.size) (cmp:CmpAt prog w A.in1 G (λi v=>its[i]?=some v) bt)
  (gs:∀h',(∀b o,s.heap.get? b=some o->h'.get? b=some o)->G h')
  (GZ:∀h h':Heap,G h->(∀b o,b<s.heap.objs.size->h.get? b=some o->h'.get? b=some o)->G h')
  (hq:∀v h' tk,its[argBest bt (its.size - 1)]?=some v->(∀b o,s.heap.get? b=some o->h'.get? b=some o)->Q v { s with heap:=h',toks:=tk }):wpAny (model prog w) A (call (.builtin "min") [.ref l]) Q E s:=by
 have nm:(toString "min"++toString ".loop":String) = "min.loop":=by decide
 refine call_function_tree PySem.F.kind_min PySem.F.plain_min PySem.F.entry_min (PySem.F.args_min1 _) ?_
 show wpAny _ A.in1 (Builtin.Builtins.bindParams "min" ["key","default"] 0 ⟨[],[]⟩ >>= _) _ _ s
 refine wpAny_bind (wpAny_of_eq (show Builtin.Builtins.bindParams "min" ["key","default"] 0 ⟨[],[]⟩=pure [none,none] from rfl) (wpAny_bind (wpAny_pure ?_)))
 have ll:l<s.heap.objs.size:=by obtain⟨_,e,_⟩:=hl;exact Heap.lt_size e
 refine wpAny_bind (wpAny_pyIter_list hl (wpAny_bind (wpAny_newObj_type ?_)))
 rw[nm]
 have sz:(s.heap.push { cls:=.type "list_iterator",data:=.fields #[.ref l,.int 0 0] }).objs.size=s.heap.objs.size+1:=Heap.size_push ..
 have zf:(s.heap.push { cls:=.type "list_iterator",data:=.fields #[.ref l,.int 0 0] }).objs.size∉[s.heap.objs.size,l]:=by
  rw[sz];simp only[List.mem_cons,List.not_mem_nil,or_false];intro z;rcases z with z | z
  ·exact absurd z (Nat.succ_ne_self _)
  ·exact absurd z.symm (Nat.ne_of_lt (Nat.lt_succ_of_lt ll))
 have W:=Walks.list (prog:=prog) (w:=w) (A:=A.in1) hh s.heap.objs.size l (Nat.ne_of_lt ll) its
 have st0:(s.heap.push { cls:=.type "list_iterator",data:=.fields #[.ref l,.int 0 0] }).IsListIter s.heap.objs.size l 0/\(s.heap.push { cls:=.type "list_iterator",data:=.fields #[.ref l,.int 0 0] }).IsList l its:=⟨⟨_,Heap.get?_push_size _ rfl,rfl,rfl⟩,hl.push _⟩
 refine wpAny_pure ⟨plainId_quiet PySem.F.plain_min_loop _,min_first W bt cmp _ zf (λh h' g k=>GZ h h' g λb o lt e=>k b o (by simp only[List.mem_cons,List.not_mem_nil,or_false];exact Nat.ne_of_lt lt) (by rw[sz];exact Nat.ne_of_lt (Nat.lt_succ_of_lt lt)) e) n0 (gs _ λb o e=>Heap.get?_push_of_some _ (Heap.get?_push_of_some _ e))
  (W.frame _ _ _ st0 λb _ o e=>Heap.get?_push_of_some _ e) (Heap.get?_push_size _ rfl) λv h' tk pv kp=>hq v h' tk pv λb o e=>?_⟩
 have lt:=Heap.lt_size e
 exact kp b o (by simp only[List.mem_cons,List.not_mem_nil,or_false];exact Nat.ne_of_lt lt) (by rw[sz];exact Nat.ne_of_lt (Nat.lt_succ_of_lt lt)) (Heap.get?_push_of_some _ (Heap.get?_push_of_some _ e))
end
end Tx
end
section
namespace Tm
open Tafl
theorem testBit_two_pow (c d:Nat):(2 ^ c).testBit d=decide (c=d):=by
 exact Nat.testBit_two_pow
theorem foldl_or_testBit (l:List Nat):∀(n d:Nat),(l.foldl (λ(n c:Nat)=>n ||| 2 ^ c) n).testBit d=(n.testBit d||decide (d∈l)):=by
 induction l with
 | nil=>intro n d;simp
 | cons c l ih =>
  intro n d
  rw[List.foldl_cons,ih,Nat.testBit_or,testBit_two_pow]
  by_cases h1:c=d
  ·subst h1;simp
  ·have h2:¬d=c:=λe=>h1 e.symm
   simp[h1,h2]
theorem setFrom_testBit (l:List Nat) (d:Nat):(setFrom l).testBit d=decide (d∈l):=by
 unfold setFrom
 rw[foldl_or_testBit]
 simp
theorem setFrom_lt {l:List Nat}(h:∀c∈l,c<GONE):setFrom l<2 ^ GONE:=by
 apply Nat.lt_pow_two_of_testBit
 intro i hi
 rw[setFrom_testBit]
 simp only[decide_eq_false_iff_not]
 intro hm
 have:=h i hm
 omega
theorem mem_cellsIn {n c:Nat}:c∈cellsIn n↔c<GONE/\n.testBit c=true:=by
 unfold cellsIn
 rw[List.mem_filter,List.mem_range]
theorem cellsIn_pairwise (n:Nat):(cellsIn n).Pairwise (· < ·):=by
 unfold cellsIn
 exact List.Pairwise.filter _ List.pairwise_lt_range
theorem rising_ext:∀ {l m:List Nat},l.Pairwise (· < ·)->m.Pairwise (· < ·)->(∀c,c∈l↔c∈m)->l=m
 | [],[],_,_,_=>rfl
 | [],b::m,_,_,h=>by have:=(h b).mpr List.mem_cons_self;simp at this
 | a::l,[],_,_,h=>by have:=(h a).mp List.mem_cons_self;simp at this
 | a::l,b::m,hl,hm,h=>by
  rw[List.pairwise_cons]at hl hm
  have hab:a=b:=by
   have h1:=(h a).mp List.mem_cons_self
   have h2:=(h b).mpr List.mem_cons_self
   rcases List.mem_cons.mp h1 with e | e
   ·exact e
   ·rcases List.mem_cons.mp h2 with e2 | e2
    ·exact e2.symm
    ·have x:=hl.1 b e2
     have y:=hm.1 a e
     omega
  subst hab
  have:l=m:=by
   refine rising_ext hl.2 hm.2 λc=>?_
   have hc:=h c
   simp only[List.mem_cons]at hc
   constructor
   ·intro q
    rcases hc.mp (.inr q) with e | e
    ·have:=hl.1 c q;omega
    ·exact e
   ·intro q
    rcases hc.mpr (.inr q) with e | e
    ·have:=hm.1 c q;omega
    ·exact e
  rw[this]
theorem cellsIn_setFrom {l m:List Nat}(hm:m.Pairwise (· < ·)) (hl:∀c∈l,c<GONE) (h:∀c,c∈m↔c∈l):cellsIn (setFrom l)=m:=by
 refine rising_ext (cellsIn_pairwise _) hm λc=>?_
 rw[mem_cellsIn,setFrom_testBit,h c]
 simp only[decide_eq_true_eq]
 exact⟨λq=>q.2,λq=>⟨hl c q,q⟩⟩
theorem cellsIn_setFrom_self {l:List Nat}(hl:l.Pairwise (· < ·)) (h:∀c∈l,c<GONE):cellsIn (setFrom l)=l :=
 cellsIn_setFrom hl h λ_=>Iff.rfl
theorem setFrom_cellsIn {n:Nat}(h:n<2 ^ GONE):setFrom (cellsIn n)=n:=by
 apply Nat.eq_of_testBit_eq
 intro i
 rw[setFrom_testBit]
 by_cases hi:i<GONE
 ·by_cases hb:n.testBit i=true
  ·rw[hb];simp[mem_cellsIn,hi,hb]
  ·simp[mem_cellsIn,hb]
 ·have:n.testBit i=false:=Nat.testBit_lt_two_pow (Nat.lt_of_lt_of_le h (Nat.pow_le_pow_right (by decide) (by omega)))
  rw[this];simp[mem_cellsIn,hi]
theorem setFrom_ext {l m:List Nat}(h:∀c,c∈l↔c∈m):setFrom l=setFrom m:=by
 apply Nat.eq_of_testBit_eq
 intro i
 rw[setFrom_testBit,setFrom_testBit]
 simp[h i]
def rising:List Int->Bool
 | []=>true
 | [_]=>true
 | a::b::l=>decide (a<b)&&rising (b::l)
theorem rising_iff:∀(l:List Int),rising l=true↔l.Pairwise (· < ·)
 | []=>by simp[rising]
 | [a]=>by simp[rising]
 | a::b::l=>by
  rw[rising,Bool.and_eq_true,rising_iff (b::l),List.pairwise_cons (a:=a)]
  simp only[decide_eq_true_eq]
  constructor
  ·rintro⟨h1,h2⟩
   refine⟨λc hc=>?_,h2⟩
   rcases List.mem_cons.mp hc with rfl | hc
   ·exact h1
   ·have:=(List.pairwise_cons.mp h2).1 c hc;omega
  ·rintro⟨h1,h2⟩
   exact⟨h1 b List.mem_cons_self,h2⟩
end Tm
end
section
namespace Tm
open Tafl
theorem begins_true {lo hi d k:Nat}(h0:0<d) (h6:hi<1000000) (h1:d*10 ^ k<=hi) (h2:lo<=d*10 ^ k+(10 ^ k - 1)):begins lo hi d=true:=by
 have hk:k<6:=by
  rcases Nat.lt_or_ge k 6 with h | h
  ·exact h
  ·have:10 ^ 6<=10 ^ k:=Nat.pow_le_pow_right (by decide) h
   have:1*10 ^ k<=d*10 ^ k:=Nat.mul_le_mul_right _ h0
   omega
 unfold begins
 rw[List.any_eq_true]
 exact⟨k,List.mem_range.mpr hk,by simp[h1,h2]⟩
theorem begins_false {lo hi d k:Nat}(h1:∀j,j<k->d*10 ^ j<=hi->¬lo<=d*10 ^ j+(10 ^ j - 1)) (h2:hi<d*10 ^ k):begins lo hi d=false:=by
 unfold begins
 rw[List.any_eq_false]
 intro j _ h
 simp only[Bool.and_eq_true,decide_eq_true_eq]at h
 rcases Nat.lt_or_ge j k with q | q
 ·exact h1 j q h.1 h.2
 ·have:d*10 ^ k<=d*10 ^ j:=Nat.mul_le_mul_left _ (Nat.pow_le_pow_right (by decide) q)
  omega
theorem begins_le {lo hi d:Nat}(h:begins lo hi d=true):d<=hi:=by
 unfold begins at h
 rw[List.any_eq_true]at h
 obtain⟨k,_,h⟩:=h
 simp only[Bool.and_eq_true,decide_eq_true_eq]at h
 have:d*1<=d*10 ^ k:=Nat.mul_le_mul_left _ (Nat.one_le_pow _ _ (by decide))
 omega
theorem begins_one {hi d:Nat}(h0:0<d):begins 1 hi d=decide (d<=hi):=by
 by_cases h:d<=hi
 ·rw[decide_eq_true h]
  unfold begins
  rw[List.any_eq_true]
  exact⟨0,List.mem_range.mpr (by decide),by simp[h];omega⟩
 ·rw[decide_eq_false h]
  exact begins_false (k:=0) (λj hj=>absurd hj (by omega)) (by simpa using Nat.lt_of_not_le h)
def digit? (c:Cur):Option Nat:=match c.next with
 | some x=>if isDigit x=true then some (x.toNat - 48) else none
 | none=>none
def goesOn (lo hi d:Nat) (c:Cur):Option Nat:=match digit? c with
 | some e=>if 0<10*d+e/\begins lo hi (10*d+e)=true then some (10*d+e) else none
 | none=>none
theorem numberFrom_go {lo hi f d n:Nat}{c:Cur}(h:goesOn lo hi d c=some n):numberFrom lo hi (f+1) d c=numberFrom lo hi f n c.on:=by
 unfold goesOn digit? at h
 unfold numberFrom
 cases hx:c.next with
 | none=>rw[hx]at h;simp at h
 | some x =>
  rw[hx]at h
  dsimp only at h ⊢
  by_cases hd:isDigit x=true
  ·rw[if_pos hd]at h
   dsimp only at h
   split at h
   ·rename_i q
    rw[if_pos ⟨hd,q⟩]
    cases h
    cases f <;> rfl
   ·cases h
  ·rw[if_neg hd]at h
   cases h
theorem numberFrom_stop {lo hi f d:Nat}{c:Cur}(h:goesOn lo hi d c=none):numberFrom lo hi (f+1) d c=if lo<=d/\d<=hi then .ok (d,c) else .error c.at_:=by
 unfold goesOn digit? at h
 unfold numberFrom
 cases hx:c.next with
 | none=>rfl
 | some x =>
  rw[hx]at h
  dsimp only at h ⊢
  by_cases hd:isDigit x=true
  ·rw[if_pos hd]at h
   dsimp only at h
   split at h
   ·cases h
   ·rename_i q
    rw[if_neg λz=>q z.2]
  ·rw[if_neg λz=>hd z.1]
structure NumAt (lo hi:Nat) (c0:Cur) (d:Nat) (c:Cur) (n:Nat):Prop where
 eq:number lo hi c0=numberFrom lo hi (6 - n) d c
 few:n<=5
 big:n=0/\d=0\/0<n/\10 ^ (n - 1)<=d
 small:d<=hi
theorem NumAt.start (lo hi:Nat) (c:Cur):NumAt lo hi c 0 c 0:=⟨rfl,by decide,.inl ⟨rfl,rfl⟩,Nat.zero_le _⟩
theorem goesOn_le {lo hi d n:Nat}{c:Cur}(h:goesOn lo hi d c=some n):n<=hi/\0<n/\10*d<=n:=by
 unfold goesOn at h
 split at h
 ·split at h
  ·rename_i q
   cases h
   exact⟨begins_le q.2,q.1,Nat.le_add_right _ _⟩
  ·cases h
 ·cases h
theorem NumAt.turn {lo hi:Nat}{c0 c:Cur}{d n m:Nat}(h5:hi<100000) (N:NumAt lo hi c0 d c n) (h:goesOn lo hi d c=some m):NumAt lo hi c0 m c.on (n+1):=by
 obtain⟨e,few,big,_⟩:=N
 obtain⟨q1,q2,q3⟩:=goesOn_le h
 have hb:10 ^ n<=m:=by
  rcases big with⟨rfl,_⟩|⟨hn,hd⟩
  ·rw[Nat.pow_zero];exact q2
  ·have:10 ^ n=10*10 ^ (n - 1):=by
    obtain⟨k,rfl⟩:∃k,n=k+1:=⟨n - 1,by omega⟩
    rw[Nat.pow_succ,Nat.mul_comm];rfl
   omega
 have hn:n<5:=by
  rcases Nat.lt_or_ge n 5 with h | h
  ·exact h
  ·have:10 ^ 5<=10 ^ n:=Nat.pow_le_pow_right (by decide) h
   omega
 refine⟨?_,hn,.inr ⟨Nat.succ_pos _,by simpa using hb⟩,q1⟩
 rw[e]
 obtain⟨k,hk⟩:∃k,6 - n=k+1:=⟨5 - n,by omega⟩
 rw[hk,numberFrom_go h]
 congr 1
 omega
theorem NumAt.fin {lo hi:Nat}{c0 c:Cur}{d n:Nat}(N:NumAt lo hi c0 d c n) (h:goesOn lo hi d c=none):number lo hi c0=if lo<=d/\d<=hi then .ok (d,c) else .error c.at_:=by
 obtain⟨e,few,_⟩:=N
 rw[e]
 obtain⟨k,hk⟩:∃k,6 - n=k+1:=⟨5 - n,by omega⟩
 rw[hk,numberFrom_stop h]
theorem runIn_number {left:Nat}{c:Cur}(h1:1<=left) (h13:left<=13):runIn left c=number 1 left c:=by
 have key:∀ {d:Nat}{c:Cur},goesOn 1 left d c=match digit? c with | some e=>if 0<10*d+e/\10*d+e<=left then some (10*d+e) else none | none=>none:=by
  intro d c
  unfold goesOn
  cases digit? c with
  | none=>rfl
  | some e =>
   dsimp only
   by_cases h0:0<10*d+e
   ·rw[begins_one h0]
    simp only[decide_eq_true_eq]
   ·rw[if_neg λz=>h0 z.1,if_neg λz=>h0 z.1]
 have N0:=NumAt.start 1 left c
 unfold runIn
 cases hx:c.next with
 | none =>
  have g:goesOn 1 left 0 c=none:=by rw[key];unfold digit?;rw[hx]
  rw[N0.fin g,if_neg (by omega)]
 | some x =>
  dsimp only
  by_cases hd:isDigit x=true/\1<=x.toNat - 48/\x.toNat - 48<=left
  ·rw[if_pos hd]
   have g:goesOn 1 left 0 c=some (x.toNat - 48):=by
    rw[key];unfold digit?;rw[hx];dsimp only;rw[if_pos hd.1];dsimp only
    rw[if_pos (by omega)]
    simp
   have N1:=N0.turn (by omega) g
   cases hy:c.on.next with
   | none =>
    have g:goesOn 1 left (x.toNat - 48) c.on=none:=by rw[key];unfold digit?;rw[hy]
    rw[N1.fin g,if_pos (by omega)]
   | some y =>
    dsimp only
    by_cases he:isDigit y=true/\x.toNat - 48=1/\10+(y.toNat - 48)<=left
    ·rw[if_pos he]
     have g:goesOn 1 left (x.toNat - 48) c.on=some (10+(y.toNat - 48)):=by
      rw[key];unfold digit?;rw[hy];dsimp only;rw[if_pos he.1];dsimp only
      rw[he.2.1,if_pos (by omega)]
     have N2:=N1.turn (by omega) g
     have g:goesOn 1 left (10+(y.toNat - 48)) c.on.on=none:=by
      rw[key]
      cases digit? c.on.on with
      | none=>rfl
      | some e=>dsimp only;rw[if_neg (by omega)]
     rw[N2.fin g,if_pos (by omega)]
    ·rw[if_neg he]
     have g:goesOn 1 left (x.toNat - 48) c.on=none:=by
      rw[key];unfold digit?;rw[hy];dsimp only
      by_cases hyd:isDigit y=true
      ·rw[if_pos hyd];dsimp only
       rw[if_neg]
       intro z
       exact he ⟨hyd,by omega,by omega⟩
      ·rw[if_neg hyd]
     rw[N1.fin g,if_pos (by omega)]
  ·rw[if_neg hd]
   have g:goesOn 1 left 0 c=none:=by
    rw[key];unfold digit?;rw[hx];dsimp only
    by_cases hxd:isDigit x=true
    ·rw[if_pos hxd];dsimp only
     rw[if_neg]
     intro z
     exact hd ⟨hxd,by omega,by omega⟩
    ·rw[if_neg hxd]
   rw[N0.fin g,if_neg (by omega)]
def wordsLeft (ws:List Bytes) (left:List Nat) (k:Nat):List (Nat×Bytes):=left.map λi=>(i,(ws.getD i []).drop k)
theorem word_start (l:List String) (c:Cur):word l c=oneOf 16 (wordsLeft (l.map ascii) (List.range l.length) 0) c:=by
 unfold word wordsLeft
 congr 1
 apply List.map_congr_left
 intro i hi
 rw[List.mem_range]at hi
 simp[List.getD,hi]
theorem find_left (ws:List Bytes) (k:Nat):∀left:List Nat,((wordsLeft ws left k).find? λw=>w.2.isEmpty)=(left.find? λi=>decide ((ws.getD i []).length<=k)).map λi=>(i,(ws.getD i []).drop k)
 | []=>rfl
 | i::left=>by
  have ih:=find_left ws k left
  unfold wordsLeft at ih ⊢
  rw[List.map_cons,List.find?_cons,List.find?_cons]
  by_cases h:(ws.getD i []).length<=k
  ·have:((ws.getD i []).drop k).isEmpty=true:=by rw[List.drop_eq_nil_of_le h];rfl
   rw[decide_eq_true h]
   dsimp only
   rw[this]
   rfl
  ·have:((ws.getD i []).drop k).isEmpty=false:=by
    rw[List.isEmpty_eq_false_iff]
    intro e
    rw[List.drop_eq_nil_iff]at e
    exact h e
   rw[decide_eq_false h]
   dsimp only
   rw[this]
   exact ih
theorem filter_left (ws:List Bytes) (k:Nat) (x:UInt8):∀left:List Nat,((wordsLeft ws left k).filterMap λw=>if w.2.head?=some x then some (w.1,w.2.drop 1) else none) =
  wordsLeft ws (left.filter λi=>decide ((ws.getD i [])[k]?=some x)) (k+1)
 | []=>rfl
 | i::left=>by
  have ih:=filter_left ws k x left
  unfold wordsLeft at ih ⊢
  rw[List.map_cons,List.filterMap_cons,List.filter_cons]
  by_cases h:(ws.getD i [])[k]?=some x
  ·dsimp only
   rw[List.head?_drop,if_pos h,decide_eq_true h,if_pos rfl,List.map_cons,ih]
   simp[List.drop_drop]
  ·dsimp only
   rw[List.head?_drop,if_neg h,decide_eq_false h,if_neg (by decide),ih]
theorem oneOf_hit {ws:List Bytes}{left:List Nat}{k f i:Nat}{c:Cur}(h:(left.find? λi=>decide ((ws.getD i []).length<=k))=some i):oneOf (f+1) (wordsLeft ws left k) c=.ok (i,c):=by
 unfold oneOf
 rw[find_left,h]
 rfl
theorem oneOf_go {ws:List Bytes}{left:List Nat}{k f:Nat}{x:UInt8}{c:Cur}(h:(left.find? λi=>decide ((ws.getD i []).length<=k))=none) (hx:c.next=some x)
  (hl:(left.filter λi=>decide ((ws.getD i [])[k]?=some x))≠[]):oneOf (f+1) (wordsLeft ws left k) c=oneOf f (wordsLeft ws (left.filter λi=>decide ((ws.getD i [])[k]?=some x)) (k+1)) c.on:=by
 unfold oneOf
 rw[find_left,h,hx]
 dsimp only[Option.map_none]
 rw[filter_left]
 have:(wordsLeft ws (left.filter λi=>decide ((ws.getD i [])[k]?=some x)) (k+1)).isEmpty=false:=by
  unfold wordsLeft
  rw[List.isEmpty_eq_false_iff]
  intro e
  exact hl (List.map_eq_nil_iff.mp e)
 rw[this]
 cases f <;> rfl
theorem oneOf_stuck {ws:List Bytes}{left:List Nat}{k f:Nat}{x:UInt8}{c:Cur}(h:(left.find? λi=>decide ((ws.getD i []).length<=k))=none) (hx:c.next=some x)
  (hl:(left.filter λi=>decide ((ws.getD i [])[k]?=some x))=[]):oneOf (f+1) (wordsLeft ws left k) c=.error c.at_:=by
 unfold oneOf
 rw[find_left,h,hx]
 dsimp only[Option.map_none]
 rw[filter_left,hl]
 rfl
theorem oneOf_end {ws:List Bytes}{left:List Nat}{k f:Nat}{c:Cur}(h:(left.find? λi=>decide ((ws.getD i []).length<=k))=none) (hx:c.next=none):oneOf (f+1) (wordsLeft ws left k) c=.error c.at_:=by
 unfold oneOf
 rw[find_left,h,hx]
 rfl
end Tm
end
section
namespace Tm
open Tafl
theorem except_map_map {ε α β γ:Type}(e:Except ε α) (f:α->β) (g:β->γ):(e.map f).map g=e.map λx=>g (f x):=by
 cases e <;> rfl
theorem except_map_id {ε α:Type}(e:Except ε α):e.map (λx=>x)=e:=by
 cases e <;> rfl
section
variable {α:Type}{sg:UInt8->Option α}
theorem rowIn_go {n:Nat}{c:Cur}{k:α}(h:c.next.bind sg=some k):rowIn sg (n+1) c=(rowIn sg n c.on).map λr=>(k::r.1,r.2):=by
 rw[rowIn];rw[h]
theorem rowIn_stuck {n:Nat}{c:Cur}(h:c.next.bind sg=none):rowIn sg (n+1) c=.error c.at_:=by
 rw[rowIn];rw[h]
structure RowAt (sg:UInt8->Option α) (wide:Nat) (c0:Cur) (x:Nat) (pre:List α) (c:Cur):Prop where
 eq:rowIn sg wide c0=(rowIn sg (wide - x) c).map λr=>(pre++r.1,r.2)
 len:pre.length=x
 le:x<=wide
 pl:c.at_=c0.at_+x
theorem RowAt.start (wide:Nat) (c:Cur):RowAt sg wide c 0 [] c:=⟨by simp only[List.nil_append];exact (except_map_id _).symm,rfl,Nat.zero_le _,rfl⟩
theorem RowAt.turn {wide x:Nat}{c0 c:Cur}{pre:List α}{k:α}(R:RowAt sg wide c0 x pre c) (hx:x<wide) (h:c.next.bind sg=some k):RowAt sg wide c0 (x+1) (pre++[k]) c.on:=by
 refine⟨?_,by simp[R.len],hx,by show c.at_+1=_;rw[R.pl];omega⟩
 obtain⟨j,hj⟩:∃j,wide - x=j+1:=⟨wide - x - 1,by omega⟩
 have hj':wide - (x+1)=j:=by omega
 rw[R.eq,hj,rowIn_go h,except_map_map,hj']
 congr 1
 funext r
 simp
theorem RowAt.stuck {wide x:Nat}{c0 c:Cur}{pre:List α}(R:RowAt sg wide c0 x pre c) (hx:x<wide) (h:c.next.bind sg=none):rowIn sg wide c0=.error c.at_:=by
 obtain⟨j,hj⟩:∃j,wide - x=j+1:=⟨wide - x - 1,by omega⟩
 rw[R.eq,hj,rowIn_stuck h]
 rfl
theorem RowAt.fin {wide:Nat}{c0 c d:Cur}{pre:List α}(R:RowAt sg wide c0 wide pre c) (h:lit [LF] c=.ok d):rowIn sg wide c0=.ok (pre,d):=by
 rw[R.eq,Nat.sub_self,rowIn,h]
 show Except.ok (pre++[],d)=_
 rw[List.append_nil]
theorem RowAt.finE {wide p:Nat}{c0 c:Cur}{pre:List α}(R:RowAt sg wide c0 wide pre c) (h:lit [LF] c=.error p):rowIn sg wide c0=.error p:=by
 rw[R.eq,Nat.sub_self,rowIn,h]
 rfl
structure RowsAt (sg:UInt8->Option α) (wide high:Nat) (c0:Cur) (i:Nat) (rows:List (List α)) (ats:List Nat) (c:Cur):Prop where
 eq:rowsIn sg wide high c0=(rowsIn sg wide (high - i) c).map λr=>(rows++r.1,ats++r.2.1,r.2.2)
 len:rows.length=i
 lenA:ats.length=i
 le:i<=high
 wid:∀r∈rows,r.length=wide
theorem RowsAt.start (wide high:Nat) (c:Cur):RowsAt sg wide high c 0 [] [] c:=⟨by simp only[List.nil_append];exact (except_map_id _).symm,rfl,rfl,Nat.zero_le _,λ_ h=>absurd h (by simp)⟩
theorem rowsIn_go {wide n:Nat}{c d:Cur}{r:List α}(h:rowIn sg wide c=.ok (r,d)):rowsIn sg wide (n+1) c=(rowsIn sg wide n d).map λl=>(r::l.1,c.at_::l.2.1,l.2.2):=by
 rw[rowsIn,h]
 show (do let (l,ps,e) <- rowsIn sg wide n d;return (r::l,c.at_::ps,e))=_
 cases rowsIn sg wide n d <;> rfl
theorem rowsIn_stuck {wide n p:Nat}{c:Cur}(h:rowIn sg wide c=.error p):rowsIn sg wide (n+1) c=.error p:=by
 rw[rowsIn,h]
 rfl
theorem RowsAt.turn {wide high i:Nat}{c0 c d:Cur}{rows:List (List α)}{ats:List Nat}{r:List α}(R:RowsAt sg wide high c0 i rows ats c) (hi:i<high) (h:rowIn sg wide c=.ok (r,d)) (hr:r.length=wide) :
  RowsAt sg wide high c0 (i+1) (rows++[r]) (ats++[c.at_]) d:=by
 refine⟨?_,by simp[R.len],by simp[R.lenA],hi,λq hq=>?_⟩
 ·obtain⟨j,hj⟩:∃j,high - i=j+1:=⟨high - i - 1,by omega⟩
  have hj':high - (i+1)=j:=by omega
  rw[R.eq,hj,rowsIn_go h,except_map_map,hj']
  congr 1
  funext r
  simp
 ·rcases List.mem_append.mp hq with q1 | q1
  ·exact R.wid q q1
  ·rw[List.mem_singleton.mp q1];exact hr
theorem RowsAt.stuck {wide high i p:Nat}{c0 c:Cur}{rows:List (List α)}{ats:List Nat}(R:RowsAt sg wide high c0 i rows ats c) (hi:i<high) (h:rowIn sg wide c=.error p):rowsIn sg wide high c0=.error p:=by
 obtain⟨j,hj⟩:∃j,high - i=j+1:=⟨high - i - 1,by omega⟩
 rw[R.eq,hj,rowsIn_stuck h]
 rfl
theorem RowsAt.fin {wide high:Nat}{c0 c:Cur}{rows:List (List α)}{ats:List Nat}(R:RowsAt sg wide high c0 high rows ats c):rowsIn sg wide high c0=.ok (rows,ats,c):=by
 rw[R.eq,Nat.sub_self]
 show Except.ok (rows++[],ats++[],c)=_
 rw[List.append_nil,List.append_nil]
end
abbrev Mk:=Nat×Nat×Nat
def rowMarks {α:Type}(num:α->Nat) (d:α) (high i at_:Nat) (row:List α) (x:Nat):List Mk:=(List.range x).map λj=>(at_+j,cellOf j (high - 1 - i),num (row.getD j d))
def rowsMarks {α:Type}(num:α->Nat) (d:α) (wide high:Nat) (rows:List (List α)) (ats:List Nat) (i:Nat):List Mk:=(List.range i).flatMap λk=>rowMarks num d high k (ats.getD k 0) (rows.getD k []) wide
section
variable {α:Type}{num:α->Nat}{d:α}
theorem rowMarks_zero (high i at_:Nat) (row:List α):rowMarks num d high i at_ row 0=[]:=rfl
theorem rowMarks_succ {high i at_ x:Nat}{pre:List α}{k:α}(hx:pre.length=x):rowMarks num d high i at_ pre x++[(at_+x,cellOf x (high - 1 - i),num k)]=rowMarks num d high i at_ (pre++[k]) (x+1):=by
 unfold rowMarks
 rw[List.range_succ,List.map_append,List.map_singleton]
 congr 1
 ·apply List.map_congr_left
  intro j hj
  rw[List.mem_range]at hj
  rw[List.getD,List.getD,List.getElem?_append_left (by omega)]
 ·rw[List.getD,List.getElem?_append_right (by omega),hx]
  simp
theorem rowsMarks_succ {wide high i at_:Nat}{rows:List (List α)}{ats:List Nat}{r:List α}(hl:rows.length=i) (ha:ats.length=i) :
  rowsMarks num d wide high rows ats i++rowMarks num d high i at_ r wide=rowsMarks num d wide high (rows++[r]) (ats++[at_]) (i+1):=by
 unfold rowsMarks
 rw[List.range_succ,List.flatMap_append,List.flatMap_singleton]
 congr 1
 ·rw[List.flatMap_def,List.flatMap_def]
  congr 1
  apply List.map_congr_left
  intro j hj
  rw[List.mem_range]at hj
  rw[List.getD,List.getD,List.getD,List.getD,List.getElem?_append_left (by omega),List.getElem?_append_left (by omega)]
 ·rw[List.getD,List.getD,List.getElem?_append_right (by omega),List.getElem?_append_right (by omega),hl,ha]
  simp
end
end Tm
end
section
namespace Tm
open Tafl
def kindNum:Kind->Nat
 | .plain=>0
 | .seat=>1
 | .exit=>2
 | .wall=>3
def pieceNum:Piece->Nat
 | .none=>0
 | .hunter=>1
 | .man=>2
 | .king=>3
theorem kindNum_inj {a b:Kind}:kindNum a=kindNum b↔a=b:=by cases a <;> cases b <;> decide
theorem pieceNum_inj {a b:Piece}:pieceNum a=pieceNum b↔a=b:=by cases a <;> cases b <;> decide
def groundMarks (r:Rules):List Mk:=rowsMarks kindNum .wall r.wide r.high r.ground r.groundAt r.high
def startMarks (r:Rules):List Mk:=rowsMarks pieceNum .none r.wide r.high r.start r.startAt r.high
theorem marks_written {α:Type}(num:α->Nat) (d:α) (r:Rules) (rows:List (List α)) (ats:List Nat) :
  rowsMarks num d r.wide r.high rows ats r.high=r.asWritten.map λp=>(ats.getD (r.high - 1 - p.2) 0+p.1,cellOf p.1 p.2,num (at_ d rows r.high p.1 p.2)):=by
 unfold rowsMarks Rules.asWritten rowMarks at_
 rw[List.map_flatMap,List.flatMap_def,List.flatMap_def]
 congr 1
 apply List.map_congr_left
 intro i hi
 rw[List.mem_range]at hi
 have e:r.high - 1 - (r.high - 1 - i)=i:=by omega
 rw[List.map_map]
 apply List.map_congr_left
 intro x _
 dsimp only[Function.comp]
 rw[e]
theorem groundMarks_eq (r:Rules):groundMarks r=r.asWritten.map λp=>(r.groundPlace p,cellOf p.1 p.2,kindNum (r.kind p.1 p.2)):=marks_written _ _ r _ _
theorem startMarks_eq (r:Rules):startMarks r=r.asWritten.map λp=>(r.startPlace p,cellOf p.1 p.2,pieceNum (r.piece p.1 p.2)):=marks_written _ _ r _ _
theorem mem_asWritten {r:Rules}{p:Nat×Nat}:p∈r.asWritten↔p.1<r.wide/\p.2<r.high:=by
 unfold Rules.asWritten
 simp only[List.mem_flatMap,List.mem_range,List.mem_map]
 constructor
 ·rintro⟨i,hi,x,hx,rfl⟩
  exact⟨hx,by dsimp only;omega⟩
 ·rintro⟨h1,h2⟩
  refine⟨r.high - 1 - p.2,by omega,p.1,h1,?_⟩
  have e:r.high - 1 - (r.high - 1 - p.2)=p.2:=by omega
  rw[e]
theorem mem_cells {r:Rules}{p:Nat×Nat}:p∈r.cells↔p.1<r.wide/\p.2<r.high:=by
 unfold Rules.cells cellsOf
 simp only[List.mem_flatMap,List.mem_range,List.mem_map]
 constructor
 ·rintro⟨y,hy,x,hx,rfl⟩
  exact⟨hx,hy⟩
 ·rintro⟨h1,h2⟩
  exact⟨p.2,h2,p.1,h1,rfl⟩
theorem any_cells (r:Rules) (f:Nat×Nat->Bool):r.cells.any f=r.asWritten.any f:=by
 rw[Bool.eq_iff_iff,List.any_eq_true,List.any_eq_true]
 constructor
 ·rintro⟨p,h1,h2⟩
  exact⟨p,mem_asWritten.mpr (mem_cells.mp h1),h2⟩
 ·rintro⟨p,h1,h2⟩
  exact⟨p,mem_cells.mpr (mem_asWritten.mp h1),h2⟩
theorem cell_mod {x y:Nat}(h:x<13):cellOf x y % 13=x:=by
 unfold cellOf STRIDE;omega
theorem cell_div {x y:Nat}(h:x<13):cellOf x y / 13=y:=by
 unfold cellOf STRIDE;omega
theorem cell_inj {p q:Nat×Nat}(h1:p.1<13) (h2:q.1<13) (h:cellOf p.1 p.2=cellOf q.1 q.2):p=q:=by
 obtain⟨a,b⟩:=p
 obtain⟨c,d⟩:=q
 unfold cellOf STRIDE at h
 have:a=c:=by dsimp only at *;omega
 have:b=d:=by dsimp only at *;omega
 subst_vars
 rfl
def kindN (r:Rules) (c:Nat):Option Nat:=if r.isCell c=true then some (kindNum (r.kind (c % 13) (c / 13))) else none
theorem isCell_cell {r:Rules}{p:Nat×Nat}(hw:r.wide<=13) (h:p.1<r.wide/\p.2<r.high):r.isCell (cellOf p.1 p.2)=true:=by
 unfold Rules.isCell
 have e1:cellOf p.1 p.2 % STRIDE=p.1:=cell_mod (by omega)
 have e2:cellOf p.1 p.2 / STRIDE=p.2:=cell_div (by omega)
 rw[e1,e2]
 simp[h.1,h.2]
theorem kindN_cell {r:Rules}{p:Nat×Nat}(hw:r.wide<=13) (h:p∈r.asWritten):kindN r (cellOf p.1 p.2)=some (kindNum (r.kind p.1 p.2)):=by
 have h':=mem_asWritten.mp h
 unfold kindN
 rw[if_pos (isCell_cell hw h'),cell_mod (by omega),cell_div (by omega)]
theorem kindN_some {r:Rules}{c k:Nat}(h:kindN r c=some k):∃p,p∈r.asWritten/\cellOf p.1 p.2=c/\kindNum (r.kind p.1 p.2)=k:=by
 unfold kindN at h
 split at h
 ·rename_i q
  cases h
  unfold Rules.isCell STRIDE at q
  simp only[Bool.and_eq_true,decide_eq_true_eq]at q
  exact⟨(c % 13,c / 13),mem_asWritten.mpr q,by unfold cellOf STRIDE;dsimp only;omega,rfl⟩
 ·cases h
def mayStandN (k:Option Nat) (piece:Nat):Bool:=match k with
 | none=>false
 | some k=>if k=0 then true else decide (piece=3)&&!decide (k=3)
theorem mayStand_N {r:Rules}{c:Nat}{p:Piece}(hp:p≠.none):mayStandN (kindN r c) (pieceNum p)=mayStand p (r.kindAt c):=by
 unfold kindN Rules.kindAt STRIDE
 by_cases h:r.isCell c=true
 ·rw[if_pos h,if_pos h]
  cases r.kind (c % 13) (c / 13) <;> cases p <;> first | rfl | exact absurd rfl hp
 ·rw[if_neg h,if_neg h]
  cases p <;> rfl
def mayBeginN (kd:Nat->Option Nat) (m:Mk):Bool:=if m.2.2=0 then true else if m.2.2=3/\kd m.2.1=some 2 then false else mayStandN (kd m.2.1) m.2.2
theorem mayBegin_N {r:Rules}{p:Nat×Nat}{pl:Nat}(hw:r.wide<=13) (h:p∈r.asWritten):(!mayBeginN (kindN r) (pl,cellOf p.1 p.2,pieceNum (r.piece p.1 p.2)))=r.misplaced p:=by
 unfold mayBeginN Rules.misplaced
 dsimp only
 rw[kindN_cell hw h]
 cases r.piece p.1 p.2 <;> cases r.kind p.1 p.2 <;> rfl
def onEdgeN (wide high c:Nat):Bool:=decide (c % 13=0)||(decide (c / 13=0)||(decide (c % 13+1=wide)||decide (c / 13+1=high)))
def withSign (l:List Mk) (k:Nat):List Mk:=l.filter λm=>decide (m.2.2=k)
def goalAmissN (gm sm:List Mk) (wide high goal:Nat):Bool:=if goal=1 then decide ((withSign gm 2).length=0) else match (withSign sm 3).head? with
 | some m=>onEdgeN wide high m.2.1
 | none=>false
def missingN (gm sm:List Mk) (passed seat:Nat):Bool:=decide ((withSign sm 3).length=0)||(decide ((withSign sm 1).length=0)||((!decide (passed=1)||!decide (seat=0))&&decide ((withSign gm 1).length=0)))
def faultsN (gm sm:List Mk) (kd:Nat->Option Nat) (wide high goal goalAt passed seat len:Nat):List (Nat×Nat) :=
 ((withSign gm 1).drop 1).map (λm=>(m.1,2))++((sm.filter λm=>!mayBeginN kd m).map (λm=>(m.1,3))++(((withSign sm 3).drop 1).map (λm=>(m.1,4)) ++
  ((if goalAmissN gm sm wide high goal=true then [(goalAt,5)] else [])++(if missingN gm sm passed seat=true then [(len,6)] else []))))
theorem withSign_map {r:Rules}{f:Nat×Nat->Mk}{g:Nat×Nat->Bool}{k:Nat}(h:∀p∈r.asWritten,decide ((f p).2.2=k)=g p):withSign (r.asWritten.map f) k=(r.asWritten.filter g).map f:=by
 unfold withSign
 rw[List.filter_map]
 congr 1
 apply List.filter_congr
 intro p hp
 exact h p hp
theorem seats_eq (r:Rules):withSign (groundMarks r) 1=r.seats.map λp=>(r.groundPlace p,cellOf p.1 p.2,kindNum (r.kind p.1 p.2)):=by
 rw[groundMarks_eq]
 refine withSign_map λp _=>?_
 dsimp only
 cases r.kind p.1 p.2 <;> rfl
theorem exits_eq (r:Rules):withSign (groundMarks r) 2=(r.asWritten.filter λp=>r.kind p.1 p.2 == .exit).map λp=>(r.groundPlace p,cellOf p.1 p.2,kindNum (r.kind p.1 p.2)):=by
 rw[groundMarks_eq]
 refine withSign_map λp _=>?_
 dsimp only
 cases r.kind p.1 p.2 <;> rfl
theorem kings_eq (r:Rules):withSign (startMarks r) 3=r.kings.map λp=>(r.startPlace p,cellOf p.1 p.2,pieceNum (r.piece p.1 p.2)):=by
 rw[startMarks_eq]
 refine withSign_map λp _=>?_
 dsimp only
 cases r.piece p.1 p.2 <;> rfl
theorem hunters_eq (r:Rules):withSign (startMarks r) 1=(r.asWritten.filter λp=>r.piece p.1 p.2 == .hunter).map λp=>(r.startPlace p,cellOf p.1 p.2,pieceNum (r.piece p.1 p.2)):=by
 rw[startMarks_eq]
 refine withSign_map λp _=>?_
 dsimp only
 cases r.piece p.1 p.2 <;> rfl
theorem filter_len {α:Type}(l:List α) (f:α->Bool):(l.filter f).length=0↔l.any f=false:=by
 rw[List.length_eq_zero_iff,List.filter_eq_nil_iff,List.any_eq_false]
theorem goalAmiss_eq {r:Rules}(hw:r.wide<=13) (hg:r.goal=0\/r.goal=1):goalAmissN (groundMarks r) (startMarks r) r.wide r.high r.goal=true ↔
  (r.goal=1/\(r.cells.any λp=>r.kind p.1 p.2 == .exit)=false)\/(r.goal=0/\(r.kings.take 1).any r.onEdge=true):=by
 unfold goalAmissN
 rcases hg with hg | hg
 ·rw[if_neg (by omega),kings_eq]
  have hk:∀p∈r.kings,p∈r.asWritten:=λp hp=>(List.mem_filter.mp hp).1
  cases e:r.kings with
  | nil=>simp[hg]
  | cons p l =>
   have hp:=mem_asWritten.mp (hk p (by rw[e];exact List.mem_cons_self))
   simp only[List.map_cons,List.head?_cons,List.take_succ_cons,List.take_zero,List.any_cons,List.any_nil,Bool.or_false,hg,true_and]
   have:onEdgeN r.wide r.high (cellOf p.1 p.2)=r.onEdge p:=by
    unfold onEdgeN Rules.onEdge
    rw[cell_mod (by omega),cell_div (by omega)]
    simp only[Bool.beq_eq_decide_eq,Bool.or_assoc]
   rw[this]
   simp
 ·rw[if_pos hg,exits_eq,List.length_map]
  simp only[decide_eq_true_eq]
  rw[filter_len,any_cells]
  simp[hg]
theorem missing_eq {r:Rules}{passed:Nat}(hp:passed=1↔r.passed=true):missingN (groundMarks r) (startMarks r) passed r.seat=true ↔
  (r.kings=[]\/(r.cells.any λp=>r.piece p.1 p.2 == .hunter)=false\/(r.seats=[]/\¬(r.passed=true/\r.seat=0))):=by
 unfold missingN
 rw[kings_eq,hunters_eq,seats_eq,List.length_map,List.length_map,List.length_map]
 simp only[Bool.or_eq_true,Bool.and_eq_true,decide_eq_true_eq,Bool.not_eq_true',decide_eq_false_iff_not]
 rw[filter_len,any_cells,List.length_eq_zero_iff,List.length_eq_zero_iff,hp]
 constructor
 ·rintro (h | h | ⟨h1,h2⟩)
  ·exact .inl h
  ·exact .inr (.inl h)
  ·refine .inr (.inr ⟨h2,λz=>?_⟩)
   rcases h1 with q | q
   ·exact q z.1
   ·exact q z.2
 ·rintro (h | h | ⟨h1,h2⟩)
  ·exact .inl h
  ·exact .inr (.inl h)
  ·refine .inr (.inr ⟨?_,h1⟩)
   by_cases q:r.passed=true
   ·exact .inr λz=>h2 ⟨q,z⟩
   ·exact .inl q
theorem faults_eq {r:Rules}{len passed:Nat}(hw:r.wide<=13) (hg:r.goal=0\/r.goal=1) (hp:passed=1↔r.passed=true) :
  faultsN (groundMarks r) (startMarks r) (kindN r) r.wide r.high r.goal r.goalAt passed r.seat len=(wrongs len r).map λq=>(q.2,q.1):=by
 unfold faultsN wrongs
 simp only[List.map_append]
 congr 1
 ·rw[seats_eq,<-List.map_drop,List.map_map,List.map_map]
  rfl
 ·congr 1
  ·rw[startMarks_eq,List.filter_map,List.map_map,List.map_map]
   have:r.asWritten.filter ((λm=>!mayBeginN (kindN r) m) ∘ λp=>(r.startPlace p,cellOf p.1 p.2,pieceNum (r.piece p.1 p.2)))=r.asWritten.filter r.misplaced:=by
    apply List.filter_congr
    intro p hp
    exact mayBegin_N hw hp
   rw[this]
   rfl
  ·congr 1
   ·rw[kings_eq,<-List.map_drop,List.map_map,List.map_map]
    rfl
   ·congr 1
    ·by_cases h:goalAmissN (groundMarks r) (startMarks r) r.wide r.high r.goal=true
     ·rw[if_pos h,if_pos ((goalAmiss_eq hw hg).mp h)];rfl
     ·rw[if_neg h,if_neg λz=>h ((goalAmiss_eq hw hg).mpr z)];rfl
    ·by_cases h:missingN (groundMarks r) (startMarks r) passed r.seat=true
     ·rw[if_pos h,if_pos ((missing_eq hp).mp h)];rfl
     ·rw[if_neg h,if_neg λz=>h ((missing_eq hp).mpr z)];rfl
def ltP (a b:Nat×Nat):Bool:=decide (a.1<b.1)||(decide (a.1=b.1)&&decide (a.2<b.2))
def minFrom (m:Nat×Nat) (l:List (Nat×Nat)):Nat×Nat:=l.foldl (λm x=>if ltP x m=true then x else m) m
theorem firstOf_min (x:Nat×Nat) (l:List (Nat×Nat)):firstOf ((x::l).map λq=>(q.2,q.1))=some ((minFrom x l).2,(minFrom x l).1):=by
 unfold firstOf minFrom
 rw[List.map_cons,List.foldl_cons]
 induction l generalizing x with
 | nil=>rfl
 | cons y l ih =>
  rw[List.map_cons,List.foldl_cons,List.foldl_cons]
  have:sooner (x.2,x.1) (y.2,y.1)=!ltP y x:=by
   unfold sooner ltP
   rw[Bool.eq_iff_iff]
   simp only[Bool.or_eq_true,Bool.and_eq_true,decide_eq_true_eq,beq_iff_eq,Bool.not_eq_true',Bool.or_eq_false_iff,Bool.and_eq_false_iff,decide_eq_false_iff_not]
   omega
  dsimp only
  rw[this]
  by_cases h:ltP y x=true
  ·rw[h]
   exact ih y
  ·rw[Bool.eq_false_iff.mpr h]
   exact ih x
end Tm
end
section
namespace Tm
open Tafl
def gapText (n:Nat):Bytes:=if n=0 then [] else digitsOf n
theorem rowLine_nil (n:Nat):rowLine n []=gapText n:=rfl
theorem rowLine_gap (n:Nat) (l:List Piece):rowLine n (.none::l)=rowLine (n+1) l:=by
 rw[rowLine,if_pos rfl]
theorem rowLine_piece (n:Nat){x:Piece}(l:List Piece) (h:x≠.none):rowLine n (x::l)=gapText n++(pieceByte x::rowLine 0 l):=by
 rw[rowLine,if_neg h];rfl
def strokes:List Bytes->Bytes
 | []=>[]
 | [a]=>a
 | a::b::l=>a++(47::strokes (b::l))
theorem strokes_snoc:∀(l:List Bytes) (b:Bytes),l≠[]->strokes (l++[b])=strokes l++(47::b)
 | [],_,h=>absurd rfl h
 | [a],b,_=>by rfl
 | a::c::l,b,_=>by
  have ih:=strokes_snoc (c::l) b (by simp)
  rw[List.cons_append,List.cons_append,strokes,<-List.cons_append,ih,strokes]
  simp
theorem strokes_flat (f:Nat->Bytes):∀n:Nat,((List.range n).flatMap λi=>(if i=0 then [] else [47])++f i)=strokes ((List.range n).map f)
 | 0=>rfl
 | n+1=>by
  rw[List.range_succ,List.flatMap_append,List.flatMap_singleton,List.map_append,List.map_singleton,strokes_flat f n]
  cases n with
  | zero=>simp[strokes]
  | succ n =>
   rw[strokes_snoc _ _ (by simp[List.range_succ]),if_neg (by omega)]
   rfl
def sideByte (s:Nat):UInt8:=if s=0 then 104 else 107
theorem line_eq (r:Rules) (p:Pos):r.line p=strokes ((List.range r.high).map λi=>rowLine 0 (r.rowOf p (r.high - 1 - i)))++[32,sideByte p.side]:=by
 unfold Rules.line sideByte
 rw[strokes_flat λi=>rowLine 0 (r.rowOf p (r.high - 1 - i))]
abbrev Got:=Piece×Nat×Nat
section
variable {wide f left rows:Nat}{was king:Bool}{l:List Got}{c:Cur}
theorem readRows_piece {x:UInt8}{p:Piece}(h0:0<left) (hx:c.next=some x) (hp:p=.hunter/\x=104\/p=.man/\x=109\/p=.king/\x=75/\king=false) :
  readRows wide (f+1) left rows was king l c=readRows wide f (left - 1) rows false (king||decide (p=.king)) (l++[(p,cellOf (wide - left) rows,c.at_)]) c.on:=by
 rw[readRows,if_neg (by omega),hx]
 dsimp only
 rcases hp with⟨rfl,rfl⟩|⟨rfl,rfl⟩|⟨rfl,rfl,rfl⟩
 ·rw[if_pos rfl,decide_eq_false (by decide),Bool.or_false]
 ·rw[if_neg (by decide),if_pos rfl,decide_eq_false (by decide),Bool.or_false]
 ·rw[if_neg (by decide),if_neg (by decide),if_pos ⟨rfl,rfl⟩];rfl
def noPiece (king:Bool) (c:Cur):Prop:=∀x,c.next=some x->x≠104/\x≠109/\¬(x=75/\king=false)
theorem readRows_was (h0:0<left) (hn:noPiece king c):readRows wide (f+1) left rows true king l c=.error c.at_:=by
 rw[readRows,if_neg (by omega)]
 cases hx:c.next with
 | none=>rfl
 | some x =>
  obtain⟨h1,h2,h3⟩:=hn x hx
  dsimp only
  rw[if_neg h1,if_neg h2,if_neg h3,if_pos rfl]
theorem runIn_none {left:Nat}{c:Cur}(hx:c.next=none):runIn left c=.error c.at_:=by
 unfold runIn;rw[hx]
theorem readRows_numE {p:Nat}(h0:0<left) (hn:noPiece king c) (hr:runIn left c=.error p):readRows wide (f+1) left rows false king l c=.error p:=by
 rw[readRows,if_neg (by omega)]
 cases hx:c.next with
 | none=>rw[runIn_none hx]at hr;cases hr;rfl
 | some x =>
  obtain⟨h1,h2,h3⟩:=hn x hx
  dsimp only
  rw[if_neg h1,if_neg h2,if_neg h3,if_neg (by decide),hr]
theorem readRows_num {n:Nat}{d:Cur}(h0:0<left) (hn:noPiece king c) (hr:runIn left c=.ok (n,d)):readRows wide (f+1) left rows false king l c=readRows wide f (left - n) rows true king l d:=by
 rw[readRows,if_neg (by omega)]
 cases hx:c.next with
 | none=>rw[runIn_none hx]at hr;cases hr
 | some x =>
  obtain⟨h1,h2,h3⟩:=hn x hx
  dsimp only
  rw[if_neg h1,if_neg h2,if_neg h3,if_neg (by decide),hr]
theorem readRows_next {d:Cur}(h:lit [47] c=.ok d) (hr:0<rows):readRows wide (f+1) 0 rows was king l c=readRows wide f wide (rows - 1) false king l d:=by
 rw[readRows,if_pos rfl,if_neg (by omega),h];rfl
theorem readRows_nextE {p:Nat}(h:lit [47] c=.error p) (hr:0<rows):readRows wide (f+1) 0 rows was king l c=.error p:=by
 rw[readRows,if_pos rfl,if_neg (by omega),h];rfl
theorem readRows_last {d:Cur}{s:Nat}(h:lit [32] c=.ok d) (hs:d.next=some 104/\s=0\/d.next=some 107/\s=1):readRows wide (f+1) 0 0 was king l c=.ok (l,s,d.on):=by
 rw[readRows,if_pos rfl,if_pos rfl,h]
 show (if d.next=some 104 then _ else if d.next=some 107 then _ else _)=_
 rcases hs with⟨h1,rfl⟩|⟨h1,rfl⟩
 ·rw[if_pos h1];rfl
 ·rw[if_neg (by rw[h1];decide),if_pos h1];rfl
theorem readRows_lastE {p:Nat}(h:lit [32] c=.error p):readRows wide (f+1) 0 0 was king l c=.error p:=by
 rw[readRows,if_pos rfl,if_pos rfl,h];rfl
theorem readRows_sideE {d:Cur}(h:lit [32] c=.ok d) (h1:d.next≠some 104) (h2:d.next≠some 107):readRows wide (f+1) 0 0 was king l c=.error d.at_:=by
 rw[readRows,if_pos rfl,if_pos rfl,h]
 show (if d.next=some 104 then _ else if d.next=some 107 then _ else _)=_
 rw[if_neg h1,if_neg h2]
end
structure BoardAt (wide high:Nat) (c0:Cur) (l:List Got) (x y:Nat) (was:Bool) (c:Cur):Prop where
 eq:∃f,readRows wide 1024 wide (high - 1) false false [] c0=readRows wide f (wide - x) y was (l.any λg=>decide (g.1=.king)) l c/\(y+1)*14 - x<f
 xle:x<=wide
 w13:wide<=13
 cells:∀g∈l,g.1≠.none/\∃q:Nat×Nat,q.1<wide/\q.2<high/\g.2.1=cellOf q.1 q.2/\(y<q.2\/q.2=y/\q.1<x)
 one:∀g∈l,∀g'∈l,g.1=.king->g'.1=.king->g=g'
 nd:(l.map λg=>g.2.1).Nodup
 yle:y<high
theorem BoardAt.start {wide high:Nat}{c:Cur}(hw:wide<=13) (h0:0<high) (hh:high<=13):BoardAt wide high c [] 0 (high - 1) false c :=
 ⟨⟨1024,rfl,by omega⟩,Nat.zero_le _,hw,λ_ h=>absurd h (by simp),λ_ h=>absurd h (by simp),by simp,by omega⟩
section
variable {wide high:Nat}{c0 c:Cur}{l:List Got}{x y:Nat}{was:Bool}
theorem fuel_pos {f x y:Nat}(h:(y+1)*14 - x<f):∃g,f=g+1:=⟨f - 1,by omega⟩
theorem BoardAt.piece {z:UInt8}{p:Piece}(B:BoardAt wide high c0 l x y was c) (hx:x<wide) (hz:c.next=some z)
  (hp:p=.hunter/\z=104\/p=.man/\z=109\/p=.king/\z=75/\(l.any λg=>decide (g.1=.king))=false):BoardAt wide high c0 (l++[(p,cellOf x y,c.at_)]) (x+1) y false c.on:=by
 obtain⟨⟨f,e,hf⟩,xle,w13,cells,one,nd,yle⟩:=B
 obtain⟨g,rfl⟩:=fuel_pos hf
 have hpn:p≠.none:=by rcases hp with⟨rfl,_⟩|⟨rfl,_⟩|⟨rfl,_⟩ <;> decide
 have e2:wide - (wide - x)=x:=by omega
 have e3:wide - x - 1=wide - (x+1):=by omega
 refine⟨⟨g,?_,by omega⟩,hx,w13,λq hq=>?_,λq hq q' hq' k1 k2=>?_,?_,yle⟩
 ·rw[e,readRows_piece (by omega) hz hp,e2,e3,List.any_append]
  simp
 ·rcases List.mem_append.mp hq with hq | hq
  ·obtain⟨a,b,b1,b2,b3,b4⟩:=cells q hq
   exact⟨a,b,b1,b2,b3,by omega⟩
  ·rw[List.mem_singleton.mp hq]
   exact⟨hpn,(x,y),hx,yle,rfl,.inr ⟨rfl,Nat.lt_succ_self _⟩⟩
 ·have nk:∀q0∈l,q0.1=.king->p=.king->False:=λq0 hq0 k k'=>by
   rcases hp with⟨rfl,_⟩|⟨rfl,_⟩|⟨rfl,_,h3⟩
   ·cases k'
   ·cases k'
   ·rw[List.any_eq_false]at h3
    exact h3 q0 hq0 (by simp[k])
  rcases List.mem_append.mp hq with hq | hq <;> rcases List.mem_append.mp hq' with hq' | hq'
  ·exact one q hq q' hq' k1 k2
  ·rw[List.mem_singleton.mp hq']at k2;exact (nk q hq k1 k2).elim
  ·rw[List.mem_singleton.mp hq]at k1;exact (nk q' hq' k2 k1).elim
  ·rw[List.mem_singleton.mp hq,List.mem_singleton.mp hq']
 ·rw[List.map_append,List.nodup_append]
  refine⟨nd,by simp,λa ha b hb=>?_⟩
  obtain⟨q,hq,rfl⟩:=List.mem_map.mp ha
  obtain⟨_,b0,b1,b2,b3,b4⟩:=cells q hq
  simp only[List.map_cons,List.map_nil,List.mem_singleton]at hb
  subst hb
  rw[b3]
  intro z
  have:=cell_inj (p:=b0) (q:=(x,y)) (by omega) (by dsimp only;omega) z
  subst this
  dsimp only at b4
  omega
theorem BoardAt.was_ (B:BoardAt wide high c0 l x y true c) (hx:x<wide) (hn:noPiece (l.any λg=>decide (g.1=.king)) c):readRows wide 1024 wide (high - 1) false false [] c0=.error c.at_:=by
 obtain⟨⟨f,e,hf⟩,_⟩:=B
 obtain⟨g,rfl⟩:=fuel_pos hf
 rw[e,readRows_was (by omega) hn]
theorem BoardAt.numE {p:Nat}(B:BoardAt wide high c0 l x y false c) (hx:x<wide) (hn:noPiece (l.any λg=>decide (g.1=.king)) c) (h:number 1 (wide - x) c=.error p) :
  readRows wide 1024 wide (high - 1) false false [] c0=.error p:=by
 have w13:=B.w13
 obtain⟨⟨f,e,hf⟩,_⟩:=B
 obtain⟨g,rfl⟩:=fuel_pos hf
 rw[e,readRows_numE (by omega) hn (by rw[runIn_number (by omega) (by omega)];exact h)]
theorem number_within {lo hi n:Nat}{c d:Cur}(h5:hi<100000) (h:number lo hi c=.ok (n,d)):lo<=n/\n<=hi:=by
 have go:∀(k m:Nat) (e:Cur) (v:Nat),NumAt lo hi c v e m->5 - m<=k->lo<=n/\n<=hi:=by
  intro k
  induction k with
  | zero =>
   intro m e v N hk
   cases g:goesOn lo hi v e with
   | none =>
    have q:=N.fin g
    rw[h]at q
    split at q
    ·rename_i z;cases q;exact z
    ·cases q
   | some w =>
    have:=(N.turn h5 g).few
    omega
  | succ k ih =>
   intro m e v N hk
   cases g:goesOn lo hi v e with
   | none =>
    have q:=N.fin g
    rw[h]at q
    split at q
    ·rename_i z;cases q;exact z
    ·cases q
   | some w=>exact ih _ _ _ (N.turn h5 g) (by omega)
 exact go 5 0 c 0 (NumAt.start _ _ _) (by omega)
theorem BoardAt.num {n:Nat}{d:Cur}(B:BoardAt wide high c0 l x y false c) (hx:x<wide) (hn:noPiece (l.any λg=>decide (g.1=.king)) c) (h:number 1 (wide - x) c=.ok (n,d)) :
  BoardAt wide high c0 l (x+n) y true d:=by
 obtain⟨⟨f,e,hf⟩,xle,w13,cells,one,nd,yle⟩:=B
 obtain⟨g,rfl⟩:=fuel_pos hf
 have hw:=number_within (by omega) h
 have e3:wide - x - n=wide - (x+n):=by omega
 refine⟨⟨g,?_,by omega⟩,by omega,w13,λq hq=>?_,one,nd,yle⟩
 ·rw[e,readRows_num (by omega) hn (by rw[runIn_number (by omega) (by omega)];exact h),e3]
 ·obtain⟨a,b,b1,b2,b3,b4⟩:=cells q hq
  exact⟨a,b,b1,b2,b3,by omega⟩
theorem BoardAt.next {d:Cur}(B:BoardAt wide high c0 l wide y was c) (hy:0<y) (h:lit [47] c=.ok d):BoardAt wide high c0 l 0 (y - 1) false d:=by
 obtain⟨⟨f,e,hf⟩,xle,w13,cells,one,nd,yle⟩:=B
 obtain⟨g,rfl⟩:=fuel_pos hf
 refine⟨⟨g,?_,by omega⟩,Nat.zero_le _,w13,λq hq=>?_,one,nd,by omega⟩
 ·rw[e,Nat.sub_self,readRows_next h hy];rfl
 ·obtain⟨a,b,b1,b2,b3,b4⟩:=cells q hq
  exact⟨a,b,b1,b2,b3,by omega⟩
theorem BoardAt.nextE {p:Nat}(B:BoardAt wide high c0 l wide y was c) (hy:0<y) (h:lit [47] c=.error p):readRows wide 1024 wide (high - 1) false false [] c0=.error p:=by
 obtain⟨⟨f,e,hf⟩,_⟩:=B
 obtain⟨g,rfl⟩:=fuel_pos hf
 rw[e,Nat.sub_self,readRows_nextE h hy]
theorem BoardAt.lastE {p:Nat}(B:BoardAt wide high c0 l wide 0 was c) (h:lit [32] c=.error p):readRows wide 1024 wide (high - 1) false false [] c0=.error p:=by
 obtain⟨⟨f,e,hf⟩,_⟩:=B
 obtain⟨g,rfl⟩:=fuel_pos hf
 rw[e,Nat.sub_self,readRows_lastE h]
theorem BoardAt.sideE {d:Cur}(B:BoardAt wide high c0 l wide 0 was c) (h:lit [32] c=.ok d) (h1:d.next≠some 104) (h2:d.next≠some 107):readRows wide 1024 wide (high - 1) false false [] c0=.error d.at_:=by
 obtain⟨⟨f,e,hf⟩,_⟩:=B
 obtain⟨g,rfl⟩:=fuel_pos hf
 rw[e,Nat.sub_self,readRows_sideE h h1 h2]
theorem BoardAt.last {d:Cur}{s:Nat}(B:BoardAt wide high c0 l wide 0 was c) (h:lit [32] c=.ok d) (hs:d.next=some 104/\s=0\/d.next=some 107/\s=1):readRows wide 1024 wide (high - 1) false false [] c0=.ok (l,s,d.on):=by
 obtain⟨⟨f,e,hf⟩,_⟩:=B
 obtain⟨g,rfl⟩:=fuel_pos hf
 rw[e,Nat.sub_self,readRows_last h hs]
end
end Tm
end
section
namespace Tm
open Tafl
theorem sorted_lt {m:List Nat}(hs:m.Pairwise (·<=·)) (nd:m.Nodup):m.Pairwise (· < ·):=by
 have h:m.Pairwise λa b=>a<=b/\a≠b:=List.pairwise_and_iff.mpr ⟨hs,nd⟩
 exact h.imp λq=>Nat.lt_of_le_of_ne q.1 q.2
theorem sorted_is {l m:List Nat}(hp:m.Perm l) (hs:m.Pairwise (·<=·)) (nd:l.Nodup) (h:∀c∈l,c<GONE):cellsIn (setFrom l)=m :=
 cellsIn_setFrom (sorted_lt hs (hp.nodup_iff.mpr nd)) h λ_=>hp.mem_iff
def cellsOfPiece (l:List Got) (p:Piece):List Nat:=(l.filter λg=>decide (g.1=p)).map λg=>g.2.1
theorem filterMap_piece (p:Piece):∀l:List Got,(l.filterMap λx=>if x.1=p then some x.2.1 else none)=cellsOfPiece l p
 | []=>rfl
 | g::l=>by
  have ih:=filterMap_piece p l
  unfold cellsOfPiece at ih ⊢
  rw[List.filterMap_cons,List.filter_cons]
  by_cases h:g.1=p
  ·rw[if_pos h,decide_eq_true h,if_pos rfl,List.map_cons,ih]
  ·rw[if_neg h,decide_eq_false h,if_neg (by decide),ih]
theorem find_head {α:Type}(f:α->Bool):∀l:List α,l.find? f=(l.filter f).head?
 | []=>rfl
 | a::l=>by
  rw[List.find?_cons,List.filter_cons]
  cases h:f a with
  | true=>rfl
  | false=>exact find_head f l
theorem find_king (l:List Got):((l.find? λx=>x.1 == .king).map λx=>x.2.1)=(cellsOfPiece l .king).head?:=by
 unfold cellsOfPiece
 rw[List.head?_map,find_head]
 congr 2
theorem nodup_piece {l:List Got}(nd:(l.map λg=>g.2.1).Nodup) (p:Piece):(cellsOfPiece l p).Nodup:=by
 unfold cellsOfPiece
 exact nd.sublist (List.Sublist.map _ List.filter_sublist)
def posOf (l:List Got) (side:Nat):Pos:=⟨setFrom (cellsOfPiece l .hunter),setFrom (cellsOfPiece l .man),((cellsOfPiece l .king).head?).getD TAKEN,side⟩
def badPiece (r:Rules) (l:List Got):Option Got:=l.find? λx=>!mayStand x.1 (r.kindAt x.2.1)
theorem readLine_error {r:Rules}{b:Bytes}{p:Nat}(h:readRows r.wide 1024 r.wide (r.high - 1) false false [] ⟨b,0⟩=.error p):r.readLine b=.error (1,p):=by
 unfold Rules.readLine LINE
 rw[h]
theorem readLine_more {r:Rules}{b:Bytes}{l:List Got}{s:Nat}{c:Cur}(h:readRows r.wide 1024 r.wide (r.high - 1) false false [] ⟨b,0⟩=.ok (l,s,c)) (hc:c.next≠none):r.readLine b=.error (1,c.at_):=by
 unfold Rules.readLine LINE
 rw[h]
 dsimp only
 rw[if_pos]
 intro e
 apply hc
 unfold Cur.next
 rw[e];rfl
theorem rest_nil {c:Cur}(h:c.next=none):c.rest=[]:=by
 unfold Cur.next at h
 exact List.head?_eq_none_iff.mp h
theorem readLine_bad {r:Rules}{b:Bytes}{l:List Got}{s:Nat}{c:Cur}{g:Got}(h:readRows r.wide 1024 r.wide (r.high - 1) false false [] ⟨b,0⟩=.ok (l,s,c)) (hc:c.next=none) (hb:badPiece r l=some g) :
  r.readLine b=.error (2,g.2.2):=by
 unfold badPiece at hb
 unfold Rules.readLine LINE
 rw[h]
 dsimp only
 rw[if_neg λz=>z (rest_nil hc),hb]
theorem readLine_ok {r:Rules}{b:Bytes}{l:List Got}{s:Nat}{c:Cur}(h:readRows r.wide 1024 r.wide (r.high - 1) false false [] ⟨b,0⟩=.ok (l,s,c)) (hc:c.next=none) (hb:badPiece r l=none) :
  r.readLine b=.ok (posOf l s):=by
 unfold badPiece at hb
 unfold Rules.readLine LINE
 rw[h]
 dsimp only
 rw[if_neg λz=>z (rest_nil hc),hb]
 dsimp only
 rw[filterMap_piece,filterMap_piece,find_king]
 rfl
structure PosIs (p:Pos) (hs ms:List Nat):Prop where
 h:cellsIn p.hunters=hs
 m:cellsIn p.men=ms
 hlt:p.hunters<2 ^ GONE
 mlt:p.men<2 ^ GONE
theorem PosIs.of {hs ms:List Nat}{k d:Nat}(h1:hs.Pairwise (· < ·)) (h2:ms.Pairwise (· < ·)) (b1:∀c∈hs,c<GONE) (b2:∀c∈ms,c<GONE):PosIs ⟨setFrom hs,setFrom ms,k,d⟩ hs ms :=
 ⟨cellsIn_setFrom_self h1 b1,cellsIn_setFrom_self h2 b2,setFrom_lt b1,setFrom_lt b2⟩
theorem PosIs.hbit {p:Pos}{hs ms:List Nat}(P:PosIs p hs ms) (c:Nat):p.hunters.testBit c=decide (c∈hs):=by
 rw[<-P.h]
 conv=>lhs;rw[<-setFrom_cellsIn P.hlt]
 rw[setFrom_testBit]
theorem PosIs.mbit {p:Pos}{hs ms:List Nat}(P:PosIs p hs ms) (c:Nat):p.men.testBit c=decide (c∈ms):=by
 rw[<-P.m]
 conv=>lhs;rw[<-setFrom_cellsIn P.mlt]
 rw[setFrom_testBit]
theorem cell_lt {r:Rules}{c:Nat}(hh:r.high<=13) (h:kindN r c≠none):c<169:=by
 unfold kindN at h
 split at h
 ·rename_i q
  unfold Rules.isCell STRIDE at q
  simp only[Bool.and_eq_true,decide_eq_true_eq]at q
  omega
 ·exact absurd rfl h
theorem mayStandN_cell {k:Option Nat}{p:Nat}(h:mayStandN k p=true):k≠none:=by
 intro e;subst e;cases h
def pieceCells (hs ms:List Nat) (k:Nat):List (Nat×Nat):=hs.map (λc=>(c,1))++(ms.map (λc=>(c,2))++(if k=255 then [] else [(k,3)]))
def rightN (r:Rules) (hs ms:List Nat) (k d:Nat):Prop:=d<=1/\(∀q∈pieceCells hs ms k,mayStandN (kindN r q.1) q.2=true)/\((pieceCells hs ms k).map (·.1)).Nodup
theorem and_zero_iff {a b:Nat}:a &&& b=0↔∀i,¬(a.testBit i=true/\b.testBit i=true):=by
 constructor
 ·intro h i hi
  have:=congrArg (λn=>n.testBit i) h
  simp only[Nat.testBit_and,Nat.zero_testBit]at this
  rw[hi.1,hi.2]at this
  cases this
 ·intro h
  apply Nat.eq_of_testBit_eq
  intro i
  rw[Nat.testBit_and,Nat.zero_testBit]
  have:=h i
  cases ha:a.testBit i <;> cases hb:b.testBit i <;> simp_all
theorem pieceCells_fst (hs ms:List Nat) (k:Nat):(pieceCells hs ms k).map (·.1)=hs++(ms++(if k=255 then [] else [k])):=by
 unfold pieceCells
 rw[List.map_append,List.map_append,List.map_map,List.map_map]
 have z1:(hs.map ((λq:Nat×Nat=>q.1) ∘ λc=>(c,1)))=hs:=by
  rw[show ((λq:Nat×Nat=>q.1) ∘ λc=>(c,1))=id from rfl,List.map_id]
 have z2:(ms.map ((λq:Nat×Nat=>q.1) ∘ λc=>(c,2)))=ms:=by
  rw[show ((λq:Nat×Nat=>q.1) ∘ λc=>(c,2))=id from rfl,List.map_id]
 rw[z1,z2]
 split <;> rfl
theorem all_pieceCells {hs ms:List Nat}{k:Nat}{f:Nat×Nat->Prop}:(∀q∈pieceCells hs ms k,f q)↔(∀c∈hs,f (c,1))/\(∀c∈ms,f (c,2))/\(k≠255->f (k,3)):=by
 unfold pieceCells
 constructor
 ·intro h
  refine⟨λc hc=>h _ (List.mem_append_left _ (List.mem_map.mpr ⟨c,hc,rfl⟩)),λc hc=>h _ (List.mem_append_right _ (List.mem_append_left _ (List.mem_map.mpr ⟨c,hc,rfl⟩))),λhk=>h _ (List.mem_append_right _ (List.mem_append_right _ ?_))⟩
  rw[if_neg hk];exact List.mem_singleton_self _
 ·rintro⟨h1,h2,h3⟩ q hq
  rcases List.mem_append.mp hq with hq | hq
  ·obtain⟨c,hc,rfl⟩:=List.mem_map.mp hq;exact h1 c hc
  ·rcases List.mem_append.mp hq with hq | hq
   ·obtain⟨c,hc,rfl⟩:=List.mem_map.mp hq;exact h2 c hc
   ·by_cases hk:k=255
    ·rw[if_pos hk]at hq;simp at hq
    ·rw[if_neg hk]at hq;rw[List.mem_singleton.mp hq];exact h3 hk
theorem nd_pieceCells {hs ms:List Nat}{k:Nat}(h1:hs.Nodup) (h2:ms.Nodup):((pieceCells hs ms k).map (·.1)).Nodup↔(∀c,¬(c∈hs/\c∈ms))/\(k≠255->¬k∈hs/\¬k∈ms):=by
 rw[pieceCells_fst,List.nodup_append,List.nodup_append]
 by_cases hk:k=255
 ·rw[if_pos hk]
  constructor
  ·rintro⟨_,_,h⟩
   exact⟨λc hc=>h c hc.1 c (List.mem_append_left _ hc.2) rfl,λz=>absurd hk z⟩
  ·rintro⟨h,_⟩
   refine⟨h1,⟨h2,List.nodup_nil,λa _ b hb=>absurd hb (by simp)⟩,λa ha b hb z=>?_⟩
   rw[List.append_nil]at hb
   exact h a ⟨ha,by rw[z];exact hb⟩
 ·rw[if_neg hk]
  constructor
  ·rintro⟨_,⟨_,_,h3⟩,h⟩
   exact⟨λc hc=>h c hc.1 c (List.mem_append_left _ hc.2) rfl,λ_=>⟨λz=>h k z k (List.mem_append_right _ (List.mem_singleton_self _)) rfl,λz=>h3 k z k (List.mem_singleton_self _) rfl⟩⟩
  ·rintro⟨h,h'⟩
   obtain⟨k1,k2⟩:=h' hk
   refine⟨h1,⟨h2,by simp,λa ha b hb z=>?_⟩,λa ha b hb z=>?_⟩
   ·rw[List.mem_singleton.mp hb]at z;rw[z]at ha;exact k2 ha
   ·rcases List.mem_append.mp hb with hb | hb
    ·exact h a ⟨ha,by rw[z];exact hb⟩
    ·rw[List.mem_singleton.mp hb]at z;rw[z]at ha;exact k1 ha
theorem right_iff {r:Rules}{p:Pos}{hs ms:List Nat}(P:PosIs p hs ms) (h1:hs.Nodup) (h2:ms.Nodup):r.right p=true↔rightN r hs ms p.king p.side:=by
 unfold Rules.right rightN
 simp only[Bool.and_eq_true,decide_eq_true_eq,beq_iff_eq,Bool.or_eq_true,Bool.not_eq_true']
 rw[P.h,P.m,List.all_eq_true,List.all_eq_true,and_zero_iff,all_pieceCells,nd_pieceCells h1 h2]
 have eh:∀c,mayStand .hunter (r.kindAt c)=mayStandN (kindN r c) 1:=λc=>(mayStand_N (p:=.hunter) (by decide)).symm
 have em:∀c,mayStand .man (r.kindAt c)=mayStandN (kindN r c) 2:=λc=>(mayStand_N (p:=.man) (by decide)).symm
 have ek:∀c,mayStand .king (r.kindAt c)=mayStandN (kindN r c) 3:=λc=>(mayStand_N (p:=.king) (by decide)).symm
 simp only[eh,em,ek,P.hbit,P.mbit,decide_eq_true_eq,decide_eq_false_iff_not]
 unfold TAKEN
 constructor
 ·rintro⟨_,_,hd,hs1,ha,hb,hk⟩
  refine⟨hs1,⟨ha,hb,λz=>?_⟩,hd,λz=>?_⟩
  ·rcases hk with hk | hk
   ·exact absurd hk z
   ·exact hk.1
  ·rcases hk with hk | hk
   ·exact absurd hk z
   ·exact hk.2
 ·rintro⟨hs1,⟨ha,hb,hk⟩,hd,hk'⟩
  refine⟨P.hlt,P.mlt,hd,hs1,ha,hb,?_⟩
  by_cases z:p.king=255
  ·exact .inl z
  ·exact .inr ⟨hk z,hk' z⟩
theorem on_lookup {p:Pos}{hs ms:List Nat}(P:PosIs p hs ms) (nd:((pieceCells hs ms p.king).map (·.1)).Nodup){c:Nat}(hc:c≠255) :
  ((pieceCells hs ms p.king).lookup c).getD 0=pieceNum (p.on c):=by
 have lk:∀(l:List Nat) (n:Nat) (c:Nat),(l.map λc=>(c,n)).lookup c=if c∈l then some n else none:=by
  intro l n c
  induction l with
  | nil=>rfl
  | cons a l ih =>
   rw[List.map_cons,List.lookup_cons,ih]
   by_cases h:c=a
   ·subst h;simp
   ·have:(c == a)=false:=by simpa using h
    rw[this]
    simp[h]
 have nd':=nd
 rw[pieceCells_fst]at nd'
 rw[List.nodup_append,List.nodup_append]at nd'
 obtain⟨_,⟨_,_,n2⟩,n3⟩:=nd'
 unfold pieceCells Pos.on
 rw[P.hbit,P.mbit,List.lookup_append,List.lookup_append,lk,lk]
 simp only[decide_eq_true_eq]
 by_cases k1:p.king=c
 ·rw[if_pos k1]
  have hk:¬p.king=255:=by omega
  have a1:¬c∈hs:=λz=>n3 c z c (List.mem_append_right _ (by rw[if_neg hk,k1];exact List.mem_singleton_self _)) rfl
  have a2:¬c∈ms:=λz=>n2 c z c (by rw[if_neg hk,k1];exact List.mem_singleton_self _) rfl
  rw[if_neg a1,if_neg a2,if_neg hk,k1]
  simp[List.lookup,pieceNum]
 ·rw[if_neg k1]
  have e:(if p.king=255 then ([]:List (Nat×Nat)) else [(p.king,3)]).lookup c=none:=by
   split
   ·rfl
   ·have:(c == p.king)=false:=by simpa using λz:c=p.king=>k1 z.symm
    simp[List.lookup,this]
  rw[e]
  by_cases a1:c∈hs
  ·rw[if_pos a1,if_pos a1];rfl
  ·rw[if_neg a1,if_neg a1]
   by_cases a2:c∈ms
   ·rw[if_pos a2,if_pos a2];rfl
   ·rw[if_neg a2,if_neg a2];rfl
end Tm
end
section
namespace Tm
open Tafl
def cellsSigned (l:List Mk) (k:Nat):List Nat:=(withSign l k).map λm=>m.2.1
theorem mem_signed {r:Rules}{p:Piece}{c:Nat}:c∈cellsSigned (startMarks r) (pieceNum p)↔∃q:Nat×Nat,q∈r.asWritten/\r.piece q.1 q.2=p/\cellOf q.1 q.2=c:=by
 unfold cellsSigned withSign
 rw[startMarks_eq]
 simp only[List.mem_map,List.mem_filter,decide_eq_true_eq]
 constructor
 ·rintro⟨m,⟨⟨q,hq,rfl⟩,hs⟩,rfl⟩
  exact⟨q,hq,pieceNum_inj.mp hs,rfl⟩
 ·rintro⟨q,hq,hp,rfl⟩
  exact⟨_,⟨⟨q,hq,rfl⟩,by dsimp only;rw[hp]⟩,rfl⟩
theorem nodup_flatMap_range {β:Type}(f:Nat->List β):∀n:Nat,(∀i,i<n->(f i).Nodup)->(∀i j,i<n->j<n->i≠j->∀a∈f i,∀b∈f j,a≠b)->((List.range n).flatMap f).Nodup
 | 0,_,_=>by simp
 | n+1,h1,h2=>by
  rw[List.range_succ,List.flatMap_append,List.flatMap_singleton,List.nodup_append]
  refine⟨nodup_flatMap_range f n (λi hi=>h1 i (by omega)) λi j hi hj=>h2 i j (by omega) (by omega),h1 n (by omega),λa ha b hb=>?_⟩
  obtain⟨i,hi,ha⟩:=List.mem_flatMap.mp ha
  rw[List.mem_range]at hi
  exact h2 i n (by omega) (by omega) (by omega) a ha b hb
theorem asWritten_nodup (r:Rules):r.asWritten.Nodup:=by
 unfold Rules.asWritten
 refine nodup_flatMap_range _ _ (λi _=>?_) λi j hi hj hij a ha b hb=>?_
 ·exact List.Pairwise.map _ (λx y h e=>h (congrArg Prod.fst e)) List.nodup_range
 ·obtain⟨x,_,rfl⟩:=List.mem_map.mp ha
  obtain⟨y,_,rfl⟩:=List.mem_map.mp hb
  intro e
  have:=congrArg Prod.snd e
  dsimp only at this
  omega
theorem nodup_map_of {α β:Type}{f:α->β}{l:List α}(nd:l.Nodup) (h:∀a∈l,∀b∈l,f a=f b->a=b):(l.map f).Nodup:=by
 induction l with
 | nil=>simp
 | cons a l ih =>
  rw[List.nodup_cons]at nd
  rw[List.map_cons,List.nodup_cons]
  refine⟨λz=>?_,ih nd.2 λx hx y hy=>h x (List.mem_cons_of_mem _ hx) y (List.mem_cons_of_mem _ hy)⟩
  obtain⟨b,hb,e⟩:=List.mem_map.mp z
  have:=h b (List.mem_cons_of_mem _ hb) a List.mem_cons_self e
  subst this
  exact nd.1 hb
theorem cell_nodup {r:Rules}(hw:r.wide<=13):(r.asWritten.map λp=>cellOf p.1 p.2).Nodup :=
 nodup_map_of (asWritten_nodup r) λa ha b hb e=>cell_inj (by have:=(mem_asWritten.mp ha).1;omega) (by have:=(mem_asWritten.mp hb).1;omega) e
theorem signed_nodup {r:Rules}(hw:r.wide<=13) (k:Nat):(cellsSigned (startMarks r) k).Nodup:=by
 unfold cellsSigned withSign
 rw[startMarks_eq]
 have h:=cell_nodup hw
 have e:(r.asWritten.map λp=>cellOf p.1 p.2)=(r.asWritten.map λp=>(r.startPlace p,cellOf p.1 p.2,pieceNum (r.piece p.1 p.2))).map λm=>m.2.1:=by
  rw[List.map_map];rfl
 rw[e]at h
 exact h.sublist (List.Sublist.map _ List.filter_sublist)
theorem signed_lt {r:Rules}(hw:r.wide<=13) (hh:r.high<=13){p:Piece}{c:Nat}(h:c∈cellsSigned (startMarks r) (pieceNum p)):c<169:=by
 obtain⟨q,hq,_,rfl⟩:=mem_signed.mp h
 have:=mem_asWritten.mp hq
 unfold cellOf STRIDE
 omega
theorem mem_begins {r:Rules}{p:Piece}{c:Nat}:c∈((r.cells.map λq=>(r.piece q.1 q.2,cellOf q.1 q.2)).filterMap λx=>if x.1=p then some x.2 else none)↔c∈cellsSigned (startMarks r) (pieceNum p):=by
 rw[mem_signed,List.mem_filterMap]
 constructor
 ·rintro⟨x,hx,e⟩
  obtain⟨q,hq,rfl⟩:=List.mem_map.mp hx
  dsimp only at e
  split at e
  ·rename_i z
   cases e
   exact⟨q,mem_asWritten.mpr (mem_cells.mp hq),z,rfl⟩
  ·cases e
 ·rintro⟨q,hq,hp,rfl⟩
  refine⟨_,List.mem_map.mpr ⟨q,mem_cells.mpr (mem_asWritten.mp hq),rfl⟩,?_⟩
  dsimp only
  rw[if_pos hp]
theorem begins_hunters (r:Rules):r.begins.hunters=setFrom (cellsSigned (startMarks r) 1):=by
 unfold Rules.begins
 exact setFrom_ext λc=>mem_begins (p:=.hunter)
theorem begins_men (r:Rules):r.begins.men=setFrom (cellsSigned (startMarks r) 2):=by
 unfold Rules.begins
 exact setFrom_ext λc=>mem_begins (p:=.man)
theorem kings_one {r:Rules}(h:r.kings.drop 1=[]) (h':r.kings≠[]):∃p,r.kings=[p]:=by
 match e:r.kings with
 | []=>exact absurd e h'
 | [p]=>exact⟨p,rfl⟩
 | p::q::l=>rw[e]at h;cases h
theorem begins_king {r:Rules}{p:Nat×Nat}(h:r.kings=[p]):r.begins.king=cellOf p.1 p.2/\cellsSigned (startMarks r) 3=[cellOf p.1 p.2]:=by
 constructor
 ·unfold Rules.begins
  dsimp only
  have hk:∀q,q∈r.asWritten->r.piece q.1 q.2=.king->q=p:=λq hq hp=>by
   have:q∈r.kings:=List.mem_filter.mpr ⟨hq,by simp[hp]⟩
   rw[h]at this
   exact List.mem_singleton.mp this
  have hp:p∈r.kings:=by rw[h];exact List.mem_singleton_self _
  obtain⟨hp1,hp2⟩:=List.mem_filter.mp hp
  cases e:(r.cells.map λq=>(r.piece q.1 q.2,cellOf q.1 q.2)).find? λx=>x.1 == .king with
  | none =>
   rw[List.find?_eq_none]at e
   have:=e _ (List.mem_map.mpr ⟨p,mem_cells.mpr (mem_asWritten.mp hp1),rfl⟩)
   dsimp only at this
   exact absurd hp2 this
  | some x =>
   have hx:=List.mem_of_find?_eq_some e
   have hx2:=List.find?_some e
   obtain⟨q,hq,rfl⟩:=List.mem_map.mp hx
   dsimp only at hx2
   have:=hk q (mem_asWritten.mpr (mem_cells.mp hq)) (by simpa using hx2)
   subst this
   rfl
 ·unfold cellsSigned
  rw[kings_eq,h]
  rfl
structure NoFault (r:Rules):Prop where
 mis:∀p∈r.asWritten,r.misplaced p=false
 king:∃p,r.kings=[p]
theorem noFault_of {r:Rules}{len:Nat}(h:wrongs len r=[]):NoFault r:=by
 unfold wrongs at h
 simp only[List.append_eq_nil_iff,List.map_eq_nil_iff]at h
 obtain⟨_,h3,h4,_,h6⟩:=h
 refine⟨λp hp=>?_,kings_one h4 λe=>?_⟩
 ·rw[List.filter_eq_nil_iff]at h3
  exact Bool.eq_false_iff.mpr (h3 p hp)
 ·rw[if_pos (.inl e)]at h6
  cases h6
structure BeginIs (r:Rules) (hs ms:List Nat):Prop where
 pos:PosIs r.begins hs ms
 right:rightN r hs ms r.begins.king r.begins.side
theorem begin_is {r:Rules}{hs ms:List Nat}(hw:r.wide<=13) (hh:r.high<=13) (hf:r.first<=1) (N:NoFault r) (p1:hs.Perm (cellsSigned (startMarks r) 1)) (s1:hs.Pairwise (·<=·)) (p2:ms.Perm (cellsSigned (startMarks r) 2)) (s2:ms.Pairwise (·<=·)):BeginIs r hs ms:=by
 have l1:∀c∈cellsSigned (startMarks r) 1,c<GONE:=λc hc=>by have:=signed_lt hw hh (p:=.hunter) hc;unfold GONE;omega
 have l2:∀c∈cellsSigned (startMarks r) 2,c<GONE:=λc hc=>by have:=signed_lt hw hh (p:=.man) hc;unfold GONE;omega
 have P:PosIs r.begins hs ms:=⟨by rw[begins_hunters];exact sorted_is p1 s1 (signed_nodup hw 1) l1,by rw[begins_men];exact sorted_is p2 s2 (signed_nodup hw 2) l2,
  by rw[begins_hunters];exact setFrom_lt l1,by rw[begins_men];exact setFrom_lt l2⟩
 refine⟨P,hf,all_pieceCells.mpr ⟨λc hc=>?_,λc hc=>?_,λ_=>?_⟩,(nd_pieceCells (p1.nodup_iff.mpr (signed_nodup hw 1)) (p2.nodup_iff.mpr (signed_nodup hw 2))).mpr ⟨λc hc=>?_,λ_=>?_⟩⟩
 ·obtain⟨q,hq,hp,rfl⟩:=mem_signed (p:=.hunter).mp (p1.mem_iff.mp hc)
  have:=mayBegin_N (pl:=0) hw hq
  rw[N.mis q hq,hp]at this
  unfold mayBeginN pieceNum at this
  simpa using this
 ·obtain⟨q,hq,hp,rfl⟩:=mem_signed (p:=.man).mp (p2.mem_iff.mp hc)
  have:=mayBegin_N (pl:=0) hw hq
  rw[N.mis q hq,hp]at this
  unfold mayBeginN pieceNum at this
  simpa using this
 ·obtain⟨p,hk⟩:=N.king
  obtain⟨e1,_⟩:=begins_king hk
  have hp:p∈r.kings:=by rw[hk];exact List.mem_singleton_self _
  obtain⟨hp1,hp2⟩:=List.mem_filter.mp hp
  have hp3:r.piece p.1 p.2=.king:=by simpa using hp2
  have:=mayBegin_N (pl:=0) hw hp1
  rw[N.mis p hp1,hp3]at this
  rw[e1]
  unfold mayBeginN pieceNum at this
  dsimp only at this ⊢
  rw[if_neg (by decide)]at this
  split at this
  ·cases this
  ·simpa using this
 ·obtain⟨q,hq,hp,e⟩:=mem_signed (p:=.hunter).mp (p1.mem_iff.mp hc.1)
  obtain⟨q',hq',hp',e'⟩:=mem_signed (p:=.man).mp (p2.mem_iff.mp hc.2)
  have:=cell_inj (p:=q) (q:=q') (by have:=(mem_asWritten.mp hq).1;omega) (by have:=(mem_asWritten.mp hq').1;omega) (e.trans e'.symm)
  subst this
  rw[hp]at hp'
  cases hp'
 ·obtain⟨p,hk⟩:=N.king
  obtain⟨e1,_⟩:=begins_king hk
  have hp:p∈r.kings:=by rw[hk];exact List.mem_singleton_self _
  obtain⟨hp1,hp2⟩:=List.mem_filter.mp hp
  have hp3:r.piece p.1 p.2=.king:=by simpa using hp2
  rw[e1]
  constructor
  ·intro z
   obtain⟨q,hq,hpq,e⟩:=mem_signed (p:=.hunter).mp (p1.mem_iff.mp z)
   have:=cell_inj (p:=q) (q:=p) (by have:=(mem_asWritten.mp hq).1;omega) (by have:=(mem_asWritten.mp hp1).1;omega) e
   subst this
   rw[hpq]at hp3
   cases hp3
  ·intro z
   obtain⟨q,hq,hpq,e⟩:=mem_signed (p:=.man).mp (p2.mem_iff.mp z)
   have:=cell_inj (p:=q) (q:=p) (by have:=(mem_asWritten.mp hq).1;omega) (by have:=(mem_asWritten.mp hp1).1;omega) e
   subst this
   rw[hpq]at hp3
   cases hp3
end Tm
end
section
namespace Tm
open Tafl
theorem turned_eq (t w h x y:Nat):turned t w h x y =
  (let z:=if 4<=t then w - 1 - x else x
   if t % 4=0 then (w,h,z,y) else if t % 4=1 then (h,w,y,w - 1 - z) else if t % 4=2 then (w,h,w - 1 - z,h - 1 - y) else (h,w,h - 1 - y,w - 1 - (w - 1 - z))):=by
 unfold turned
 dsimp only
 have h4:t % 4<4:=Nat.mod_lt _ (by decide)
 match e:t % 4,h4 with
 | 0,_=>rfl
 | 1,_=>rfl
 | 2,_=>rfl
 | 3,_=>rfl
theorem turned_in {t w h x y:Nat}(hx:x<w) (hy:y<h):(turned t w h x y).2.2.1<(turned t w h x y).1/\(turned t w h x y).2.2.2<(turned t w h x y).2.1:=by
 rw[turned_eq]
 dsimp only
 split <;> (repeat' split) <;> (dsimp only;omega)
theorem turned_size (t w h x y:Nat):(turned t w h x y).1=(if t % 4=1\/t % 4=3 then h else w)/\(turned t w h x y).2.1=(if t % 4=1\/t % 4=3 then w else h):=by
 rw[turned_eq]
 dsimp only
 have h4:t % 4<4:=Nat.mod_lt _ (by decide)
 by_cases a:t % 4=0
 ·simp[a]
 ·by_cases b:t % 4=1
  ·simp[b]
  ·by_cases c:t % 4=2
   ·simp[c]
   ·have d:t % 4=3:=by omega
    simp[d]
theorem turned_inj {t w h x y x' y':Nat}(hx:x<w) (hy:y<h) (hx':x'<w) (hy':y'<h) (e1:(turned t w h x y).2.2.1=(turned t w h x' y').2.2.1) (e2:(turned t w h x y).2.2.2=(turned t w h x' y').2.2.2):x=x'/\y=y':=by
 rw[turned_eq,turned_eq]at e1 e2
 dsimp only at e1 e2
 by_cases f:4<=t
 ·simp only[f,if_true]at e1 e2
  by_cases a:t % 4=0
  ·simp only[a,if_true]at e1 e2;omega
  ·by_cases b:t % 4=1
   ·simp only[b,if_true,if_false,Nat.one_ne_zero]at e1 e2;omega
   ·by_cases c:t % 4=2
    ·simp only[a,b,c,if_true,if_false]at e1 e2
     simp only[if_neg (show ¬(2:Nat)=0 by decide),if_neg (show ¬(2:Nat)=1 by decide)]at e1 e2
     omega
    ·simp only[a,b,c,if_false]at e1 e2;omega
 ·simp only[f,if_false]at e1 e2
  by_cases a:t % 4=0
  ·simp only[a,if_true]at e1 e2;omega
  ·by_cases b:t % 4=1
   ·simp only[b,if_true,if_false,Nat.one_ne_zero]at e1 e2;omega
   ·by_cases c:t % 4=2
    ·simp only[a,b,c,if_true,if_false]at e1 e2
     simp only[if_neg (show ¬(2:Nat)=0 by decide),if_neg (show ¬(2:Nat)=1 by decide)]at e1 e2
     omega
    ·simp only[a,b,c,if_false]at e1 e2;omega
theorem fits_cell {r:Rules}{t:Nat}{p:Nat×Nat}(hf:r.fits t=true) (hp:p.1<r.wide/\p.2<r.high) :
  (turned t r.wide r.high p.1 p.2).1=r.wide/\(turned t r.wide r.high p.1 p.2).2.1=r.high/\r.kind (turned t r.wide r.high p.1 p.2).2.2.1 (turned t r.wide r.high p.1 p.2).2.2.2=r.kind p.1 p.2:=by
 unfold Rules.fits at hf
 rw[List.all_eq_true]at hf
 have:=hf p (mem_cells.mpr hp)
 dsimp only at this
 simp only[Bool.and_eq_true,beq_iff_eq]at this
 exact this
theorem isCell_iff {r:Rules}{c:Nat}:r.isCell c=true↔c % 13<r.wide/\c / 13<r.high:=by
 unfold Rules.isCell STRIDE
 simp
theorem turnCell_eq (r:Rules) (t c:Nat):r.turnCell t c=cellOf (turned t r.wide r.high (c % 13) (c / 13)).2.2.1 (turned t r.wide r.high (c % 13) (c / 13)).2.2.2:=rfl
theorem turnCell_cell {r:Rules}{t c:Nat}(hw:r.wide<=13) (hf:r.fits t=true) (hc:r.isCell c=true):r.isCell (r.turnCell t c)=true/\kindN r (r.turnCell t c)=kindN r c:=by
 have hc':=isCell_iff.mp hc
 obtain⟨e1,e2,e3⟩:=fits_cell (p:=(c % 13,c / 13)) hf hc'
 obtain⟨i1,i2⟩:=turned_in (t:=t) hc'.1 hc'.2
 dsimp only at e1 e2 e3
 rw[e1]at i1
 rw[e2]at i2
 have q:r.isCell (r.turnCell t c)=true:=by
  rw[turnCell_eq]
  exact isCell_cell (p:=(_,_)) hw ⟨i1,i2⟩
 refine⟨q,?_⟩
 unfold kindN
 rw[if_pos q,if_pos hc,turnCell_eq,cell_mod (by omega),cell_div (by omega),e3]
theorem turnCell_inj {r:Rules}{t c c':Nat}(hw:r.wide<=13) (hf:r.fits t=true) (hc:r.isCell c=true) (hc':r.isCell c'=true) (e:r.turnCell t c=r.turnCell t c'):c=c':=by
 have a:=isCell_iff.mp hc
 have b:=isCell_iff.mp hc'
 obtain⟨e1,e2,_⟩:=fits_cell (p:=(c % 13,c / 13)) hf a
 obtain⟨e1',e2',_⟩:=fits_cell (p:=(c' % 13,c' / 13)) hf b
 have i:=turned_in (t:=t) a.1 a.2
 have i':=turned_in (t:=t) b.1 b.2
 dsimp only at e1 e2 e1' e2'
 rw[e1,e2]at i
 rw[e1',e2']at i'
 rw[turnCell_eq,turnCell_eq]at e
 have z:=cell_inj (p:=((turned t r.wide r.high (c % 13) (c / 13)).2.2.1,(turned t r.wide r.high (c % 13) (c / 13)).2.2.2)) (q:=((turned t r.wide r.high (c' % 13) (c' / 13)).2.2.1,(turned t r.wide r.high (c' % 13) (c' / 13)).2.2.2)) (by dsimp only;omega) (by dsimp only;omega) e
 obtain⟨z1,z2⟩:=turned_inj a.1 a.2 b.1 b.2 (congrArg Prod.fst z) (congrArg Prod.snd z)
 omega
theorem kindN_isCell {r:Rules}{c:Nat}(h:kindN r c≠none):r.isCell c=true:=by
 unfold kindN at h
 split at h
 ·assumption
 ·exact absurd rfl h
theorem turn_is {r:Rules}{t:Nat}{p:Pos}{hs ms hs' ms':List Nat}(hw:r.wide<=13) (hh:r.high<=13) (hf:r.fits t=true) (P:PosIs p hs ms) (R:rightN r hs ms p.king p.side)
  (p1:hs'.Perm (hs.map (r.turnCell t))) (s1:hs'.Pairwise (·<=·)) (p2:ms'.Perm (ms.map (r.turnCell t))) (s2:ms'.Pairwise (·<=·)) :
  PosIs (r.turnPos t p) hs' ms'/\rightN r hs' ms' (r.turnPos t p).king (r.turnPos t p).side:=by
 obtain⟨hd,hall,hnd⟩:=R
 obtain⟨a1,a2,a3⟩:=all_pieceCells.mp hall
 have nh:hs.Nodup:=by rw[<-P.h];exact (cellsIn_pairwise _).imp λh=>Nat.ne_of_lt h
 have nm:ms.Nodup:=by rw[<-P.m];exact (cellsIn_pairwise _).imp λh=>Nat.ne_of_lt h
 obtain⟨d1,d2⟩:=(nd_pieceCells nh nm).mp hnd
 have ch:∀c∈hs,r.isCell c=true:=λc hc=>kindN_isCell (mayStandN_cell (a1 c hc))
 have cm:∀c∈ms,r.isCell c=true:=λc hc=>kindN_isCell (mayStandN_cell (a2 c hc))
 have ck:p.king≠255->r.isCell p.king=true:=λz=>kindN_isCell (mayStandN_cell (a3 z))
 have lt:∀c,r.isCell c=true->c<169:=λc hc=>cell_lt hh (by unfold kindN;rw[if_pos hc];intro z;cases z)
 have mh:(hs.map (r.turnCell t)).Nodup:=nodup_map_of nh λa ha b hb e=>turnCell_inj hw hf (ch a ha) (ch b hb) e
 have mm:(ms.map (r.turnCell t)).Nodup:=nodup_map_of nm λa ha b hb e=>turnCell_inj hw hf (cm a ha) (cm b hb) e
 have lh:∀c∈hs.map (r.turnCell t),c<GONE:=λc hc=>by
  obtain⟨b,hb,rfl⟩:=List.mem_map.mp hc
  have:=lt _ (turnCell_cell hw hf (ch b hb)).1
  unfold GONE;omega
 have lm:∀c∈ms.map (r.turnCell t),c<GONE:=λc hc=>by
  obtain⟨b,hb,rfl⟩:=List.mem_map.mp hc
  have:=lt _ (turnCell_cell hw hf (cm b hb)).1
  unfold GONE;omega
 have eh:(r.turnPos t p).hunters=setFrom (hs.map (r.turnCell t)):=by unfold Rules.turnPos;rw[P.h]
 have em:(r.turnPos t p).men=setFrom (ms.map (r.turnCell t)):=by unfold Rules.turnPos;rw[P.m]
 have ek:(r.turnPos t p).king=if p.king=255 then 255 else r.turnCell t p.king:=rfl
 have kk:(r.turnPos t p).king≠255↔p.king≠255:=by
  rw[ek]
  by_cases z:p.king=255
  ·simp[z]
  ·rw[if_neg z]
   have:=lt _ (turnCell_cell hw hf (ck z)).1
   constructor
   ·intro _;exact z
   ·intro _;omega
 refine⟨⟨by rw[eh];exact sorted_is p1 s1 mh lh,by rw[em];exact sorted_is p2 s2 mm lm,by rw[eh];exact setFrom_lt lh,by rw[em];exact setFrom_lt lm⟩,hd,all_pieceCells.mpr ⟨λc hc=>?_,λc hc=>?_,λz=>?_⟩,
  (nd_pieceCells (p1.nodup_iff.mpr mh) (p2.nodup_iff.mpr mm)).mpr ⟨λc hc=>?_,λz=>?_⟩⟩
 ·obtain⟨b,hb,rfl⟩:=List.mem_map.mp (p1.mem_iff.mp hc)
  dsimp only
  rw[(turnCell_cell hw hf (ch b hb)).2]
  exact a1 b hb
 ·obtain⟨b,hb,rfl⟩:=List.mem_map.mp (p2.mem_iff.mp hc)
  dsimp only
  rw[(turnCell_cell hw hf (cm b hb)).2]
  exact a2 b hb
 ·have z':=kk.mp z
  dsimp only
  rw[ek,if_neg z',(turnCell_cell hw hf (ck z')).2]
  exact a3 z'
 ·obtain⟨b,hb,e⟩:=List.mem_map.mp (p1.mem_iff.mp hc.1)
  obtain⟨b',hb',e'⟩:=List.mem_map.mp (p2.mem_iff.mp hc.2)
  have:=turnCell_inj hw hf (ch b hb) (cm b' hb') (e.trans e'.symm)
  subst this
  exact d1 b ⟨hb,hb'⟩
 ·have z':=kk.mp z
  obtain⟨d3,d4⟩:=d2 z'
  rw[ek,if_neg z']
  constructor
  ·intro q
   obtain⟨b,hb,e⟩:=List.mem_map.mp (p1.mem_iff.mp q)
   have:=turnCell_inj hw hf (ch b hb) (ck z') e
   subst this
   exact d3 hb
  ·intro q
   obtain⟨b,hb,e⟩:=List.mem_map.mp (p2.mem_iff.mp q)
   have:=turnCell_inj hw hf (cm b hb) (ck z') e
   subst this
   exact d4 hb
end Tm
end
section
namespace Tm
open Tafl
theorem mem_piece {l:List Got}{p:Piece}{c:Nat}:c∈cellsOfPiece l p↔∃g∈l,g.1=p/\g.2.1=c:=by
 unfold cellsOfPiece
 simp only[List.mem_map,List.mem_filter,decide_eq_true_eq]
 constructor
 ·rintro⟨g,⟨h1,h2⟩,h3⟩;exact⟨g,h1,h2,h3⟩
 ·rintro⟨g,h1,h2,h3⟩;exact⟨g,⟨h1,h2⟩,h3⟩
theorem nodup_eq {l:List Got}(nd:(l.map λg=>g.2.1).Nodup){g g':Got}(h:g∈l) (h':g'∈l) (e:g.2.1=g'.2.1):g=g':=by
 induction l with
 | nil=>simp at h
 | cons a l ih =>
  rw[List.map_cons,List.nodup_cons]at nd
  rcases List.mem_cons.mp h with e1 | h1
  ·rcases List.mem_cons.mp h' with e2 | h2
   ·rw[e1,e2]
   ·exact absurd (List.mem_map.mpr ⟨g',h2,by rw[<-e,e1]⟩) nd.1
  ·rcases List.mem_cons.mp h' with e2 | h2
   ·exact absurd (List.mem_map.mpr ⟨g,h1,by rw[e,e2]⟩) nd.1
   ·exact ih nd.2 h1 h2
theorem king_cell {l:List Got}{c:Nat}(h:(cellsOfPiece l .king).head?=some c):∃g∈l,g.1=.king/\g.2.1=c:=mem_piece.mp (List.mem_of_mem_head? (by rw[h];rfl))
theorem read_is {r:Rules}{l:List Got}{s:Nat}{hs ms:List Nat}(hh:r.high<=13) (hs1:s<=1) (none_:∀g∈l,g.1≠.none) (nd:(l.map λg=>g.2.1).Nodup) (hb:badPiece r l=none)
  (p1:hs.Perm (cellsOfPiece l .hunter)) (s1:hs.Pairwise (·<=·)) (p2:ms.Perm (cellsOfPiece l .man)) (s2:ms.Pairwise (·<=·)) :
  PosIs (posOf l s) hs ms/\rightN r hs ms (posOf l s).king (posOf l s).side:=by
 unfold badPiece at hb
 rw[List.find?_eq_none]at hb
 have may:∀g∈l,mayStandN (kindN r g.2.1) (pieceNum g.1)=true:=λg hg=>by
  have:=hb g hg
  simp only[Bool.not_eq_true,Bool.not_eq_false']at this
  rw[mayStand_N (none_ g hg)]
  exact this
 have lt:∀g∈l,g.2.1<169:=λg hg=>cell_lt hh (mayStandN_cell (may g hg))
 have lh:∀p,∀c∈cellsOfPiece l p,c<GONE:=λp c hc=>by
  obtain⟨g,hg,_,rfl⟩:=mem_piece.mp hc
  have:=lt g hg
  unfold GONE;omega
 have kc:(posOf l s).king≠255->∃g∈l,g.1=.king/\g.2.1=(posOf l s).king:=λz=>by
  cases e:(cellsOfPiece l .king).head? with
  | none =>
   have:(posOf l s).king=255:=by unfold posOf;rw[e];rfl
   exact absurd this z
  | some c =>
   have:(posOf l s).king=c:=by unfold posOf;rw[e];rfl
   rw[this]
   exact king_cell e
 refine⟨⟨sorted_is p1 s1 (nodup_piece nd _) (lh _),sorted_is p2 s2 (nodup_piece nd _) (lh _),setFrom_lt (lh _),setFrom_lt (lh _)⟩,hs1,all_pieceCells.mpr ⟨λc hc=>?_,λc hc=>?_,λz=>?_⟩,
  (nd_pieceCells (p1.nodup_iff.mpr (nodup_piece nd _)) (p2.nodup_iff.mpr (nodup_piece nd _))).mpr ⟨λc hc=>?_,λz=>?_⟩⟩
 ·obtain⟨g,hg,e,rfl⟩:=mem_piece.mp (p1.mem_iff.mp hc)
  have:=may g hg
  rw[e]at this
  exact this
 ·obtain⟨g,hg,e,rfl⟩:=mem_piece.mp (p2.mem_iff.mp hc)
  have:=may g hg
  rw[e]at this
  exact this
 ·obtain⟨g,hg,e,e2⟩:=kc z
  have:=may g hg
  rw[e,e2]at this
  exact this
 ·obtain⟨g,hg,e,e2⟩:=mem_piece.mp (p1.mem_iff.mp hc.1)
  obtain⟨g',hg',e',e2'⟩:=mem_piece.mp (p2.mem_iff.mp hc.2)
  have:=nodup_eq nd hg hg' (e2.trans e2'.symm)
  subst this
  rw[e]at e'
  cases e'
 ·obtain⟨g,hg,e,e2⟩:=kc z
  rw[<-e2]
  constructor
  ·intro q
   obtain⟨g',hg',e',e2'⟩:=mem_piece.mp (p1.mem_iff.mp q)
   have:=nodup_eq nd hg hg' e2'.symm
   subst this
   rw[e]at e'
   cases e'
  ·intro q
   obtain⟨g',hg',e',e2'⟩:=mem_piece.mp (p2.mem_iff.mp q)
   have:=nodup_eq nd hg hg' e2'.symm
   subst this
   rw[e]at e'
   cases e'
end Tm
end
section
namespace Tm
open Tafl
abbrev Grounds:=Bytes×Nat×Nat×List (List Kind)×List Nat×List (List Piece)×List Nat
def gGrounds (c:Cur):Except Nat (Grounds×Cur):=do
 let c <- lit (ascii "tafl ") c
 let (n,c) <- nameIn c
 let c <- lit [32] c
 let (w,c) <- number 5 13 c
 let c <- lit [32] c
 let (h,c) <- number 5 13 c
 let c <- lit (ascii "\nground\n") c
 let (g,gp,c) <- rowsIn kindSign w h c
 let c <- lit (ascii "start\n") c
 let (s,sp,c) <- rowsIn pieceSign w h c
 return ((n,w,h,g,gp,s,sp),c)
def gPieces (c:Cur):Except Nat ((Nat×Nat×Nat×Nat)×Cur):=do
 let c <- lit (ascii "first ") c
 let (f,c) <- word ["hunters","king"] c
 let c <- lit (ascii "\nking ") c
 let (k1,c) <- word ["steps","slides"] c
 let c <- lit [32] c
 let (k2,c) <- word ["bare","armed"] c
 let c <- lit [32] c
 let (k3,c) <- word ["two","four"] c
 let c <- lit [LF] c
 return ((f,k1,k2,k3),c)
def gCells (c:Cur):Except Nat ((Nat×Nat×Nat)×Cur):=do
 let c <- lit (ascii "seat ") c
 let (s1,c) <- word ["barred","passed"] c
 let c <- lit [32] c
 let (s2,c) <- word ENMITY c
 let c <- lit (ascii "\nexits ") c
 let (x,c) <- word ENMITY c
 let c <- lit [LF] c
 return ((s1,s2,x),c)
def gEnds (c:Cur):Except Nat ((Nat×Nat×Nat×Nat)×Cur):=do
 let c <- lit (ascii "goal ") c
 let p:=c.at_
 let (o,c) <- word ["edge","exits"] c
 let c <- lit (ascii "\nthrice ") c
 let (t,c) <- word ["drawn","hunters","king"] c
 let c <- lit (ascii "\nlimit ") c
 let (l,c) <- number 1 60000 c
 let c <- lit [LF] c
 if c.rest=[] then return ((p,o,t,l),c) else .error c.at_
def rulesFrom (g:Grounds) (p:Nat×Nat×Nat×Nat) (s:Nat×Nat×Nat) (e:Nat×Nat×Nat×Nat):Rules :=
 ⟨g.1,g.2.1,g.2.2.1,g.2.2.2.1,g.2.2.2.2.1,g.2.2.2.2.2.1,g.2.2.2.2.2.2,p.1,p.2.1 == 1,p.2.2.1 == 1,p.2.2.2 == 1,s.1 == 1,s.2.1,s.2.2,e.2.1,e.1,e.2.2.1,e.2.2.2⟩
def gram (c:Cur):Except Nat Rules:=do
 let (g,c) <- gGrounds c
 let (p,c) <- gPieces c
 let (s,c) <- gCells c
 let (e,_) <- gEnds c
 return rulesFrom g p s e
theorem lit_append:∀(a b:Bytes) (c:Cur),lit (a++b) c=(lit a c).bind (lit b)
 | [],b,c=>rfl
 | x::a,b,c=>by
  rw[List.cons_append,lit,lit]
  split
  ·exact lit_append a b c.on
  ·rfl
theorem bind_ok {α β:Type}{x:α}{f:α->Except Nat β}:(Except.ok x:Except Nat α) >>= f=f x:=rfl
theorem bind_error {α β:Type}{x:Nat}{f:α->Except Nat β}:(Except.error x:Except Nat α) >>= f=.error x:=rfl
theorem lit_seat (c:Cur):lit (ascii "\nseat ") c=(lit [LF] c).bind (lit (ascii "seat ")):=by
 rw[<-lit_append,show ascii "\nseat "=[LF]++ascii "seat " by decide +kernel]
theorem lit_goal (c:Cur):lit (ascii "\ngoal ") c=(lit [LF] c).bind (lit (ascii "goal ")):=by
 rw[<-lit_append,show ascii "\ngoal "=[LF]++ascii "goal " by decide +kernel]
theorem gram_eq (b:Bytes):grammar b=gram ⟨b,0⟩:=by
 unfold grammar gram gGrounds gPieces gCells gEnds
 cases lit (ascii "tafl ") ⟨b,0⟩ with
 | error e=>rfl
 | ok c =>
 simp only[bind_ok]
 cases nameIn c with
 | error e=>rfl
 | ok q =>
 obtain⟨n,c⟩:=q
 simp only[bind_ok]
 cases lit [32] c with
 | error e=>rfl
 | ok c =>
 simp only[bind_ok]
 cases number 5 13 c with
 | error e=>rfl
 | ok q =>
 obtain⟨w,c⟩:=q
 simp only[bind_ok]
 cases lit [32] c with
 | error e=>rfl
 | ok c =>
 simp only[bind_ok]
 cases number 5 13 c with
 | error e=>rfl
 | ok q =>
 obtain⟨h,c⟩:=q
 simp only[bind_ok]
 cases lit (ascii "\nground\n") c with
 | error e=>rfl
 | ok c =>
 simp only[bind_ok]
 cases rowsIn kindSign w h c with
 | error e=>rfl
 | ok q =>
 obtain⟨g,gp,c⟩:=q
 simp only[bind_ok]
 cases lit (ascii "start\n") c with
 | error e=>rfl
 | ok c =>
 simp only[bind_ok]
 cases rowsIn pieceSign w h c with
 | error e=>rfl
 | ok q =>
 obtain⟨s,sp,c⟩:=q
 simp only[bind_ok,pure,Except.pure]
 cases lit (ascii "first ") c with
 | error e=>rfl
 | ok c =>
 simp only[bind_ok]
 cases word ["hunters","king"] c with
 | error e=>rfl
 | ok q =>
 obtain⟨f,c⟩:=q
 simp only[bind_ok]
 cases lit (ascii "\nking ") c with
 | error e=>rfl
 | ok c =>
 simp only[bind_ok]
 cases word ["steps","slides"] c with
 | error e=>rfl
 | ok q =>
 obtain⟨k1,c⟩:=q
 simp only[bind_ok]
 cases lit [32] c with
 | error e=>rfl
 | ok c =>
 simp only[bind_ok]
 cases word ["bare","armed"] c with
 | error e=>rfl
 | ok q =>
 obtain⟨k2,c⟩:=q
 simp only[bind_ok]
 cases lit [32] c with
 | error e=>rfl
 | ok c =>
 simp only[bind_ok]
 cases word ["two","four"] c with
 | error e=>rfl
 | ok q =>
 obtain⟨k3,c⟩:=q
 simp only[bind_ok]
 rw[lit_seat]
 cases lit [LF] c with
 | error e=>rfl
 | ok c =>
 simp only[bind_ok,Except.bind]
 cases lit (ascii "seat ") c with
 | error e=>rfl
 | ok c =>
 simp only[bind_ok]
 cases word ["barred","passed"] c with
 | error e=>rfl
 | ok q =>
 obtain⟨s1,c⟩:=q
 simp only[bind_ok]
 cases lit [32] c with
 | error e=>rfl
 | ok c =>
 simp only[bind_ok]
 cases word ENMITY c with
 | error e=>rfl
 | ok q =>
 obtain⟨s2,c⟩:=q
 simp only[bind_ok]
 cases lit (ascii "\nexits ") c with
 | error e=>rfl
 | ok c =>
 simp only[bind_ok]
 cases word ENMITY c with
 | error e=>rfl
 | ok q =>
 obtain⟨x,c⟩:=q
 simp only[bind_ok]
 rw[lit_goal]
 cases lit [LF] c with
 | error e=>rfl
 | ok c =>
 simp only[bind_ok,Except.bind]
 cases lit (ascii "goal ") c with
 | error e=>rfl
 | ok c =>
 simp only[bind_ok]
 cases word ["edge","exits"] c with
 | error e=>rfl
 | ok q =>
 obtain⟨o,c⟩:=q
 simp only[bind_ok]
 cases lit (ascii "\nthrice ") c with
 | error e=>rfl
 | ok c =>
 simp only[bind_ok]
 cases word ["drawn","hunters","king"] c with
 | error e=>rfl
 | ok q =>
 obtain⟨t,c⟩:=q
 simp only[bind_ok]
 cases lit (ascii "\nlimit ") c with
 | error e=>rfl
 | ok c =>
 simp only[bind_ok]
 cases number 1 60000 c with
 | error e=>rfl
 | ok q =>
 obtain⟨l,c⟩:=q
 simp only[bind_ok]
 cases lit [LF] c with
 | error e=>rfl
 | ok c =>
 simp only[bind_ok]
 split
 ·rfl
 ·rfl
end Tm
end
section
namespace Tm
open Tafl
def ofBytes (b:Bytes):List Int:=b.map λc=>(c.toNat:Int)
def ofNats (l:List Nat):List Int:=l.map λ(n:Nat)=>(n:Int)
theorem ofBytes_length (b:Bytes):(ofBytes b).length=b.length:=by unfold ofBytes;rw[List.length_map]
theorem ofNats_length (b:List Nat):(ofNats b).length=b.length:=by unfold ofNats;rw[List.length_map]
theorem text_some {t:List Int}(h:(t.all λz=>decide (0<=z)&&decide (z<=255))=true):∃b,text? t=some b/\t=ofBytes b:=by
 refine⟨t.map λn=>UInt8.ofNat n.toNat,?_,?_⟩
 ·unfold text? NeutralIO.bytes
  rw[if_pos h]
 ·unfold ofBytes
  rw[List.map_map]
  rw[List.all_eq_true]at h
  have:∀z∈t,((λc:UInt8=>(c.toNat:Int)) ∘ λn=>UInt8.ofNat n.toNat) z=z:=by
   intro z hz
   have q:=h z hz
   simp only[Bool.and_eq_true,decide_eq_true_eq]at q
   dsimp only[Function.comp]
   rw[UInt8.toNat_ofNat_of_lt' (by show z.toNat<256;omega)]
   omega
  conv=>lhs;rw[<-List.map_id t]
  exact (List.map_congr_left λz hz=>(this z hz)).symm
theorem row_some {t:List Int}(h:(t.all λz=>decide (0<=z))=true):∃l,row? t=some l/\t=ofNats l:=by
 unfold row?
 induction t with
 | nil=>exact⟨[],rfl,rfl⟩
 | cons z t ih =>
  rw[List.all_cons,Bool.and_eq_true,decide_eq_true_eq]at h
  obtain⟨l,e1,e2⟩:=ih h.2
  refine⟨z.toNat::l,?_,?_⟩
  ·rw[List.mapM_cons,e1]
   unfold nat?
   rw[if_pos h.1]
   rfl
  ·unfold ofNats at e2 ⊢
   rw[List.map_cons,<-e2]
   congr 1
   omega
theorem rows_zero {r:List Int}{xs:List (List Int)}{t:List Int}(h:PyFlat.rows 0 r=some (xs,t)):xs=[]/\t=r:=by
 rw[PyFlat.rows]at h
 cases h
 exact⟨rfl,rfl⟩
theorem rows_succ {k:Nat}{r:List Int}{xs:List (List Int)}{t:List Int}(h:PyFlat.rows (k+1) r=some (xs,t)) :
  ∃(x s:List Int) (ys:List (List Int)),r=(x.length:Int)::(x++s)/\xs=x::ys/\PyFlat.rows k s=some (ys,t):=by
 rw[PyFlat.rows]at h
 cases e:PyFlat.row r with
 | none=>rw[e]at h;cases h
 | some p =>
  obtain⟨x,s⟩:=p
  rw[e]at h
  dsimp only at h
  cases e2:PyFlat.rows k s with
  | none=>rw[e2]at h;cases h
  | some q =>
   obtain⟨ys,t'⟩:=q
   rw[e2]at h
   cases h
   refine⟨x,s,ys,?_,rfl,e2⟩
   cases r with
   | nil=>cases e
   | cons n r =>
    rw[PyFlat.row]at e
    split at e
    ·rename_i hn
     cases e
     rw[List.take_append_drop,List.length_take]
     congr 1
     omega
    ·cases e
theorem calls_cons {f:Nat}{p:Int}{r:List Int}{cs:List (List (List Int))}(h:PyFlat.calls PyWqaccz.shape f (p::r)=some cs) :
  ∃n k xs t f' cs',PyWqaccz.shape p=some (n,k)/\n<=r.length/\PyFlat.rows k (r.drop n)=some (xs,t)/\cs=((p::r.take n)::xs)::cs'/\PyFlat.calls PyWqaccz.shape f' t=some cs':=by
 cases f with
 | zero=>rw[PyFlat.calls]at h;cases h
 | succ f =>
  rw[PyFlat.calls]at h
  cases e:PyFlat.call PyWqaccz.shape (p::r) with
  | none=>rw[e]at h;cases h
  | some q =>
   obtain⟨c,t⟩:=q
   rw[e]at h
   dsimp only at h
   cases e2:PyFlat.calls PyWqaccz.shape f t with
   | none=>rw[e2]at h;cases h
   | some cs' =>
    rw[e2]at h
    cases h
    rw[PyFlat.call]at e
    cases e3:PyWqaccz.shape p with
    | none=>rw[e3]at e;cases e
    | some nk =>
     obtain⟨n,k⟩:=nk
     rw[e3]at e
     dsimp only at e
     split at e
     ·cases e
     ·rename_i hn
      cases e4:PyFlat.rows k (r.drop n) with
      | none=>rw[e4]at e;cases e
      | some q =>
       obtain⟨xs,t'⟩:=q
       rw[e4]at e
       cases e
       exact⟨n,k,xs,t,f,cs',rfl,by omega,e4,rfl,e2⟩
def callNums:TaflPlaces.Call->List Int
 | .rules t=>0::(t.length:Int)::ofBytes t
 | .begin_=>[1]
 | .read b=>2::(b.length:Int)::ofBytes b
 | .write h m k d=>3::(k:Int)::(d:Int)::(h.length:Int)::(ofNats h++((m.length:Int)::ofNats m))
 | .turn b t=>4::(t:Int)::(b.length:Int)::ofBytes b
 | .least b=>5::(b.length:Int)::ofBytes b
 | .alike a b=>6::(a.length:Int)::(ofBytes a++((b.length:Int)::ofBytes b))
theorem shape_cases {p:Int}{n k:Nat}(h:PyWqaccz.shape p=some (n,k)):p=0/\n=0/\k=1\/p=1/\n=0/\k=0\/p=2/\n=0/\k=1\/p=3/\n=2/\k=2\/p=4/\n=1/\k=1\/p=5/\n=0/\k=1\/p=6/\n=0/\k=2:=by
 unfold PyWqaccz.shape at h
 repeat' split at h
 all_goals first | (cases h;done) | (cases h;simp_all)
theorem take_two {r:List Int}(h:2<=r.length):∃a b s,r=a::b::s:=by
 match r,h with
 | a::b::s,_=>exact⟨a,b,s,rfl⟩
theorem take_one {r:List Int}(h:1<=r.length):∃a s,r=a::s:=by
 match r,h with
 | a::s,_=>exact⟨a,s,rfl⟩
theorem turn_cases {f:Nat}{p:Int}{r:List Int}{cs:List (List (List Int))}(h:PyFlat.calls PyWqaccz.shape f (p::r)=some cs) (ha:((cs.map PyWqaccz.whole).all TaflPlacesNeutral.asked1)=true) :
  ∃(x:TaflPlaces.Call) (t:List Int) (f':Nat) (cs':List (List (List Int))) (c:List (List Int)),p::r=callNums x++t/\PyFlat.calls PyWqaccz.shape f' t=some cs'/\((cs'.map PyWqaccz.whole).all TaflPlacesNeutral.asked1)=true /\
   cs.map PyWqaccz.whole=c::cs'.map PyWqaccz.whole/\TaflPlacesNeutral.callOf c=some x:=by
 obtain⟨n,k,xs,t,f',cs',hs,hn,hr,rfl,hc⟩:=calls_cons h
 rw[List.map_cons,List.all_cons,Bool.and_eq_true]at ha
 obtain⟨ha1,ha2⟩:=ha
 rcases shape_cases hs with⟨rfl,rfl,rfl⟩|⟨rfl,rfl,rfl⟩|⟨rfl,rfl,rfl⟩|⟨rfl,rfl,rfl⟩|⟨rfl,rfl,rfl⟩|⟨rfl,rfl,rfl⟩|⟨rfl,rfl,rfl⟩
 ·obtain⟨x,s,ys,e1,rfl,h1⟩:=rows_succ hr
  obtain⟨rfl,rfl⟩:=rows_zero h1
  rw[List.drop_zero]at e1
  subst e1
  have q:(x.all λz=>decide (0<=z)&&decide (z<=255))=true:=ha1
  obtain⟨b,eb,rfl⟩:=text_some q
  refine⟨.rules b,t,f',cs',[[0],ofBytes b],?_,hc,ha2,rfl,?_⟩
  ·rw[callNums,ofBytes_length];simp
  ·show (text? (ofBytes b)).map _=_
   rw[eb];rfl
 ·obtain⟨rfl,rfl⟩:=rows_zero hr
  exact⟨.begin_,_,f',cs',[[1]],rfl,hc,ha2,rfl,rfl⟩
 ·obtain⟨x,s,ys,e1,rfl,h1⟩:=rows_succ hr
  obtain⟨rfl,rfl⟩:=rows_zero h1
  rw[List.drop_zero]at e1
  subst e1
  have q:(x.all λz=>decide (0<=z)&&decide (z<=255))=true:=ha1
  obtain⟨b,eb,rfl⟩:=text_some q
  refine⟨.read b,t,f',cs',[[2],ofBytes b],?_,hc,ha2,rfl,?_⟩
  ·rw[callNums,ofBytes_length];simp
  ·show (text? (ofBytes b)).map _=_
   rw[eb];rfl
 ·obtain⟨k,d,r,rfl⟩:=take_two hn
  obtain⟨x,s,ys,e1,rfl,h1⟩:=rows_succ hr
  obtain⟨y,s2,zs,e2,rfl,h2⟩:=rows_succ h1
  obtain⟨rfl,rfl⟩:=rows_zero h2
  have e1:r=(x.length:Int)::(x++s):=e1
  subst e1 e2
  have q:(decide (0<=k)&&(decide (0<=d)&&(x.all (λz=>decide (0<=z))&&y.all (λz=>decide (0<=z)))))=true:=ha1
  simp only[Bool.and_eq_true,decide_eq_true_eq]at q
  obtain⟨q1,q2,q3,q4⟩:=q
  obtain⟨h',eh,rfl⟩:=row_some q3
  obtain⟨m',em,rfl⟩:=row_some q4
  refine⟨.write h' m' k.toNat d.toNat,t,f',cs',[[3,k,d],ofNats h',ofNats m'],?_,hc,ha2,rfl,?_⟩
  ·rw[callNums,ofNats_length,ofNats_length,Int.toNat_of_nonneg q1,Int.toNat_of_nonneg q2];simp
  ·show (do return TaflPlaces.Call.write (<- row? (ofNats h')) (<- row? (ofNats m')) (<- nat? k) (<- nat? d))=_
   rw[eh,em]
   unfold nat?
   rw[if_pos q1,if_pos q2]
   rfl
 ·obtain⟨k,r,rfl⟩:=take_one hn
  obtain⟨x,s,ys,e1,rfl,h1⟩:=rows_succ hr
  obtain⟨rfl,rfl⟩:=rows_zero h1
  have e1:r=(x.length:Int)::(x++t):=e1
  subst e1
  have q:(decide (0<=k)&&x.all λz=>decide (0<=z)&&decide (z<=255))=true:=ha1
  rw[Bool.and_eq_true,decide_eq_true_eq]at q
  obtain⟨b,eb,rfl⟩:=text_some q.2
  refine⟨.turn b k.toNat,t,f',cs',[[4,k],ofBytes b],?_,hc,ha2,rfl,?_⟩
  ·rw[callNums,ofBytes_length,Int.toNat_of_nonneg q.1];simp
  ·show (do return TaflPlaces.Call.turn (<- text? (ofBytes b)) (<- nat? k))=_
   rw[eb]
   unfold nat?
   rw[if_pos q.1]
   rfl
 ·obtain⟨x,s,ys,e1,rfl,h1⟩:=rows_succ hr
  obtain⟨rfl,rfl⟩:=rows_zero h1
  rw[List.drop_zero]at e1
  subst e1
  have q:(x.all λz=>decide (0<=z)&&decide (z<=255))=true:=ha1
  obtain⟨b,eb,rfl⟩:=text_some q
  refine⟨.least b,t,f',cs',[[5],ofBytes b],?_,hc,ha2,rfl,?_⟩
  ·rw[callNums,ofBytes_length];simp
  ·show (text? (ofBytes b)).map _=_
   rw[eb];rfl
 ·obtain⟨x,s,ys,e1,rfl,h1⟩:=rows_succ hr
  obtain⟨y,s2,zs,e2,rfl,h2⟩:=rows_succ h1
  obtain⟨rfl,rfl⟩:=rows_zero h2
  rw[List.drop_zero]at e1
  subst e1 e2
  have q:(x.all (λz=>decide (0<=z)&&decide (z<=255))&&y.all (λz=>decide (0<=z)&&decide (z<=255)))=true:=ha1
  rw[Bool.and_eq_true]at q
  obtain⟨a',ea,rfl⟩:=text_some q.1
  obtain⟨b',eb,rfl⟩:=text_some q.2
  refine⟨.alike a' b',t,f',cs',[[6],ofBytes a',ofBytes b'],?_,hc,ha2,rfl,?_⟩
  ·rw[callNums,ofBytes_length,ofBytes_length];simp
  ·show (do return TaflPlaces.Call.alike (<- text? (ofBytes a')) (<- text? (ofBytes b')))=_
   rw[ea,eb]
   rfl
def toldFrom (s:TaflPlaces.State) (cs:List (List (List Int))):List Int:=PyFlat.told (PyFlat.played TaflPlacesNeutral.step s cs)
theorem toldFrom_cons {s:TaflPlaces.State}{c:List (List Int)}{cs:List (List (List Int))}{x:TaflPlaces.Call}(h:TaflPlacesNeutral.callOf c=some x) :
  toldFrom s (c::cs)=(((TaflPlaces.step s x).2.nums.length:Int)::(TaflPlaces.step s x).2.nums)++toldFrom (TaflPlaces.step s x).1 cs:=by
 unfold toldFrom
 rw[PyFlat.played]
 have e:TaflPlacesNeutral.step s c=((TaflPlaces.step s x).1,(TaflPlaces.step s x).2.nums):=by
  unfold TaflPlacesNeutral.step
  rw[h]
 rw[e]
 unfold PyFlat.told
 rw[List.flatMap_cons]
structure CallsAt (l:List Int) (used:Nat) (s:TaflPlaces.State) (out:List Int) (done:Nat):Prop where
 go:∃f cs,PyFlat.calls PyWqaccz.shape f (l.drop used)=some cs/\((cs.map PyWqaccz.whole).all TaflPlacesNeutral.asked1)=true/\PyWqaccz.answers l=out++toldFrom s (cs.map PyWqaccz.whole)/\cs.length+done<=300
 le:used<=l.length
theorem CallsAt.start {l:List Int}(h:PyWqaccz.answers_asked l=true):CallsAt l 0 TaflPlaces.start [] 0:=by
 unfold PyWqaccz.answers_asked PyWqaccz.calls at h
 refine⟨?_,Nat.zero_le _⟩
 cases e:PyFlat.calls PyWqaccz.shape l.length l with
 | none=>rw[e]at h;cases h
 | some cs =>
  rw[e]at h
  dsimp only at h
  unfold TaflPlacesNeutral.asked at h
  rw[Bool.and_eq_true,Bool.and_eq_true]at h
  refine⟨l.length,cs,e,h.2.2,?_,?_⟩
  ·unfold PyWqaccz.answers PyWqaccz.calls
   rw[e]
   rfl
  ·have:=h.1
   unfold PyFlat.atMost at this
   rw[decide_eq_true_eq,List.length_map]at this
   omega
theorem CallsAt.fin {l:List Int}{s:TaflPlaces.State}{out:List Int}{dn:Nat}(C:CallsAt l l.length s out dn):PyWqaccz.answers l=out:=by
 obtain⟨⟨f,cs,e,_,h,_⟩,_⟩:=C
 rw[List.drop_length,PyFlat.calls]at e
 cases e
 rw[h]
 show out++[]=out
 rw[List.append_nil]
theorem CallsAt.turn {l:List Int}{used:Nat}{s:TaflPlaces.State}{out:List Int}{dn:Nat}(C:CallsAt l used s out dn) (h:used<l.length) :
  ∃(x:TaflPlaces.Call) (t:List Int),l.drop used=callNums x++t/\l=l.take used++(callNums x++t) /\
   CallsAt l (used+(callNums x).length) (TaflPlaces.step s x).1 (out++(((TaflPlaces.step s x).2.nums.length:Int)::(TaflPlaces.step s x).2.nums)) (dn+1)/\dn+1<=300:=by
 obtain⟨⟨f,cs,e,ha,hl,hn⟩,hu⟩:=C
 cases er:l.drop used with
 | nil=>rw[List.drop_eq_nil_iff]at er;omega
 | cons p r =>
  rw[er]at e
  obtain⟨x,t,f',cs',c,e1,e2,e3,e4,e5⟩:=turn_cases e ha
  have elen:used+(callNums x).length<=l.length:=by
   have:=congrArg List.length (er.trans e1)
   rw[List.length_drop,List.length_append]at this
   omega
  have el:=congrArg List.length e4
  rw[List.length_cons,List.length_map,List.length_map]at el
  refine⟨x,t,e1,?_,⟨⟨f',cs',?_,e3,?_,by omega⟩,elen⟩,by omega⟩
  ·rw[<-e1,<-er,List.take_append_drop]
  ·have:l.drop (used+(callNums x).length)=t:=by
    rw[<-List.drop_drop,er,e1,List.drop_left]
   rw[this]
   exact e2
  ·rw[hl,e4,toldFrom_cons e5,List.append_assoc]
end Tm
end
section
namespace Tm
open Tafl
def SignsOf {α:Type}(l:List String) (sg:UInt8->Option α) (num:α->Nat):Prop:=∀c:Cur,word l c=match c.next.bind sg with
 | some k=>.ok (num k,c.on)
 | none=>.error c.at_
theorem one_sign {c:Cur}{l:List (Nat×Bytes)}{x:UInt8}{i:Nat}(hx:c.next=some x) (h0:(l.find? λw=>w.2.isEmpty)=none) (h1:(l.filterMap λw=>if w.2.head?=some x then some (w.1,w.2.drop 1) else none)=[(i,[])]):oneOf 16 l c=.ok (i,c.on):=by
 unfold oneOf
 rw[h0]
 simp only[hx]
 rw[h1]
 rfl
theorem no_sign {c:Cur}{l:List (Nat×Bytes)}{x:UInt8}(hx:c.next=some x) (h0:(l.find? λw=>w.2.isEmpty)=none) (h1:(l.filterMap λw=>if w.2.head?=some x then some (w.1,w.2.drop 1) else none)=[]):oneOf 16 l c=.error c.at_:=by
 unfold oneOf
 rw[h0]
 simp only[hx]
 rw[h1]
 rfl
theorem kind_signs:SignsOf [".","S","X","#"] kindSign kindNum:=by
 intro c
 have e:((List.range [".","S","X","#"].length).map λ(i:Nat)=>(i,ascii ([".","S","X","#"].getD i "")))=[(0,[46]),(1,[83]),(2,[88]),(3,[35])]:=by decide +kernel
 unfold word
 rw[e]
 cases hx:c.next with
 | none=>unfold oneOf;simp only[hx];rfl
 | some x =>
  rw[Option.bind_some]
  unfold kindSign
  by_cases h1:x=46
  ·subst h1;rw[one_sign hx rfl (i:=0) (by decide)];rfl
  ·rw[if_neg h1]
   by_cases h2:x=83
   ·subst h2;rw[one_sign hx rfl (i:=1) (by decide)];rfl
   ·rw[if_neg h2]
    by_cases h3:x=88
    ·subst h3;rw[one_sign hx rfl (i:=2) (by decide)];rfl
    ·rw[if_neg h3]
     by_cases h4:x=35
     ·subst h4;rw[one_sign hx rfl (i:=3) (by decide)];rfl
     ·rw[if_neg h4,no_sign hx rfl]
      simp[Ne.symm h1,Ne.symm h2,Ne.symm h3,Ne.symm h4]
theorem piece_signs:SignsOf [".","h","m","K"] pieceSign pieceNum:=by
 intro c
 have e:((List.range [".","h","m","K"].length).map λ(i:Nat)=>(i,ascii ([".","h","m","K"].getD i "")))=[(0,[46]),(1,[104]),(2,[109]),(3,[75])]:=by decide +kernel
 unfold word
 rw[e]
 cases hx:c.next with
 | none=>unfold oneOf;simp only[hx];rfl
 | some x =>
  rw[Option.bind_some]
  unfold pieceSign
  by_cases h1:x=46
  ·subst h1;rw[one_sign hx rfl (i:=0) (by decide)];rfl
  ·rw[if_neg h1]
   by_cases h2:x=104
   ·subst h2;rw[one_sign hx rfl (i:=1) (by decide)];rfl
   ·rw[if_neg h2]
    by_cases h3:x=109
    ·subst h3;rw[one_sign hx rfl (i:=2) (by decide)];rfl
    ·rw[if_neg h3]
     by_cases h4:x=75
     ·subst h4;rw[one_sign hx rfl (i:=3) (by decide)];rfl
     ·rw[if_neg h4,no_sign hx rfl]
      simp[Ne.symm h1,Ne.symm h2,Ne.symm h3,Ne.symm h4]
theorem some_go {p:UInt8->Bool}{n:Nat}{c:Cur}{x:UInt8}(h:c.next=some x) (hp:p x=true):(some_ p (n+1) c).2=(some_ p n c.on).2:=by
 unfold some_;simp only[h];rw[if_pos hp]
 cases n <;> rfl
theorem some_stop {p:UInt8->Bool}{n:Nat}{c:Cur}(h:∀x,c.next=some x->p x=false):(some_ p n c).2=c:=by
 cases n with
 | zero=>rfl
 | succ n =>
  unfold some_
  cases hx:c.next with
  | none=>rfl
  | some x=>simp only;rw[if_neg (by rw[h x hx];decide)]
theorem rowsMarks_length {α:Type}(num:α->Nat) (d:α) (wide high:Nat) (rows:List (List α)) (ats:List Nat) (i:Nat):(rowsMarks num d wide high rows ats i).length=i*wide:=by
 unfold rowsMarks
 induction i with
 | zero=>simp
 | succ i ih=>rw[List.range_succ,List.flatMap_append,List.length_append,ih];simp[rowMarks,Nat.succ_mul]
end Tm
end
section
namespace Tm
open Tafl
theorem oneOf_mem:∀(f:Nat) (l:List (Nat×Bytes)) (c:Cur){i:Nat}{d:Cur},oneOf f l c=.ok (i,d)->i∈l.map (·.1)
 | 0,l,c,i,d,h=>by unfold oneOf at h;cases h
 | f+1,l,c,i,d,h=>by
  unfold oneOf at h
  split at h
  ·rename_i w hw
   cases h
   exact List.mem_map.mpr ⟨w,List.mem_of_find?_eq_some hw,rfl⟩
  ·split at h
   ·cases h
   ·rename_i x hx
    simp only at h
    split at h
    ·cases h
    ·have z:=oneOf_mem f _ _ h
     obtain⟨w,hw,e⟩:=List.mem_map.mp z
     obtain⟨v,hv,q⟩:=List.mem_filterMap.mp hw
     split at q
     ·cases q
      exact List.mem_map.mpr ⟨v,hv,e⟩
     ·cases q
theorem word_lt {l:List String}{c d:Cur}{i:Nat}(h:word l c=.ok (i,d)):i<l.length:=by
 unfold word at h
 have z:=oneOf_mem _ _ _ h
 rw[List.map_map]at z
 obtain⟨j,hj,e⟩:=List.mem_map.mp z
 have e:j=i:=e
 rw[<-e];exact List.mem_range.mp hj
def kdOf (gm:List Mk) (c:Nat):Option Nat:=(gm.find? λm=>decide (m.2.1=c)).map λm=>m.2.2
theorem kd_kind {r:Rules}(hw:r.wide<=13) (c:Nat):kdOf (groundMarks r) c=kindN r c:=by
 rw[groundMarks_eq]
 unfold kdOf
 rw[List.find?_map,Option.map_map]
 cases e:kindN r c with
 | some k =>
  obtain⟨p,hp,h1,h2⟩:=kindN_some e
  cases q:r.asWritten.find? ((λm:Mk=>decide (m.2.1=c)) ∘ λp=>(r.groundPlace p,cellOf p.1 p.2,kindNum (r.kind p.1 p.2))) with
  | none =>
   have z:=List.find?_eq_none.mp q p hp
   simp[h1]at z
  | some p' =>
   have z1:=List.mem_of_find?_eq_some q
   have z2:=List.find?_some q
   have z3:cellOf p'.1 p'.2=c:=by simpa using z2
   have m1:=mem_asWritten.mp hp
   have m2:=mem_asWritten.mp z1
   have eq:p'=p:=cell_inj (by omega) (by omega) (z3.trans h1.symm)
   subst eq
   simp only[Option.map_some,Function.comp]
   rw[h2]
 | none =>
  cases q:r.asWritten.find? ((λm:Mk=>decide (m.2.1=c)) ∘ λp=>(r.groundPlace p,cellOf p.1 p.2,kindNum (r.kind p.1 p.2))) with
  | none=>rfl
  | some p' =>
   have z1:=List.mem_of_find?_eq_some q
   have z2:=List.find?_some q
   have z3:cellOf p'.1 p'.2=c:=by simpa using z2
   rw[<-z3,kindN_cell hw z1]at e
   cases e
theorem ground_len (r:Rules):(groundMarks r).length=r.high*r.wide:=rowsMarks_length ..
theorem start_len (r:Rules):(startMarks r).length=r.high*r.wide:=rowsMarks_length ..
theorem start_cells {r:Rules}(hw:r.wide<=13){m:Mk}(h:m∈startMarks r):kindN r m.2.1≠none:=by
 rw[startMarks_eq]at h
 obtain⟨p,hp,e⟩:=List.mem_map.mp h
 rw[<-e,kindN_cell hw hp]
 simp
theorem judge_error {b:Bytes}{p:Nat}(h:grammar b=.error p):judge b=.error (1,p):=by unfold judge;rw[h]
theorem judge_fault {b:Bytes}{r:Rules}{x:Nat×Nat}{l:List (Nat×Nat)}(h:grammar b=.ok r) (e:(wrongs b.length r).map (λq=>(q.2,q.1))=x::l):judge b=.error ((minFrom x l).2,(minFrom x l).1):=by
 unfold judge
 rw[h]
 simp only
 have e2:wrongs b.length r=(x::l).map λq=>(q.2,q.1):=by
  rw[<-e,List.map_map]
  have:((λq:Nat×Nat=>(q.2,q.1)) ∘ λq=>(q.2,q.1))=id:=rfl
  rw[this,List.map_id]
 rw[e2,firstOf_min]
theorem judge_ok {b:Bytes}{r:Rules}(h:grammar b=.ok r) (e:(wrongs b.length r).map (λq=>(q.2,q.1))=[]):judge b=.ok r/\NoFault r:=by
 have e2:wrongs b.length r=[]:=List.map_eq_nil_iff.mp e
 refine⟨?_,noFault_of e2⟩
 unfold judge;rw[h];simp only;rw[e2];rfl
end Tm
end
section
namespace Tm
open Tafl
theorem ground_mem {r:Rules}{m:Mk}(h:m∈groundMarks r):∃p∈r.asWritten,m.2.1=cellOf p.1 p.2:=by
 rw[groundMarks_eq]at h
 obtain⟨p,hp,e⟩:=List.mem_map.mp h
 exact⟨p,hp,by rw[<-e]⟩
theorem mem_ground {r:Rules}{p:Nat×Nat}(h:p∈r.asWritten):∃m∈groundMarks r,m.2.1=cellOf p.1 p.2:=by
 rw[groundMarks_eq]
 exact⟨_,List.mem_map.mpr ⟨p,h,rfl⟩,rfl⟩
theorem turn_ok {r:Rules}{tn:Nat}{p:Nat×Nat}(hp:p.1<r.wide/\p.2<r.high) (hk:r.wide=r.high\/tn % 2=0) :
  (turned tn r.wide r.high p.1 p.2).1=r.wide/\(turned tn r.wide r.high p.1 p.2).2.1=r.high/\(turned tn r.wide r.high p.1 p.2).2.2.1<r.wide/\(turned tn r.wide r.high p.1 p.2).2.2.2<r.high:=by
 have h1:=turned_size tn r.wide r.high p.1 p.2
 have h2:=turned_in (t:=tn) hp.1 hp.2
 have e1:(turned tn r.wide r.high p.1 p.2).1=r.wide:=by
  rw[h1.1];split <;> omega
 have e2:(turned tn r.wide r.high p.1 p.2).2.1=r.high:=by
  rw[h1.2];split <;> omega
 rw[e1,e2]at h2
 exact⟨e1,e2,h2.1,h2.2⟩
theorem cell_kind {r:Rules}(hw:r.wide<=13){p:Nat×Nat}(hp:p∈r.asWritten):kindN r (cellOf p.1 p.2)=some (kindNum (r.kind p.1 p.2)):=kindN_cell hw hp
theorem turn_kind {r:Rules}{tn:Nat}(hw:r.wide<=13){p:Nat×Nat}(hp:p∈r.asWritten) (hk:r.wide=r.high\/tn % 2=0) :
  kindN r (r.turnCell tn (cellOf p.1 p.2))=some (kindNum (r.kind (turned tn r.wide r.high p.1 p.2).2.2.1 (turned tn r.wide r.high p.1 p.2).2.2.2)):=by
 have hp':=mem_asWritten.mp hp
 have T:=turn_ok (tn:=tn) hp' hk
 rw[turnCell_eq,cell_mod (by omega),cell_div (by omega)]
 exact kindN_cell hw (p:=((turned tn r.wide r.high p.1 p.2).2.2.1,(turned tn r.wide r.high p.1 p.2).2.2.2)) (mem_asWritten.mpr ⟨T.2.2.1,T.2.2.2⟩)
theorem fits_iff {r:Rules}{tn:Nat}(hk:r.wide=r.high\/tn % 2=0) :
  r.fits tn=true↔∀p∈r.asWritten,r.kind (turned tn r.wide r.high p.1 p.2).2.2.1 (turned tn r.wide r.high p.1 p.2).2.2.2=r.kind p.1 p.2:=by
 unfold Rules.fits
 rw[List.all_eq_true]
 constructor
 ·intro h p hp
  have:=h p (mem_cells.mpr (mem_asWritten.mp hp))
  simp only[Bool.and_eq_true,beq_iff_eq]at this
  exact this.2.2
 ·intro h p hp
  have hp':=mem_cells.mp hp
  have T:=turn_ok (tn:=tn) hp' hk
  simp only[Bool.and_eq_true,beq_iff_eq]
  exact⟨T.1,T.2.1,h p (mem_asWritten.mpr hp')⟩
theorem fits_not {r:Rules}{tn:Nat}(hw:0<r.wide) (hh:0<r.high) (hk:¬(r.wide=r.high\/tn % 2=0)):r.fits tn=false:=by
 cases e:r.fits tn with
 | false=>rfl
 | true =>
  have z:=(fits_cell (p:=(0,0)) e ⟨hw,hh⟩).1
  rw[(turned_size ..).1]at z
  exfalso
  apply hk
  split at z <;> omega
theorem turn_zero (r:Rules):r.fits 0=true:=by
 rw[fits_iff (.inr rfl)]
 intro p _
 rfl
end Tm
end
section
namespace Tm
open Tafl
theorem setFrom_below {l:List Nat}{x:Nat}(h:∀c∈l,c<x):setFrom l<2 ^ x:=by
 apply Nat.lt_pow_two_of_testBit
 intro i hi
 rw[setFrom_testBit]
 exact decide_eq_false λm=>absurd (h i m) (by omega)
theorem setFrom_cons {l:List Nat}{x:Nat}(h:∀c∈l,c<x):setFrom (x::l)=2 ^ x+setFrom l:=by
 have e:=Nat.two_pow_add_eq_or_of_lt (setFrom_below h) 1
 rw[Nat.mul_one]at e
 rw[e]
 apply Nat.eq_of_testBit_eq
 intro i
 rw[setFrom_testBit,Nat.testBit_or,testBit_two_pow,setFrom_testBit]
 by_cases z:x=i
 ·subst z;simp
 ·simp[z];intro q;exact absurd q.symm z
def ltL:List Nat->List Nat->Bool
 | [],[]=>false
 | [],_::_=>true
 | _::_,[]=>false
 | x::a,y::b=>decide (x<y)||(decide (x=y)&&ltL a b)
theorem ltL_set:∀ {a b:List Nat},a.Pairwise (λx y=>y<x)->b.Pairwise (λx y=>y<x)->(ltL a b=true↔setFrom a<setFrom b)
 | [],[],_,_=>by simp[ltL]
 | [],y::b,_,hb=>by
  have hb':=List.pairwise_cons.mp hb
  rw[setFrom_cons hb'.1]
  have:0<2 ^ y:=Nat.two_pow_pos y
  have e:setFrom []=0:=rfl
  rw[e]
  exact⟨λ_=>by omega,λ_=>rfl⟩
 | x::a,[],ha,_=>by
  have e:setFrom []=0:=rfl
  rw[e]
  simp[ltL]
 | x::a,y::b,ha,hb=>by
  have ha':=List.pairwise_cons.mp ha
  have hb':=List.pairwise_cons.mp hb
  have ih:=ltL_set ha'.2 hb'.2
  rw[setFrom_cons ha'.1,setFrom_cons hb'.1]
  have la:=setFrom_below ha'.1
  have lb:=setFrom_below hb'.1
  show (decide (x<y)||(decide (x=y)&&ltL a b))=true↔_
  rw[Bool.or_eq_true,Bool.and_eq_true,decide_eq_true_eq,decide_eq_true_eq,ih]
  rcases Nat.lt_trichotomy x y with z | z | z
  ·have:2 ^ (x+1)<=2 ^ y:=Nat.pow_le_pow_right (by decide) z
   rw[Nat.pow_succ]at this
   exact⟨λ_=>by omega,λ_=>.inl z⟩
  ·subst z
   exact⟨λh=>by rcases h with h | h <;> omega,λh=>.inr ⟨rfl,by omega⟩⟩
  ·have:2 ^ (y+1)<=2 ^ x:=Nat.pow_le_pow_right (by decide) z
   rw[Nat.pow_succ]at this
   exact⟨λh=>by rcases h with h | h <;> omega,λh=>by omega⟩
theorem set_inj {a b:List Nat}(ha:a.Pairwise (λx y=>y<x)) (hb:b.Pairwise (λx y=>y<x)):setFrom a=setFrom b↔a=b:=by
 refine⟨λh=>?_,λh=>by rw[h]⟩
 have mem:∀c,c∈a↔c∈b:=λc=>by
  have z:(setFrom a).testBit c=(setFrom b).testBit c:=by rw[h]
  rw[setFrom_testBit,setFrom_testBit]at z
  exact decide_eq_decide.mp z
 have r:=rising_ext (l:=a.reverse) (m:=b.reverse) (by rw[List.pairwise_reverse];exact ha) (by rw[List.pairwise_reverse];exact hb) (λc=>by simp[mem c])
 exact List.reverse_inj.mp r
theorem desc_of {hs ns:List Nat}(hp:hs.Perm ns) (hd:hs.Pairwise (λx y=>y<=x)) (nd:ns.Nodup):hs.Pairwise (λx y=>y<x):=by
 have nd':hs.Nodup:=hp.nodup_iff.mpr nd
 have:=hd.and nd'
 exact this.imp λ⟨a,b⟩=>by omega
theorem desc_set {hs ns:List Nat}{n:Nat}(hp:hs.Perm ns) (e:cellsIn n=ns) (hn:n<2 ^ GONE):setFrom hs=n:=by
 have:setFrom hs=setFrom ns:=setFrom_ext λc=>hp.mem_iff
 rw[this,<-e,setFrom_cellsIn hn]
structure RankIs (p:Pos) (hs ms:List Nat):Prop where
 h:setFrom hs=p.hunters
 m:setFrom ms=p.men
 hd:hs.Pairwise (λx y=>y<x)
 md:ms.Pairwise (λx y=>y<x)
theorem RankIs.of {p:Pos}{hs ms hs' ms':List Nat}(P:PosIs p hs ms) (p1:hs'.Perm hs) (s1:hs'.Pairwise (λx y=>y<=x)) (p2:ms'.Perm ms) (s2:ms'.Pairwise (λx y=>y<=x)):RankIs p hs' ms':=by
 have n1:hs.Nodup:=by rw[<-P.h];exact (cellsIn_pairwise _).imp λh=>Nat.ne_of_lt h
 have n2:ms.Nodup:=by rw[<-P.m];exact (cellsIn_pairwise _).imp λh=>Nat.ne_of_lt h
 exact⟨desc_set p1 P.h P.hlt,desc_set p2 P.m P.mlt,desc_of p1 s1 n1,desc_of p2 s2 n2⟩
def ltR (a b:List Nat×List Nat×Nat×Nat):Bool:=ltL a.1 b.1||(decide (a.1=b.1)&&(ltL a.2.1 b.2.1||(decide (a.2.1=b.2.1)&&(decide (a.2.2.1<b.2.2.1)||(decide (a.2.2.1=b.2.2.1)&&decide (a.2.2.2<b.2.2.2))))))
theorem before_rank {p q:Pos}{hs ms hs' ms':List Nat}(A:RankIs p hs ms) (B:RankIs q hs' ms'):p.before q=ltR (hs,ms,p.king,p.side) (hs',ms',q.king,q.side):=by
 have e1:=ltL_set A.hd B.hd
 have e2:=ltL_set A.md B.md
 have f1:=set_inj A.hd B.hd
 have f2:=set_inj A.md B.md
 rw[A.h,B.h]at e1 f1
 rw[A.m,B.m]at e2 f2
 unfold Pos.before ltR
 dsimp only
 have g1:ltL hs hs'=decide (p.hunters<q.hunters):=by rw[Bool.eq_iff_iff,e1,decide_eq_true_eq]
 have g2:ltL ms ms'=decide (p.men<q.men):=by rw[Bool.eq_iff_iff,e2,decide_eq_true_eq]
 have g3:decide (hs=hs')=(p.hunters == q.hunters):=by rw[Bool.eq_iff_iff,decide_eq_true_eq,beq_iff_eq];exact f1.symm
 have g4:decide (ms=ms')=(p.men == q.men):=by rw[Bool.eq_iff_iff,decide_eq_true_eq,beq_iff_eq];exact f2.symm
 have g5:decide (p.king=q.king)=(p.king == q.king):=rfl
 rw[g1,g2,g3,g4]
 rfl
theorem same_rank {p q:Pos}{hs ms hs' ms':List Nat}(A:RankIs p hs ms) (B:RankIs q hs' ms'):p=q↔(hs,ms,p.king,p.side)=(hs',ms',q.king,q.side):=by
 have f1:=set_inj A.hd B.hd
 have f2:=set_inj A.md B.md
 rw[A.h,B.h]at f1
 rw[A.m,B.m]at f2
 obtain⟨a,b,c,d⟩:=p
 obtain⟨a',b',c',d'⟩:=q
 simp only[Pos.mk.injEq,Prod.mk.injEq]at f1 f2 ⊢
 rw[f1,f2]
end Tm
end
section
namespace Tm
open Tafl
theorem side_word (c:Cur):word ["h","k"] c=(match c.next with
  | none=>.error c.at_
  | some x=>if x=104 then .ok (0,c.on) else if x=107 then .ok (1,c.on) else .error c.at_):=by
 have e:((List.range ["h","k"].length).map λ(i:Nat)=>(i,ascii (["h","k"].getD i "")))=[(0,[104]),(1,[107])]:=by decide +kernel
 unfold word
 rw[e,oneOf]
 rw[show ([(0,[104]),(1,[107])]:List (Nat×Bytes)).find? (λw=>w.2.isEmpty)=none from rfl]
 dsimp only
 cases hn:c.next with
 | none=>rfl
 | some x =>
  dsimp only
  by_cases h1:x=104
  ·subst h1
   rw[if_pos rfl]
   rfl
  ·rw[if_neg h1]
   by_cases h2:x=107
   ·subst h2
    rw[if_pos rfl]
    rfl
   ·rw[if_neg h2]
    have z1:¬(some (104:UInt8)=some x):=λz=>h1 (Option.some.inj z).symm
    have z2:¬(some (107:UInt8)=some x):=λz=>h2 (Option.some.inj z).symm
    have e3:([(0,[104]),(1,[107])]:List (Nat×Bytes)).filterMap (λw=>if w.2.head?=some x then some (w.1,w.2.drop 1) else none)=[]:=by
     rw[List.filterMap_eq_nil_iff]
     intro q hq
     rcases List.mem_cons.mp hq with rfl | hq
     ·exact if_neg z1
     ·rw[List.mem_singleton.mp hq]
      exact if_neg z2
    rw[e3]
    rfl
theorem side_ok {c d:Cur}{i:Nat}(h:word ["h","k"] c=.ok (i,d)):(c.next=some 104/\i=0\/c.next=some 107/\i=1)/\d=c.on:=by
 rw[side_word]at h
 cases hn:c.next with
 | none=>rw[hn]at h;cases h
 | some x =>
  rw[hn]at h
  dsimp only at h
  split at h
  ·rename_i e;cases h;exact⟨.inl ⟨by rw[e],rfl⟩,rfl⟩
  ·split at h
   ·rename_i e;cases h;exact⟨.inr ⟨by rw[e],rfl⟩,rfl⟩
   ·cases h
theorem side_err {c:Cur}{p:Nat}(h:word ["h","k"] c=.error p):c.next≠some 104/\c.next≠some 107/\p=c.at_:=by
 rw[side_word]at h
 cases hn:c.next with
 | none=>rw[hn]at h;cases h;exact⟨by simp,by simp,rfl⟩
 | some x =>
  rw[hn]at h
  dsimp only at h
  split at h
  ·cases h
  ·rename_i e
   split at h
   ·cases h
   ·rename_i e2
    cases h
    exact⟨λz=>e (Option.some.inj z),λz=>e2 (Option.some.inj z),rfl⟩
theorem signed_got (p:Piece):∀l:List Got,cellsSigned (l.map λg=>((g.2.2,g.2.1,pieceNum g.1):Mk)) (pieceNum p)=cellsOfPiece l p
 | []=>rfl
 | g::l=>by
  have ih:=signed_got p l
  unfold cellsSigned withSign cellsOfPiece at ih ⊢
  rw[List.map_cons,List.filter_cons,List.filter_cons]
  by_cases h:g.1=p
  ·rw[decide_eq_true h,if_pos (rfl:true=true)]
   rw[if_pos (by simp[h]),List.map_cons,List.map_cons,ih]
  ·rw[decide_eq_false h,if_neg (Bool.false_ne_true)]
   rw[if_neg (by simpa using λz=>h (pieceNum_inj.mp z)),ih]
theorem king_one {l:List Got}{ks:List Nat}(one:∀g∈l,∀g'∈l,g.1=.king->g'.1=.king->g=g') (nd:(l.map λg=>g.2.1).Nodup) (h:ks.Perm (cellsOfPiece l .king)):ks=cellsOfPiece l .king:=by
 have n1:=nodup_piece nd .king
 match e:cellsOfPiece l .king with
 | []=>rw[e]at h;exact h.eq_nil
 | [a]=>rw[e]at h;exact List.perm_singleton.mp h
 | a::b::r =>
  rw[e,List.nodup_cons]at n1
  obtain⟨g,hg,k1,e1⟩:=mem_piece.mp (show a∈cellsOfPiece l .king by rw[e];simp)
  obtain⟨g',hg',k2,e2⟩:=mem_piece.mp (show b∈cellsOfPiece l .king by rw[e];simp)
  have:=one g hg g' hg' k1 k2
  subst this
  exact absurd (by rw[<-e1,e2];simp) n1.1
theorem bad_at {r:Rules}:∀ {l:List Got}{i:Nat}{g:Got},l[i]?=some g->mayStand g.1 (r.kindAt g.2.1)=false->(∀g'∈l.take i,mayStand g'.1 (r.kindAt g'.2.1)=true)->badPiece r l=some g
 | [],_,_,h,_,_=>by simp at h
 | a::l,0,g,h,hb,_=>by
  have e:a=g:=Option.some.inj h
  subst e
  unfold badPiece
  rw[List.find?_cons,hb]
  rfl
 | a::l,i+1,g,h,hb,ha=>by
  have ih:=bad_at (r:=r) (l:=l) (i:=i) (g:=g) h hb λg' hg=>ha g' (by rw[List.take_succ_cons];exact List.mem_cons_of_mem _ hg)
  unfold badPiece at ih ⊢
  rw[List.find?_cons,ha a (by rw[List.take_succ_cons];exact List.mem_cons_self)]
  exact ih
theorem bad_none {r:Rules}{l:List Got}(ha:∀g∈l,mayStand g.1 (r.kindAt g.2.1)=true):badPiece r l=none:=by
 unfold badPiece
 rw[List.find?_eq_none]
 intro g hg
 rw[ha g hg]
 decide
theorem pos_len {p:Pos}{hs ms:List Nat}(P:PosIs p hs ms):hs.length<=192/\ms.length<=192:=by
 rw[<-P.h,<-P.m]
 unfold cellsIn GONE
 exact⟨Nat.le_trans (List.length_filter_le _ _) (by simp),Nat.le_trans (List.length_filter_le _ _) (by simp)⟩
theorem ofNats_rising {l:List Nat}:rising (ofNats l)=true↔l.Pairwise (· < ·):=by
 rw[rising_iff]
 unfold ofNats
 rw[List.pairwise_map]
 exact⟨λh=>h.imp λz=>by omega,λh=>h.imp λz=>by omega⟩
theorem isSet_rising {l:List Nat}(h:TaflPlaces.isSet l=true):l.Pairwise (· < ·):=by
 unfold TaflPlaces.isSet at h
 rw[Bool.and_eq_true,beq_iff_eq]at h
 rw[<-h.2]
 exact cellsIn_pairwise _
theorem isSet_of {l:List Nat}(h:l.Pairwise (· < ·)) (b:∀c∈l,c<169):TaflPlaces.isSet l=true:=by
 unfold TaflPlaces.isSet
 rw[Bool.and_eq_true,beq_iff_eq,List.all_eq_true]
 exact⟨λc hc=>by rw[decide_eq_true_eq];exact b c hc,cellsIn_setFrom_self h λc hc=>Nat.lt_trans (b c hc) (by decide)⟩
theorem isSet_lt {l:List Nat}(h:TaflPlaces.isSet l=true):∀c∈l,c<GONE:=by
 unfold TaflPlaces.isSet at h
 rw[Bool.and_eq_true,List.all_eq_true]at h
 intro c hc
 have:=h.1 c hc
 rw[decide_eq_true_eq]at this
 unfold GONE;omega
theorem nd_of_lt {l:List Nat}(h:l.Pairwise (· < ·)):l.Nodup:=h.imp λz=>Nat.ne_of_lt z
theorem write_iff {r:Rules}{h m:List Nat}{k d:Nat}(hh:r.high<=13) :
  (TaflPlaces.isSet h&&(TaflPlaces.isSet m&&r.right ⟨setFrom h,setFrom m,k,d⟩))=true↔rising (ofNats h)=true/\rising (ofNats m)=true/\rightN r h m k d:=by
 rw[Bool.and_eq_true,Bool.and_eq_true,ofNats_rising,ofNats_rising]
 constructor
 ·rintro⟨h1,h2,h3⟩
  have r1:=isSet_rising h1
  have r2:=isSet_rising h2
  exact⟨r1,r2,(right_iff (PosIs.of r1 r2 (isSet_lt h1) (isSet_lt h2)) (nd_of_lt r1) (nd_of_lt r2)).mp h3⟩
 ·rintro⟨r1,r2,h3⟩
  have ml:=all_pieceCells.mp h3.2.1
  have b1:∀c∈h,c<169:=λc hc=>cell_lt hh (mayStandN_cell (ml.1 c hc))
  have b2:∀c∈m,c<169:=λc hc=>cell_lt hh (mayStandN_cell (ml.2.1 c hc))
  have i1:=isSet_of r1 b1
  have i2:=isSet_of r2 b2
  exact⟨i1,i2,(right_iff (PosIs.of r1 r2 (isSet_lt i1) (isSet_lt i2)) (nd_of_lt r1) (nd_of_lt r2)).mpr h3⟩
theorem write_is {r:Rules}{h m:List Nat}{k d:Nat}(hh:r.high<=13) (r1:rising (ofNats h)=true) (r2:rising (ofNats m)=true) (h3:rightN r h m k d):PosIs ⟨setFrom h,setFrom m,k,d⟩ h m:=by
 have q:=(write_iff (k:=k) (d:=d) hh).mpr ⟨r1,r2,h3⟩
 rw[Bool.and_eq_true,Bool.and_eq_true]at q
 exact PosIs.of (ofNats_rising.mp r1) (ofNats_rising.mp r2) (isSet_lt q.1) (isSet_lt q.2.1)
theorem turn_zero_cell (r:Rules) (c:Nat):r.turnCell 0 c=c:=by
 unfold Rules.turnCell turned cellOf STRIDE
 show 13*(c / 13)+c % 13=c
 omega
theorem turn_zero_pos {r:Rules}{p:Pos}{hs ms:List Nat}(P:PosIs p hs ms):r.turnPos 0 p=p:=by
 unfold Rules.turnPos
 rw[show r.turnCell 0=id from funext λc=>turn_zero_cell r c,List.map_id,List.map_id,setFrom_cellsIn P.hlt,setFrom_cellsIn P.mlt]
 obtain⟨a,b,c,d⟩:=p
 dsimp only[id]
 split
 ·rename_i e;rw[e]
 ·rfl
def leastStep (r:Rules) (p:Pos) (m:Nat×Pos) (t:Nat):Nat×Pos:=if (r.turnPos t p).before m.2=true then (t,r.turnPos t p) else m
theorem least_eq (r:Rules) (p:Pos):r.least p=r.turns.foldl (leastStep r p) (0,p):=rfl
theorem least_fold (r:Rules) (p:Pos):∀(l:List Nat) (m:Nat×Pos),(∀t∈l,r.fits t=true)->r.fits m.1=true->m.2=r.turnPos m.1 p->r.fits (l.foldl (leastStep r p) m).1=true/\(l.foldl (leastStep r p) m).2=r.turnPos (l.foldl (leastStep r p) m).1 p
 | [],m,_,h1,h2=>⟨h1,h2⟩
 | t::l,m,hl,h1,h2=>by
  rw[List.foldl_cons]
  refine least_fold r p l _ (λx hx=>hl x (by simp[hx])) ?_ ?_
  ·unfold leastStep;split
   ·exact hl t (by simp)
   ·exact h1
  ·unfold leastStep;split
   ·rfl
   ·exact h2
theorem turns_fit {r:Rules}{t:Nat}(h:t∈r.turns):r.fits t=true:=by
 unfold Rules.turns at h
 exact (List.mem_filter.mp h).2
theorem turns_iff {r:Rules}{t:Nat}:t∈r.turns↔¬(7<t\/r.fits t=false):=by
 unfold Rules.turns
 rw[List.mem_filter,List.mem_range]
 constructor
 ·rintro⟨h1,h2⟩ (z | z)
  ·omega
  ·rw[h2]at z;cases z
 ·intro h
  refine⟨by omega,?_⟩
  cases e:r.fits t with
  | true=>rfl
  | false=>exact absurd (.inr e) h
theorem least_is {r:Rules}{p:Pos}{hs ms:List Nat}(P:PosIs p hs ms):r.fits (r.least p).1=true/\(r.least p).2=r.turnPos (r.least p).1 p:=by
 rw[least_eq]
 exact least_fold r p _ _ (λt ht=>turns_fit ht) (turn_zero r) (turn_zero_pos P).symm
theorem gap_len {n:Nat}(h:n<=13):(gapText n).length<=2:=by
 have:∀m:Fin 14,(gapText m.val).length<=2:=by decide +kernel
 exact this ⟨n,by omega⟩
theorem rowLine_len:∀(l:List Piece) (n:Nat),n+l.length<=13->(rowLine n l).length<=2+3*l.length
 | [],n,h=>by
  rw[rowLine_nil]
  have:=gap_len (n:=n) (by simpa using h)
  omega
 | x::l,n,h=>by
  rw[List.length_cons]at h ⊢
  by_cases e:x=.none
  ·subst e
   rw[rowLine_gap]
   have:=rowLine_len l (n+1) (by omega)
   omega
  ·rw[rowLine_piece n l e,List.length_append,List.length_cons]
   have:=rowLine_len l 0 (by omega)
   have:=gap_len (n:=n) (by omega)
   omega
theorem flat_len {β:Type}(f:Nat->List β) (k:Nat):∀l:List Nat,(∀i∈l,(f i).length<=k)->(l.flatMap f).length<=k*l.length
 | [],_=>by simp
 | a::l,h=>by
  rw[List.flatMap_cons,List.length_append,List.length_cons,Nat.mul_succ]
  have:=flat_len f k l λi hi=>h i (by simp[hi])
  have:=h a (by simp)
  omega
theorem line_len {r:Rules}(p:Pos) (hw:r.wide<=13) (hh:r.high<=13):(r.line p).length<=600:=by
 unfold Rules.line
 rw[List.length_append]
 have:=flat_len (λ(i:Nat)=>(if i=0 then [] else [47])++rowLine 0 (r.rowOf p (r.high - 1 - i))) 42 (List.range r.high) λi _=>by
  rw[List.length_append]
  have e:(r.rowOf p (r.high - 1 - i)).length=r.wide:=by unfold Rules.rowOf;rw[List.length_map,List.length_range]
  have:=rowLine_len (r.rowOf p (r.high - 1 - i)) 0 (by omega)
  have:(if i=0 then ([]:Bytes) else [47]).length<=1:=by split <;> simp
  omega
 rw[List.length_range]at this
 have z:([32,if p.side=0 then 104 else 107]:Bytes).length=2:=rfl
 omega
end Tm
end
section
namespace Tm
open Tafl TaflPlaces
def callNo:Call->Nat
 | .rules _=>0
 | .begin_=>1
 | .read _=>2
 | .write _ _ _ _=>3
 | .turn _ _=>4
 | .least _=>5
 | .alike _ _=>6
def callInts:Call->List Int
 | .write _ _ k d=>[(k:Int),(d:Int)]
 | .turn _ t=>[(t:Int)]
 | _=>[]
def callRows:Call->List (List Int)
 | .rules t=>[ofBytes t]
 | .begin_=>[]
 | .read b=>[ofBytes b]
 | .write h m _ _=>[ofNats h,ofNats m]
 | .turn b _=>[ofBytes b]
 | .least b=>[ofBytes b]
 | .alike a b=>[ofBytes a,ofBytes b]
def rowsNums (rows:List (List Int)):List Int:=rows.flatMap λr=>(r.length:Int)::r
theorem callNums_eq (x:Call):callNums x=(callNo x:Int)::(callInts x++rowsNums (callRows x)):=by
 cases x <;> simp[callNums,callNo,callInts,callRows,rowsNums,ofBytes_length,ofNats_length]
theorem callRows_le (x:Call):(callRows x).length<=2:=by cases x <;> simp[callRows]
def byRules (r:Rules):Call->Except (Nat×Nat) Answer
 | .rules _=>.ok (says 0)
 | .begin_=>.ok (tells 0 [.text (r.line r.begins)])
 | .read b=>match r.readLine b with
  | .error e=>.error e
  | .ok p=>.ok (tells 0 [.list (cellsIn p.hunters),.list (cellsIn p.men),.num p.king,.num p.side])
 | .write h m k d=>.ok (if (isSet h&&(isSet m&&r.right ⟨setFrom h,setFrom m,k,d⟩))=true then tells 0 [.text (r.line ⟨setFrom h,setFrom m,k,d⟩)] else says (-8))
 | .turn b t=>match r.readLine b with
  | .error e=>.error e
  | .ok p=>.ok (if 7<t\/r.fits t=false then says (-2) else tells 0 [.text (r.line (r.turnPos t p))])
 | .least b=>match r.readLine b with
  | .error e=>.error e
  | .ok p=>.ok (tells 0 [.num (r.least p).1,.text (r.line (r.least p).2)])
 | .alike a b=>match r.readLine a with
  | .error e=>.error e
  | .ok p=>match r.readLine b with
   | .error e=>.error e
   | .ok q=>.ok (says (if r.alike p q=true then 1 else 0))
def lineFault (x:Except (Nat×Nat) Answer):Answer:=match x with
 | .ok a=>a
 | .error e=>fault (-5) e.1 e.2
theorem step_by {r:Rules}{x:Call}(h:callNo x≠0):step (some r) x=(some r,lineFault (byRules r x)):=by
 cases x with
 | rules t=>exact absurd rfl h
 | begin_=>rfl
 | read b =>
  unfold byRules step ofRules ofLine lineFault
  dsimp only
  cases r.readLine b with
  | error e=>rfl
  | ok p=>rfl
 | write h m k d=>rfl
 | turn b t =>
  unfold byRules step ofRules ofLine lineFault
  dsimp only
  cases r.readLine b with
  | error e=>rfl
  | ok p=>rfl
 | least b =>
  unfold byRules step ofRules ofLine lineFault
  dsimp only
  cases r.readLine b with
  | error e=>rfl
  | ok p=>rfl
 | alike a b =>
  unfold byRules step ofRules ofLine lineFault
  dsimp only
  cases r.readLine a with
  | error e=>rfl
  | ok p =>
   dsimp only
   cases r.readLine b with
   | error e=>rfl
   | ok q=>rfl
theorem step_no {x:Call}(h:callNo x≠0):step none x=(none,says (-3)):=by
 cases x with
 | rules t=>exact absurd rfl h
 | _=>rfl
theorem step_rules_ok {s:State}{b:Bytes}{r:Rules}(h:judge b=.ok r):step s (.rules b)=(some r,says 0):=by
 unfold step
 dsimp only
 rw[h]
theorem step_rules_err {s:State}{b:Bytes}{k p:Nat}(h:judge b=.error (k,p)):step s (.rules b)=(s,fault (-6) k p):=by
 unfold step
 dsimp only
 rw[h]
theorem cells_len (n:Nat):(cellsIn n).length<=192:=by
 unfold cellsIn GONE
 exact Nat.le_trans (List.length_filter_le _ _) (by simp)
theorem nums_line (b:Bytes) (z:Int):(tells z [.text b]).nums=z::(b.length:Int)::ofBytes b:=by
 simp[tells,Answer.nums,Item.nums,ofBytes]
theorem nums_least (b:Bytes) (z:Int) (n:Nat):(tells z [.num n,.text b]).nums=z::(n:Int)::(b.length:Int)::ofBytes b:=by
 simp[tells,Answer.nums,Item.nums,ofBytes]
theorem nums_read (h m:List Nat) (k d:Nat):(tells 0 [.list h,.list m,.num k,.num d]).nums=(0::(h.length:Int)::ofNats h)++((m.length:Int)::ofNats m)++[(k:Int),(d:Int)]:=by
 simp[tells,Answer.nums,Item.nums,ofNats,asInts]
theorem nums_says (z:Int):(says z).nums=[z]:=rfl
theorem nums_fault (z:Int) (k p:Nat):(fault z k p).nums=[z,(k:Int),(p:Int)]:=rfl
theorem by_len {r:Rules}{x:Call}{a:Answer}(hw:r.wide<=13) (hh:r.high<=13) (h:byRules r x=.ok a):a.nums.length<=700:=by
 have ll:=λp=>line_len (r:=r) p hw hh
 cases x with
 | rules t=>cases h;decide
 | begin_ =>
  cases h
  have:=ll r.begins
  rw[nums_line,List.length_cons,List.length_cons,ofBytes_length];omega
 | read b =>
  unfold byRules at h
  dsimp only at h
  split at h
  ·cases h
  ·rename_i p e
   cases h
   have:=cells_len p.hunters
   have:=cells_len p.men
   rw[nums_read]
   simp only[List.length_append,List.length_cons,List.length_nil,ofNats_length]
   omega
 | write h' m k d =>
  cases h
  split
  ·have:=ll ⟨setFrom h',setFrom m,k,d⟩
   rw[nums_line,List.length_cons,List.length_cons,ofBytes_length];omega
  ·decide
 | turn b t =>
  unfold byRules at h
  dsimp only at h
  split at h
  ·cases h
  ·rename_i p e
   cases h
   split
   ·decide
   ·have:=ll (r.turnPos t p)
    rw[nums_line,List.length_cons,List.length_cons,ofBytes_length];omega
 | least b =>
  unfold byRules at h
  dsimp only at h
  split at h
  ·cases h
  ·rename_i p e
   cases h
   have:=ll (r.least p).2
   rw[nums_least,List.length_cons,List.length_cons,List.length_cons,ofBytes_length];omega
 | alike a' b =>
  unfold byRules at h
  dsimp only at h
  split at h
  ·cases h
  ·split at h
   ·cases h
   ·cases h
    rw[nums_says]
    show 1<=700
    decide
theorem step_len {s:State}{x:Call}(hs:∀r,s=some r->r.wide<=13/\r.high<=13):(step s x).2.nums.length<=700:=by
 by_cases h:callNo x=0
 ·cases x with
  | rules t =>
   cases e:judge t with
   | error f=>rw[step_rules_err (k:=f.1) (p:=f.2) e,nums_fault];show 3<=700;decide
   | ok r=>rw[step_rules_ok e,nums_says];show 1<=700;decide
  | _=>exact absurd h (by simp[callNo])
 ·cases s with
  | none=>rw[step_no h,nums_says];show 1<=700;decide
  | some r =>
   obtain⟨hw,hh⟩:=hs r rfl
   rw[step_by h]
   cases e:byRules r x with
   | error f =>
    show (fault (-5) f.1 f.2).nums.length<=700
    rw[nums_fault];show 3<=700;decide
   | ok a=>exact by_len hw hh e
end Tm
end
section
namespace L2
open PySem PySem.Spec PyProof.Rows Tx
def top (i:Nat):Stmt:=PySem.Challenge.pw_tafllines_s01_answers.main.body.getD i (.Pass ⟨0,0,0,0⟩)
abbrev s_cell_number:Stmt:=top 12
abbrev s_Mark_init:Stmt:=inClass (top 13) 0
abbrev s_may_stand:Stmt:=top 14
abbrev s_RulesFault:Stmt:=inClass (top 16) 0
abbrev s_LineFault:Stmt:=inClass (top 17) 0
abbrev s_Position_init:Stmt:=inClass (top 20) 0
abbrev s_cells_with:Stmt:=top 21
abbrev s_position_of:Stmt:=top 22
abbrev s_pieces_of:Stmt:=top 23
abbrev s_is_right:Stmt:=top 24
abbrev s_Rules_init:Stmt:=inClass (top 29) 0
abbrev s_start_of:Stmt:=top 30
abbrev s_marks_with:Stmt:=top 31
abbrev s_is_on_edge:Stmt:=top 32
abbrev s_may_begin:Stmt:=top 33
abbrev s_is_goal_amiss:Stmt:=top 34
abbrev s_is_something_missing:Stmt:=top 35
abbrev s_faults_of:Stmt:=top 36
abbrev s_digit_value:Stmt:=top 40
abbrev s_begins_number:Stmt:=top 41
abbrev s_Scan_init:Stmt:=inClass (top 42) 0
abbrev s_Scan_ahead:Stmt:=inClass (top 42) 1
abbrev s_Scan_go_on:Stmt:=inClass (top 42) 2
abbrev s_Scan_take:Stmt:=inClass (top 42) 3
abbrev s_Scan_take_one_of:Stmt:=inClass (top 42) 4
abbrev s_Scan_take_number:Stmt:=inClass (top 42) 5
abbrev s_Scan_take_end:Stmt:=inClass (top 42) 6
abbrev s_is_letter:Stmt:=top 56
abbrev s_take_name:Stmt:=top 57
abbrev s_take_rows:Stmt:=top 58
abbrev s_take_grounds:Stmt:=top 59
abbrev s_take_pieces_ways:Stmt:=top 60
abbrev s_take_cells_ways:Stmt:=top 61
abbrev s_take_ends:Stmt:=top 62
abbrev s_rules_of:Stmt:=top 63
abbrev s_gap_text:Stmt:=top 66
abbrev s_row_text:Stmt:=top 67
abbrev s_line_of:Stmt:=top 68
abbrev s_piece_ahead:Stmt:=top 69
abbrev s_has_king:Stmt:=top 70
abbrev s_take_row:Stmt:=top 71
abbrev s_take_board:Stmt:=top 72
abbrev s_read_line:Stmt:=top 73
abbrev s_turned_cell:Stmt:=top 77
abbrev s_keeps_size:Stmt:=top 78
abbrev s_fits:Stmt:=top 79
abbrev s_fitting_turns:Stmt:=top 80
abbrev s_turned_cells:Stmt:=top 81
abbrev s_turned:Stmt:=top 82
abbrev s_highest_first:Stmt:=top 84
abbrev s_rank:Stmt:=top 85
abbrev s_least_turn:Stmt:=top 86
abbrev s_are_alike:Stmt:=top 87
abbrev s_Hall_init:Stmt:=inClass (top 102) 0
abbrev s_Feed_init:Stmt:=inClass (top 103) 0
abbrev s_Feed_has_more:Stmt:=inClass (top 103) 1
abbrev s_Feed_take_number:Stmt:=inClass (top 103) 2
abbrev s_Feed_take_numbers:Stmt:=inClass (top 103) 3
abbrev s_Feed_take_rows:Stmt:=inClass (top 103) 4
abbrev s_with_length:Stmt:=top 104
abbrev s_answer_rules:Stmt:=top 105
abbrev s_answer_begin:Stmt:=top 106
abbrev s_answer_read:Stmt:=top 107
abbrev s_is_rising:Stmt:=top 108
abbrev s_answer_write:Stmt:=top 109
abbrev s_answer_turn:Stmt:=top 110
abbrev s_answer_least:Stmt:=top 111
abbrev s_answer_alike:Stmt:=top 112
abbrev s_answer_by_rules:Stmt:=top 113
abbrev s_answer_call:Stmt:=top 114
abbrev s_answers:Stmt:=top 115
structure FnT (K:PySem.W.Frag) (mg:Str->Option Value) (x:Str) (st:Stmt) (ps:List Str) (f:Addr) (fd:FuncData):Prop where
 F:Fun K x x st f fd
 m:mg x=some (.ref f)
 b:Binds K fd ps []
structure MeT (K:PySem.W.Frag) (C:Addr) (x qual:Str) (st:Stmt) (ps:List Str) (f:Addr) (fd:FuncData):Prop where
 F:Fun K x qual st f fd
 me:Meth K C x f
 b:Binds K fd ps []
structure ClT (K:PySem.W.Frag) (mg:Str->Option Value) (x qual:Str) (st:Stmt) (ps:List Str) (C f:Addr) (fd:FuncData):Prop where
 c:Cls K C
 m:mg x=some (.ref C)
 mkC:Mk K C f
 F:Fun K "__init__" qual st f fd
 b:Binds K fd ps []
structure StuckT (K:PySem.W.Frag) (mg:Str->Option Value) (C:Addr):Prop where
 c:XCls K C
 i:PySem.W.findIn K (.ref C) "__init__"=some (some (.builtin "Exception.__init__"))
 kp:PySem.W.keepIn K (.ref C)=true
 m:mg "Stuck"=some (.ref C)
structure TupT (K:PySem.W.Frag) (mg:Str->Option Value) (x:Str) (a:Addr) (xs:List V):Prop where
 m:mg x=some (.ref a)
 s:∀H:Hp,SqT K H a xs
set_option genInjectivity false in
set_option genSizeOf false in
structure Adr where
 a_GROUND_SIGNS:Addr
 a_PIECE_SIGNS:Addr
 f_cell_number:Addr
 d_cell_number:FuncData
 C_Mark:Addr
 f_Mark_init:Addr
 d_Mark_init:FuncData
 f_may_stand:Addr
 d_may_stand:FuncData
 C_RulesFault:Addr
 N_RulesFault:Addr
 f_RulesFault:Addr
 d_RulesFault:FuncData
 C_LineFault:Addr
 N_LineFault:Addr
 f_LineFault:Addr
 d_LineFault:FuncData
 C_Position:Addr
 f_Position_init:Addr
 d_Position_init:FuncData
 f_cells_with:Addr
 d_cells_with:FuncData
 f_position_of:Addr
 d_position_of:FuncData
 f_pieces_of:Addr
 d_pieces_of:FuncData
 f_is_right:Addr
 d_is_right:FuncData
 C_Rules:Addr
 f_Rules_init:Addr
 d_Rules_init:FuncData
 f_start_of:Addr
 d_start_of:FuncData
 f_marks_with:Addr
 d_marks_with:FuncData
 f_is_on_edge:Addr
 d_is_on_edge:FuncData
 f_may_begin:Addr
 d_may_begin:FuncData
 f_is_goal_amiss:Addr
 d_is_goal_amiss:FuncData
 f_is_something_missing:Addr
 d_is_something_missing:FuncData
 f_faults_of:Addr
 d_faults_of:FuncData
 C_Stuck:Addr
 f_digit_value:Addr
 d_digit_value:FuncData
 f_begins_number:Addr
 d_begins_number:FuncData
 C_Scan:Addr
 f_Scan_init:Addr
 d_Scan_init:FuncData
 f_Scan_ahead:Addr
 d_Scan_ahead:FuncData
 f_Scan_go_on:Addr
 d_Scan_go_on:FuncData
 f_Scan_take:Addr
 d_Scan_take:FuncData
 f_Scan_take_one_of:Addr
 d_Scan_take_one_of:FuncData
 f_Scan_take_number:Addr
 d_Scan_take_number:FuncData
 f_Scan_take_end:Addr
 d_Scan_take_end:FuncData
 a_FIRST_WORDS:Addr
 a_GAIT_WORDS:Addr
 a_ARMS_WORDS:Addr
 a_TAKERS_WORDS:Addr
 a_WAY_WORDS:Addr
 a_ENMITY_WORDS:Addr
 a_GOAL_WORDS:Addr
 a_THRICE_WORDS:Addr
 f_is_letter:Addr
 d_is_letter:FuncData
 f_take_name:Addr
 d_take_name:FuncData
 f_take_rows:Addr
 d_take_rows:FuncData
 f_take_grounds:Addr
 d_take_grounds:FuncData
 f_take_pieces_ways:Addr
 d_take_pieces_ways:FuncData
 f_take_cells_ways:Addr
 d_take_cells_ways:FuncData
 f_take_ends:Addr
 d_take_ends:FuncData
 f_rules_of:Addr
 d_rules_of:FuncData
 a_SIDE_SIGNS:Addr
 f_gap_text:Addr
 d_gap_text:FuncData
 f_row_text:Addr
 d_row_text:FuncData
 f_line_of:Addr
 d_line_of:FuncData
 f_piece_ahead:Addr
 d_piece_ahead:FuncData
 f_has_king:Addr
 d_has_king:FuncData
 f_take_row:Addr
 d_take_row:FuncData
 f_take_board:Addr
 d_take_board:FuncData
 f_read_line:Addr
 d_read_line:FuncData
 f_turned_cell:Addr
 d_turned_cell:FuncData
 f_keeps_size:Addr
 d_keeps_size:FuncData
 f_fits:Addr
 d_fits:FuncData
 f_fitting_turns:Addr
 d_fitting_turns:FuncData
 f_turned_cells:Addr
 d_turned_cells:FuncData
 f_turned:Addr
 d_turned:FuncData
 f_highest_first:Addr
 d_highest_first:FuncData
 f_rank:Addr
 d_rank:FuncData
 f_least_turn:Addr
 d_least_turn:FuncData
 f_are_alike:Addr
 d_are_alike:FuncData
 a_NUMBERS_OF_CALLS:Addr
 a_ROWS_OF_CALLS:Addr
 C_Hall:Addr
 f_Hall_init:Addr
 d_Hall_init:FuncData
 C_Feed:Addr
 f_Feed_init:Addr
 d_Feed_init:FuncData
 f_Feed_has_more:Addr
 d_Feed_has_more:FuncData
 f_Feed_take_number:Addr
 d_Feed_take_number:FuncData
 f_Feed_take_numbers:Addr
 d_Feed_take_numbers:FuncData
 f_Feed_take_rows:Addr
 d_Feed_take_rows:FuncData
 f_with_length:Addr
 d_with_length:FuncData
 f_answer_rules:Addr
 d_answer_rules:FuncData
 f_answer_begin:Addr
 d_answer_begin:FuncData
 f_answer_read:Addr
 d_answer_read:FuncData
 f_is_rising:Addr
 d_is_rising:FuncData
 f_answer_write:Addr
 d_answer_write:FuncData
 f_answer_turn:Addr
 d_answer_turn:FuncData
 f_answer_least:Addr
 d_answer_least:FuncData
 f_answer_alike:Addr
 d_answer_alike:FuncData
 f_answer_by_rules:Addr
 d_answer_by_rules:FuncData
 f_answer_call:Addr
 d_answer_call:FuncData
 f_answers:Addr
 d_answers:FuncData
structure Txt (K:PySem.W.Frag) (mg:Str->Option Value) (t:Adr):Prop where
 k_ROW_STEP:∃u,mg "ROW_STEP"=some (.int (13) u)
 k_GROUND_SIGNS:TupT K mg "GROUND_SIGNS" t.a_GROUND_SIGNS [.str ".",.str "S",.str "X",.str "#"]
 k_PLAIN:∃u,mg "PLAIN"=some (.int (0) u)
 k_SEAT:∃u,mg "SEAT"=some (.int (1) u)
 k_EXIT:∃u,mg "EXIT"=some (.int (2) u)
 k_WALL:∃u,mg "WALL"=some (.int (3) u)
 k_PIECE_SIGNS:TupT K mg "PIECE_SIGNS" t.a_PIECE_SIGNS [.str ".",.str "h",.str "m",.str "K"]
 k_NOBODY:∃u,mg "NOBODY"=some (.int (0) u)
 k_HUNTER:∃u,mg "HUNTER"=some (.int (1) u)
 k_MAN:∃u,mg "MAN"=some (.int (2) u)
 k_KING:∃u,mg "KING"=some (.int (3) u)
 cell_number:FnT K mg "cell_number" s_cell_number ["x","y"] t.f_cell_number t.d_cell_number
 Mark:ClT K mg "Mark" "Mark.__init__" s_Mark_init ["self","place","cell","sign"] t.C_Mark t.f_Mark_init t.d_Mark_init
 n_Mark_place:NoAttr K t.C_Mark "place"
 n_Mark_cell:NoAttr K t.C_Mark "cell"
 n_Mark_sign:NoAttr K t.C_Mark "sign"
 may_stand:FnT K mg "may_stand" s_may_stand ["kinds","cell","piece"] t.f_may_stand t.d_may_stand
 RulesFault:Fault K "RulesFault.__init__" s_RulesFault t.C_RulesFault t.N_RulesFault t.f_RulesFault t.d_RulesFault
 m_RulesFault:mg "RulesFault"=some (.ref t.C_RulesFault)
 r_RulesFault:Reads K t.C_RulesFault
 p_RulesFault:PySem.W.findIn K (.ref t.C_RulesFault) "place"=some none
 LineFault:Fault K "LineFault.__init__" s_LineFault t.C_LineFault t.N_LineFault t.f_LineFault t.d_LineFault
 m_LineFault:mg "LineFault"=some (.ref t.C_LineFault)
 r_LineFault:Reads K t.C_LineFault
 p_LineFault:PySem.W.findIn K (.ref t.C_LineFault) "place"=some none
 k_TAKEN:∃u,mg "TAKEN"=some (.int (255) u)
 Position:ClT K mg "Position" "Position.__init__" s_Position_init ["self","hunters","men","king","side"] t.C_Position t.f_Position_init t.d_Position_init
 n_Position_hunters:NoAttr K t.C_Position "hunters"
 n_Position_men:NoAttr K t.C_Position "men"
 n_Position_king:NoAttr K t.C_Position "king"
 n_Position_side:NoAttr K t.C_Position "side"
 cells_with:FnT K mg "cells_with" s_cells_with ["marks","piece"] t.f_cells_with t.d_cells_with
 position_of:FnT K mg "position_of" s_position_of ["marks","side"] t.f_position_of t.d_position_of
 pieces_of:FnT K mg "pieces_of" s_pieces_of ["position"] t.f_pieces_of t.d_pieces_of
 is_right:FnT K mg "is_right" s_is_right ["kinds","position"] t.f_is_right t.d_is_right
 k_QUIET:∃u,mg "QUIET"=some (.int (0) u)
 k_PASSED:∃u,mg "PASSED"=some (.int (1) u)
 k_EXITS:∃u,mg "EXITS"=some (.int (1) u)
 Rules:ClT K mg "Rules" "Rules.__init__" s_Rules_init ["self"] t.C_Rules t.f_Rules_init t.d_Rules_init
 n_Rules_wide:NoAttr K t.C_Rules "wide"
 n_Rules_high:NoAttr K t.C_Rules "high"
 n_Rules_ground:NoAttr K t.C_Rules "ground"
 n_Rules_start:NoAttr K t.C_Rules "start"
 n_Rules_kinds:NoAttr K t.C_Rules "kinds"
 n_Rules_first:NoAttr K t.C_Rules "first"
 n_Rules_slides:NoAttr K t.C_Rules "slides"
 n_Rules_armed:NoAttr K t.C_Rules "armed"
 n_Rules_four:NoAttr K t.C_Rules "four"
 n_Rules_passed:NoAttr K t.C_Rules "passed"
 n_Rules_seat:NoAttr K t.C_Rules "seat"
 n_Rules_exits:NoAttr K t.C_Rules "exits"
 n_Rules_goal:NoAttr K t.C_Rules "goal"
 n_Rules_goal_place:NoAttr K t.C_Rules "goal_place"
 n_Rules_thrice:NoAttr K t.C_Rules "thrice"
 n_Rules_limit:NoAttr K t.C_Rules "limit"
 n_Rules_length:NoAttr K t.C_Rules "length"
 start_of:FnT K mg "start_of" s_start_of ["rules"] t.f_start_of t.d_start_of
 marks_with:FnT K mg "marks_with" s_marks_with ["marks","sign"] t.f_marks_with t.d_marks_with
 is_on_edge:FnT K mg "is_on_edge" s_is_on_edge ["rules","cell"] t.f_is_on_edge t.d_is_on_edge
 may_begin:FnT K mg "may_begin" s_may_begin ["rules","mark"] t.f_may_begin t.d_may_begin
 is_goal_amiss:FnT K mg "is_goal_amiss" s_is_goal_amiss ["rules"] t.f_is_goal_amiss t.d_is_goal_amiss
 is_something_missing:FnT K mg "is_something_missing" s_is_something_missing ["rules"] t.f_is_something_missing t.d_is_something_missing
 faults_of:FnT K mg "faults_of" s_faults_of ["rules"] t.f_faults_of t.d_faults_of
 k_END:∃u,mg "END"=some (.int (-1) u)
 Stuck:StuckT K mg t.C_Stuck
 digit_value:FnT K mg "digit_value" s_digit_value ["sign"] t.f_digit_value t.d_digit_value
 begins_number:FnT K mg "begins_number" s_begins_number ["value","least","most"] t.f_begins_number t.d_begins_number
 Scan:ClT K mg "Scan" "Scan.__init__" s_Scan_init ["self","text"] t.C_Scan t.f_Scan_init t.d_Scan_init
 Scan_ahead:MeT K t.C_Scan "ahead" "Scan.ahead" s_Scan_ahead ["self"] t.f_Scan_ahead t.d_Scan_ahead
 Scan_go_on:MeT K t.C_Scan "go_on" "Scan.go_on" s_Scan_go_on ["self"] t.f_Scan_go_on t.d_Scan_go_on
 Scan_take:MeT K t.C_Scan "take" "Scan.take" s_Scan_take ["self","word"] t.f_Scan_take t.d_Scan_take
 Scan_take_one_of:MeT K t.C_Scan "take_one_of" "Scan.take_one_of" s_Scan_take_one_of ["self","words"] t.f_Scan_take_one_of t.d_Scan_take_one_of
 Scan_take_number:MeT K t.C_Scan "take_number" "Scan.take_number" s_Scan_take_number ["self","least","most"] t.f_Scan_take_number t.d_Scan_take_number
 Scan_take_end:MeT K t.C_Scan "take_end" "Scan.take_end" s_Scan_take_end ["self"] t.f_Scan_take_end t.d_Scan_take_end
 n_Scan_text:NoAttr K t.C_Scan "text"
 n_Scan_place:NoAttr K t.C_Scan "place"
 k_LEAST_SIZE:∃u,mg "LEAST_SIZE"=some (.int (5) u)
 k_MOST_SIZE:∃u,mg "MOST_SIZE"=some (.int (13) u)
 k_MOST_LIMIT:∃u,mg "MOST_LIMIT"=some (.int (60000) u)
 k_LONGEST_NAME:∃u,mg "LONGEST_NAME"=some (.int (16) u)
 k_FIRST_WORDS:TupT K mg "FIRST_WORDS" t.a_FIRST_WORDS [.str "hunters",.str "king"]
 k_GAIT_WORDS:TupT K mg "GAIT_WORDS" t.a_GAIT_WORDS [.str "steps",.str "slides"]
 k_ARMS_WORDS:TupT K mg "ARMS_WORDS" t.a_ARMS_WORDS [.str "bare",.str "armed"]
 k_TAKERS_WORDS:TupT K mg "TAKERS_WORDS" t.a_TAKERS_WORDS [.str "two",.str "four"]
 k_WAY_WORDS:TupT K mg "WAY_WORDS" t.a_WAY_WORDS [.str "barred",.str "passed"]
 k_ENMITY_WORDS:TupT K mg "ENMITY_WORDS" t.a_ENMITY_WORDS [.str "quiet",.str "hunters",.str "men",.str "all"]
 k_GOAL_WORDS:TupT K mg "GOAL_WORDS" t.a_GOAL_WORDS [.str "edge",.str "exits"]
 k_THRICE_WORDS:TupT K mg "THRICE_WORDS" t.a_THRICE_WORDS [.str "drawn",.str "hunters",.str "king"]
 is_letter:FnT K mg "is_letter" s_is_letter ["sign"] t.f_is_letter t.d_is_letter
 take_name:FnT K mg "take_name" s_take_name ["scan"] t.f_take_name t.d_take_name
 take_rows:FnT K mg "take_rows" s_take_rows ["scan","rules","signs"] t.f_take_rows t.d_take_rows
 take_grounds:FnT K mg "take_grounds" s_take_grounds ["scan","rules"] t.f_take_grounds t.d_take_grounds
 take_pieces_ways:FnT K mg "take_pieces_ways" s_take_pieces_ways ["scan","rules"] t.f_take_pieces_ways t.d_take_pieces_ways
 take_cells_ways:FnT K mg "take_cells_ways" s_take_cells_ways ["scan","rules"] t.f_take_cells_ways t.d_take_cells_ways
 take_ends:FnT K mg "take_ends" s_take_ends ["scan","rules"] t.f_take_ends t.d_take_ends
 rules_of:FnT K mg "rules_of" s_rules_of ["text"] t.f_rules_of t.d_rules_of
 k_SIDE_SIGNS:TupT K mg "SIDE_SIGNS" t.a_SIDE_SIGNS [.str "h",.str "k"]
 gap_text:FnT K mg "gap_text" s_gap_text ["gap"] t.f_gap_text t.d_gap_text
 row_text:FnT K mg "row_text" s_row_text ["rules","pieces","y"] t.f_row_text t.d_row_text
 line_of:FnT K mg "line_of" s_line_of ["rules","position"] t.f_line_of t.d_line_of
 piece_ahead:FnT K mg "piece_ahead" s_piece_ahead ["scan"] t.f_piece_ahead t.d_piece_ahead
 has_king:FnT K mg "has_king" s_has_king ["marks"] t.f_has_king t.d_has_king
 take_row:FnT K mg "take_row" s_take_row ["scan","wide","y","marks"] t.f_take_row t.d_take_row
 take_board:FnT K mg "take_board" s_take_board ["scan","rules"] t.f_take_board t.d_take_board
 read_line:FnT K mg "read_line" s_read_line ["rules","text"] t.f_read_line t.d_read_line
 k_TURNS:∃u,mg "TURNS"=some (.int (8) u)
 k_QUARTERS:∃u,mg "QUARTERS"=some (.int (4) u)
 turned_cell:FnT K mg "turned_cell" s_turned_cell ["rules","cell","turn"] t.f_turned_cell t.d_turned_cell
 keeps_size:FnT K mg "keeps_size" s_keeps_size ["rules","turn"] t.f_keeps_size t.d_keeps_size
 fits:FnT K mg "fits" s_fits ["rules","turn"] t.f_fits t.d_fits
 fitting_turns:FnT K mg "fitting_turns" s_fitting_turns ["rules"] t.f_fitting_turns t.d_fitting_turns
 turned_cells:FnT K mg "turned_cells" s_turned_cells ["rules","cells","turn"] t.f_turned_cells t.d_turned_cells
 turned:FnT K mg "turned" s_turned ["rules","position","turn"] t.f_turned t.d_turned
 highest_first:FnT K mg "highest_first" s_highest_first ["cells"] t.f_highest_first t.d_highest_first
 rank:FnT K mg "rank" s_rank ["position"] t.f_rank t.d_rank
 least_turn:FnT K mg "least_turn" s_least_turn ["rules","position"] t.f_least_turn t.d_least_turn
 are_alike:FnT K mg "are_alike" s_are_alike ["rules","position","other"] t.f_are_alike t.d_are_alike
 k_RULES:∃u,mg "RULES"=some (.int (0) u)
 k_BEGIN:∃u,mg "BEGIN"=some (.int (1) u)
 k_READ:∃u,mg "READ"=some (.int (2) u)
 k_WRITE:∃u,mg "WRITE"=some (.int (3) u)
 k_TURN:∃u,mg "TURN"=some (.int (4) u)
 k_LEAST:∃u,mg "LEAST"=some (.int (5) u)
 k_NUMBERS_OF_CALLS:TupT K mg "NUMBERS_OF_CALLS" t.a_NUMBERS_OF_CALLS [.int 0,.int 0,.int 0,.int 2,.int 1,.int 0,.int 0]
 k_ROWS_OF_CALLS:TupT K mg "ROWS_OF_CALLS" t.a_ROWS_OF_CALLS [.int 1,.int 0,.int 1,.int 2,.int 1,.int 1,.int 2]
 k_NO_FITTING_TURN:∃u,mg "NO_FITTING_TURN"=some (.int (-2) u)
 k_NO_RULES:∃u,mg "NO_RULES"=some (.int (-3) u)
 k_LINE_FAULT:∃u,mg "LINE_FAULT"=some (.int (-5) u)
 k_RULES_FAULT:∃u,mg "RULES_FAULT"=some (.int (-6) u)
 k_NOT_RIGHT:∃u,mg "NOT_RIGHT"=some (.int (-8) u)
 Hall:ClT K mg "Hall" "Hall.__init__" s_Hall_init ["self"] t.C_Hall t.f_Hall_init t.d_Hall_init
 n_Hall_rules:NoAttr K t.C_Hall "rules"
 Feed:ClT K mg "Feed" "Feed.__init__" s_Feed_init ["self","calls"] t.C_Feed t.f_Feed_init t.d_Feed_init
 Feed_has_more:MeT K t.C_Feed "has_more" "Feed.has_more" s_Feed_has_more ["self"] t.f_Feed_has_more t.d_Feed_has_more
 Feed_take_number:MeT K t.C_Feed "take_number" "Feed.take_number" s_Feed_take_number ["self"] t.f_Feed_take_number t.d_Feed_take_number
 Feed_take_numbers:MeT K t.C_Feed "take_numbers" "Feed.take_numbers" s_Feed_take_numbers ["self","many"] t.f_Feed_take_numbers t.d_Feed_take_numbers
 Feed_take_rows:MeT K t.C_Feed "take_rows" "Feed.take_rows" s_Feed_take_rows ["self","many"] t.f_Feed_take_rows t.d_Feed_take_rows
 n_Feed_calls:NoAttr K t.C_Feed "calls"
 n_Feed_used:NoAttr K t.C_Feed "used"
 with_length:FnT K mg "with_length" s_with_length ["row"] t.f_with_length t.d_with_length
 answer_rules:FnT K mg "answer_rules" s_answer_rules ["hall","text"] t.f_answer_rules t.d_answer_rules
 answer_begin:FnT K mg "answer_begin" s_answer_begin ["rules"] t.f_answer_begin t.d_answer_begin
 answer_read:FnT K mg "answer_read" s_answer_read ["rules","text"] t.f_answer_read t.d_answer_read
 is_rising:FnT K mg "is_rising" s_is_rising ["cells"] t.f_is_rising t.d_is_rising
 answer_write:FnT K mg "answer_write" s_answer_write ["rules","position"] t.f_answer_write t.d_answer_write
 answer_turn:FnT K mg "answer_turn" s_answer_turn ["rules","text","turn"] t.f_answer_turn t.d_answer_turn
 answer_least:FnT K mg "answer_least" s_answer_least ["rules","text"] t.f_answer_least t.d_answer_least
 answer_alike:FnT K mg "answer_alike" s_answer_alike ["rules","text","other_text"] t.f_answer_alike t.d_answer_alike
 answer_by_rules:FnT K mg "answer_by_rules" s_answer_by_rules ["rules","call","numbers","rows"] t.f_answer_by_rules t.d_answer_by_rules
 answer_call:FnT K mg "answer_call" s_answer_call ["hall","call","numbers","rows"] t.f_answer_call t.d_answer_call
 answers:FnT K mg "answers" s_answers ["calls"] t.f_answers t.d_answers
 o_len:mg "len"=none
 o_range:mg "range"=none
 o_ord:mg "ord"=none
 o_sorted:mg "sorted"=none
 o_min:mg "min"=none
 o_dict:mg "dict"=none
 o_list:mg "list"=none
 o_str:mg "str"=none
 o_enumerate:mg "enumerate"=none
abbrev noX:St->XK:=λ_ _ _ _=>False
theorem pass_no {P:Program}{w:World}{X:Cx}:PassesS (CX1 P w) X noX:=λ_ _ _ _ _ _ _ h=>by
 obtain⟨_,_,_,_,_,_,_,_,_,_,_,_,_,z⟩:=h
 exact z.elim
theorem pass_no' {P:Program}{w:World}{X:Cx}:Passes (CX1 P w) X (λ_ _ _=>False):=λ_ _ _ _ _ _ _ h=>by
 obtain⟨_,_,_,_,_,_,_,_,_,_,_,_,_,z⟩:=h
 exact z.elim
section
variable {P:Program}{w:World}{K:PySem.W.Frag}{mg:Str->Option Value}{base:Heap}
theorem Fun.okX {x qual:Str}{st:Stmt}{f:Addr}{fd:FuncData}{N ps:List Str}{k:Nat}{sp:Sp}(F:Fun K x qual st f fd) (S:qqb N ps (dSc st)) (len:∀vs H Q E,sp vs H Q E->vs.length=ps.length)
  (hbody:∀(cdv:Value) (A:Around) (outer:List Env) (s:Shared) (H:Hp) (vs:List V) (Q:VK) (E:XK),Room k (A.deeper (envOfC qual (dSc st) s.heap.objs.size f cdv))->sp vs H Q E ->
   ∃t,PSs (cxOf (CX1 P w) P w K mg base N qual (dSc st) f cdv A outer s H E) (defBody st) t/\t { nx:=λ_ H'=>Q .non H',rt:=Q } (start N vs) H):FnOk P w K mg base (CX1 P w) (k+1) f fd ps sp:=by
 obtain⟨oc,od,kV,doc,pm,an,cdv,ct,osl,rfl,lk,hcd⟩:=F.ex
 exact fn_of lk hcd S len λA outer s H vs Q E hr hsp=>hbody cdv A outer s H vs Q E hr hsp
end
section
variable {X:Cx}{P:Program}{w:World}{k:Nat}{x qual:Str}{st:Stmt}{ps:List Str}{f C:Addr}{fd:FuncData}{sp:Sp}{e o:Expr}{es:List Expr}{t:TA}{ta:TE}{p pos apos:Pos}{R:St->XK}
theorem eK {n:Int}(hm:∃u,X.mg x=some (.int n u)) (hg:Gl X x:=by rfl) (hd:(x == ("__debug__":Str))=false:=by decide):PE X (.Name x pos) (tC (.int n)):=by
 obtain⟨u,hm⟩:=hm
 exact pe_glob hg hm ⟨u,rfl⟩ hd
theorem eKt {a:Addr}{xs:List V}(hm:TupT X.K X.mg x a xs) (hg:Gl X x:=by rfl) (hd:(x == ("__debug__":Str))=false:=by decide):PE X (.Name x pos) (tC (.ref a)):=pe_glob hg hm.m rfl hd
theorem eC (Ft:FnT X.K X.mg x st ps f fd) (G:FnOk X.prog X.w X.K X.mg X.base (CX1 X.prog X.w) k f fd ps sp) (hr:Room k X.A) (ha:PA X (e::es) t) (hg:Gl X x:=by rfl)
  (hdb:(x == ("__debug__":Str))=false:=by decide) (he:starEach (e::es) X.env=(false,eval e X.env)::starEach es X.env:=by rfl) (hpl:(backTo pos (starEach es X.env)).any (·.1)=false:=by rfl) :
  PE X (.Call (.Name x p) (e::es) [] pos) (tCallS sp [] noX t):=pe_callS G hr hg Ft.m Ft.F.kp Ft.b .nil pass_no ha hdb he hpl
theorem eCR (T:Takes X R) (Ft:FnT X.K X.mg x st ps f fd) (G:FnOk X.prog X.w X.K X.mg X.base (CX1 X.prog X.w) k f fd ps sp) (hr:Room k X.A) (ha:PA X (e::es) t) (hg:Gl X x:=by rfl)
  (hdb:(x == ("__debug__":Str))=false:=by decide) (he:starEach (e::es) X.env=(false,eval e X.env)::starEach es X.env:=by rfl) (hpl:(backTo pos (starEach es X.env)).any (·.1)=false:=by rfl) :
  PE X (.Call (.Name x p) (e::es) [] pos) (tCallS sp [] R t):=pe_callS G hr hg Ft.m Ft.F.kp Ft.b .nil T.passes ha hdb he hpl
theorem eM {pl:Sem Bool}(c:Cls X.K C) (Mt:MeT X.K C x qual st ps f fd) (G:FnOk X.prog X.w X.K X.mg X.base (CX1 X.prog X.w) k f fd ps sp) (hr:Room k X.A) (ho:PE X o ta) (ha:PA X (e::es) t)
  (hst:starEach (e::es) X.env=(false,eval e X.env)::starEach es X.env:=by rfl) (hpl:(backTo pos (starEach es X.env)).any (·.1)=false:=by rfl)
  (ht:eval (.Call (.Attribute o x apos) (e::es) [] pos) X.env=(eval o X.env >>= λov=>standAt apos.atName >>= λ_=>holding [ov] (getMethod ov x pl) >>= λy=>callWith pos y.1 y.2 (backTo pos (starEach (e::es) X.env)) (backToKw pos (keywordEach [] X.env))):=by rfl) :
  PE X (.Call (.Attribute o x apos) (e::es) [] pos) (tMethS C x sp [] noX ta t):=pe_methS ho c Mt.me G hr Mt.b .nil pass_no ha hst hpl ht
theorem eMR {pl:Sem Bool}(T:Takes X R) (c:Cls X.K C) (Mt:MeT X.K C x qual st ps f fd) (G:FnOk X.prog X.w X.K X.mg X.base (CX1 X.prog X.w) k f fd ps sp) (hr:Room k X.A) (ho:PE X o ta) (ha:PA X (e::es) t)
  (hst:starEach (e::es) X.env=(false,eval e X.env)::starEach es X.env:=by rfl) (hpl:(backTo pos (starEach es X.env)).any (·.1)=false:=by rfl)
  (ht:eval (.Call (.Attribute o x apos) (e::es) [] pos) X.env=(eval o X.env >>= λov=>standAt apos.atName >>= λ_=>holding [ov] (getMethod ov x pl) >>= λy=>callWith pos y.1 y.2 (backTo pos (starEach (e::es) X.env)) (backToKw pos (keywordEach [] X.env))):=by rfl) :
  PE X (.Call (.Attribute o x apos) (e::es) [] pos) (tMethS C x sp [] R ta t):=pe_methS ho c Mt.me G hr Mt.b .nil T.passes ha hst hpl ht
theorem eM0 {pl:Sem Bool}(c:Cls X.K C) (Mt:MeT X.K C x qual st ps f fd) (G:FnOk X.prog X.w X.K X.mg X.base (CX1 X.prog X.w) k f fd ps sp) (hr:Room k X.A) (ho:PE X o ta)
  (ht:eval (.Call (.Attribute o x apos) [] [] pos) X.env=(eval o X.env >>= λov=>standAt apos.atName >>= λ_=>holding [ov] (getMethod ov x pl) >>= λy=>callWith pos y.1 y.2 (backTo pos (starEach [] X.env)) (backToKw pos (keywordEach [] X.env))):=by rfl) :
  PE X (.Call (.Attribute o x apos) [] [] pos) (tMethS C x sp [] noX ta tNil):=pe_methS0 ho c Mt.me G hr Mt.b .nil pass_no ht
theorem eMR0 {pl:Sem Bool}(T:Takes X R) (c:Cls X.K C) (Mt:MeT X.K C x qual st ps f fd) (G:FnOk X.prog X.w X.K X.mg X.base (CX1 X.prog X.w) k f fd ps sp) (hr:Room k X.A) (ho:PE X o ta)
  (ht:eval (.Call (.Attribute o x apos) [] [] pos) X.env=(eval o X.env >>= λov=>standAt apos.atName >>= λ_=>holding [ov] (getMethod ov x pl) >>= λy=>callWith pos y.1 y.2 (backTo pos (starEach [] X.env)) (backToKw pos (keywordEach [] X.env))):=by rfl) :
  PE X (.Call (.Attribute o x apos) [] [] pos) (tMethS C x sp [] R ta tNil):=pe_methS0 ho c Mt.me G hr Mt.b .nil T.passes ht
theorem eN (Ct:ClT X.K X.mg x qual st ps C f fd) (G:FnOk X.prog X.w X.K X.mg X.base (CX1 X.prog X.w) k f fd ps sp) (hr:Room (k+1) X.A) (ha:PA X (e::es) t) (hg:Gl X x:=by rfl)
  (hdb:(x == ("__debug__":Str))=false:=by decide) (he:starEach (e::es) X.env=(false,eval e X.env)::starEach es X.env:=by rfl) (hpl:(backTo pos (starEach es X.env)).any (·.1)=false:=by rfl) :
  PE X (.Call (.Name x p) (e::es) [] pos) (tMake C sp [] (λ_ _ _=>False) t):=pe_make Ct.mkC G hr hg Ct.m Ct.b .nil pass_no' ha hdb he hpl
theorem eN0 (Ct:ClT X.K X.mg x qual st ps C f fd) (G:FnOk X.prog X.w X.K X.mg X.base (CX1 X.prog X.w) k f fd ps sp) (hr:Room (k+1) X.A) (hg:Gl X x:=by rfl)
  (hdb:(x == ("__debug__":Str))=false:=by decide):PE X (.Call (.Name x p) [] [] pos) (tMake C sp [] (λ_ _ _=>False) tNil):=pe_make0 Ct.mkC G hr hg Ct.m Ct.b .nil pass_no' hdb
end
end L2
end
section
namespace L2
open PySem PySem.Spec PyProof.Rows Tx
def qqf (x qual:Str) (st:Stmt) (ps:List Str):Prop:=∀(kV doc pm:Value) (an:Option Addr) (cdv ct:Value) (us:List Value),us.length=ps.length->bindArgs (PySem.W.fnOf x qual (defArgs st) (defBody st) (dSc st) .none kV doc pm an cdv ct) ⟨us,[]⟩=pure (ps.zip us)
theorem us_1 {us:List Value}(h:us.length=1):∃a,us=[a]:=by
 cases us with
 | nil=>cases h
 | cons a r =>
  cases r with
  | nil=>exact⟨a,rfl⟩
  | cons b r=>cases h
theorem us_s {us:List Value}{n:Nat}(h:us.length=n+1):∃a r,us=a::r/\r.length=n:=by
 cases us with
 | nil=>cases h
 | cons a r=>exact⟨a,r,rfl,Nat.succ.inj h⟩
theorem us_2 {us:List Value}(h:us.length=2):∃a b,us=[a,b]:=by
 obtain⟨a,r,rfl,h'⟩:=us_s h
 obtain⟨b,rfl⟩:=us_1 h'
 exact⟨a,b,rfl⟩
theorem us_3 {us:List Value}(h:us.length=3):∃a b c,us=[a,b,c]:=by
 obtain⟨a,r,rfl,h'⟩:=us_s h
 obtain⟨b,c,rfl⟩:=us_2 h'
 exact⟨a,b,c,rfl⟩
theorem us_4 {us:List Value}(h:us.length=4):∃a b c d,us=[a,b,c,d]:=by
 obtain⟨a,r,rfl,h'⟩:=us_s h
 obtain⟨b,c,d,rfl⟩:=us_3 h'
 exact⟨a,b,c,d,rfl⟩
theorem us_5 {us:List Value}(h:us.length=5):∃a b c d e,us=[a,b,c,d,e]:=by
 obtain⟨a,r,rfl,h'⟩:=us_s h
 obtain⟨b,c,d,e,rfl⟩:=us_4 h'
 exact⟨a,b,c,d,e,rfl⟩
section
variable {K:PySem.W.Frag}{mg:Str->Option Value}{h:Heap}{x qual:Str}{st:Stmt}{ps:List Str}{f C N:Addr}{oc:Value}{od an:Option Addr}{osl:Array (Option Value)}{kV doc pm cdv ct:Value}
theorem need_int {n:Int}{u:Tok}(X:K.In h) (G:h.Ns mainGlobals mg) (a:PySem.W.nsIn K mainGlobals x=some (some (.int n u)):=by k_is):∃u,mg x=some (.int n u):=⟨u,PySem.W.mg_of X G a⟩
theorem need_none (X:K.In h) (G:h.Ns mainGlobals mg) (a:PySem.W.nsIn K mainGlobals x=some none:=by k_is):mg x=none:=PySem.W.mg_none_of X G a
theorem need_mg (X:K.In h) (G:h.Ns mainGlobals mg) (a:PySem.W.nsIn K mainGlobals x=some (some (.ref C)):=by k_is):mg x=some (.ref C):=PySem.W.mg_of X G a
theorem need_tup {xs:List V}{its:Array Value}{n:Nat}(X:K.In h) (G:h.Ns mainGlobals mg) (a:PySem.W.nsIn K mainGlobals x=some (some (.ref C)):=by k_is) (l:K.lookup C=some ⟨.type "tuple",od,.seq its n,osl⟩:=by k_is) (z:its.size<=sizeLine) (v:Vals xs its.toList):TupT K mg x C xs :=
 ⟨PySem.W.mg_of X G a,λH=>.inr ⟨_,its,n,l,rfl,rfl,z,v⟩⟩
theorem need_fn (X:K.In h) (G:h.Ns mainGlobals mg) (hb:qqf x x st ps) (a:PySem.W.nsIn K mainGlobals x=some (some (.ref f)):=by k_is)
  (l:K.lookup f=some ⟨oc,od,.func (PySem.W.fnOf x x (defArgs st) (defBody st) (dSc st) .none kV doc pm an cdv ct),osl⟩:=by k_is) (c:PySem.W.codeIn K cdv x=true:=by k_is) (k:PySem.W.keepIn K (.ref f)=true:=by k_is) :
  FnT K mg x st ps f (PySem.W.fnOf x x (defArgs st) (defBody st) (dSc st) .none kV doc pm an cdv ct) :=
 have F:=fun_mk l c k
 ⟨F,PySem.W.mg_of X G a,F.binds hb⟩
theorem need_cl (X:K.In h) (G:h.Ns mainGlobals mg) (hb:qqf "__init__" qual st ps) (a:PySem.W.nsIn K mainGlobals x=some (some (.ref C)):=by k_is)
  (pg:PySem.W.plainGet K C Str.empty=true:=by k_is) (hd:PySem.W.hasDictIn K C=true:=by k_is) (po:PySem.W.plainOver K C=true:=by k_is) (sa:PySem.W.findIn K (.ref C) "__setattr__"=some (some (.builtin "object.__setattr__")):=by k_is) (mk:PySem.W.makesIn K C=true:=by k_is)
  (i:PySem.W.findIn K (.ref C) "__init__"=some (some (.ref f)):=by k_is) (fn:PySem.W.isFn K (.ref f)=true:=by k_is) (kc:PySem.W.keepIn K (.ref C)=true:=by k_is)
  (l:K.lookup f=some ⟨oc,od,.func (PySem.W.fnOf "__init__" qual (defArgs st) (defBody st) (dSc st) .none kV doc pm an cdv ct),osl⟩:=by k_is) (c:PySem.W.codeIn K cdv qual=true:=by k_is) (k:PySem.W.keepIn K (.ref f)=true:=by k_is) :
  ClT K mg x qual st ps C f (PySem.W.fnOf "__init__" qual (defArgs st) (defBody st) (dSc st) .none kV doc pm an cdv ct) :=
 have F:=fun_mk l c k
 ⟨⟨pg,hd,po,sa⟩,PySem.W.mg_of X G a,⟨mk,i,fn,kc⟩,F,F.binds hb⟩
theorem need_me (X:K.In h) (hC:mg x=some (.ref C)){m:Str}(hb:qqf m qual st ps)
  (i:PySem.W.findIn K (.ref C) m=some (some (.ref f)):=by k_is) (fn:PySem.W.isFn K (.ref f)=true:=by k_is)
  (l:K.lookup f=some ⟨oc,od,.func (PySem.W.fnOf m qual (defArgs st) (defBody st) (dSc st) .none kV doc pm an cdv ct),osl⟩:=by k_is) (c:PySem.W.codeIn K cdv qual=true:=by k_is) (k:PySem.W.keepIn K (.ref f)=true:=by k_is) :
  MeT K C m qual st ps f (PySem.W.fnOf m qual (defArgs st) (defBody st) (dSc st) .none kV doc pm an cdv ct) :=
 have F:=fun_mk l c k
 ⟨F,⟨i,fn,k⟩,F.binds hb⟩
theorem need_no (X:K.In h) (hC:mg x=some (.ref C)) (m:Str) (i:PySem.W.findIn K (.ref C) m=some none:=by k_is):NoAttr K C m:=i
theorem need_stuck {nm q:Str}{bs:List Value}{hdct:Bool}{sn:List Str}{sub:List Value}{ab:Bool}{col:Option Bool}{dd:Option Addr}{k0 k1 k2 k3 k5:Option Value}(X:K.In h) (G:h.Ns mainGlobals mg)
  (a:PySem.W.nsIn K mainGlobals "Stuck"=some (some (.ref C)):=by k_is) (o:K.lookup C=some (excClassObj nm q C N bs excMro hdct sn sub ab col dd k0 k1 k2 k3 k5 "Exception.__new__"):=by k_is)
  (i:PySem.W.findIn K (.ref C) "__init__"=some (some (.builtin "Exception.__init__")):=by k_is) (kp:PySem.W.keepIn K (.ref C)=true:=by k_is):StuckT K mg C :=
 ⟨⟨_,_,_,_,_,_,_,_,_,_,_,_,_,_,_,o⟩,i,kp,PySem.W.mg_of X G a⟩
theorem need_fault {nm q:Str}{bs:List Value}{sn:List Str}{sub:List Value}{ab:Bool}{col:Option Bool}{dd:Option Addr}{k0 k1 k2 k3 k5:Option Value}(X:K.In h) (hC:mg x=some (.ref C)) (hb:qqf "__init__" qual st ["self","kind","place"])
  (sc:qqb ["self","kind","place"] ["self","kind","place"] (dSc st)) (v0:(dSc st).names.lookup ("self":Str)=some .local) (v1:(dSc st).names.lookup ("kind":Str)=some .local) (v2:(dSc st).names.lookup ("place":Str)=some .local)
  (bo:∃p1 p2 p3 p4 q1 q2 q3 q4,defBody st=[.Assign [.Attribute (.Name "self" p1) "kind" p2] (.Name "kind" p3) p4,.Assign [.Attribute (.Name "self" q1) "place" q2] (.Name "place" q3) q4])
  (o:K.lookup C=some (excClassObj nm q C N bs excMro true sn sub ab col dd k0 k1 k2 k3 k5 "Exception.__new__"):=by k_is) (ok:PySem.W.nsOkIn K N=true:=by kernel_rfl) (nsa:PySem.W.nsIn K N "__setattr__"=some none:=by k_is)
  (i:PySem.W.findIn K (.ref C) "__init__"=some (some (.ref f)):=by k_is) (fn:PySem.W.isFn K (.ref f)=true:=by k_is) (kp:PySem.W.keepIn K (.ref C)=true:=by k_is) (sa:PySem.W.findIn K (.ref C) "__setattr__"=some (some (.builtin "object.__setattr__")):=by k_is)
  (kd:PySem.W.findIn K (.ref C) "kind"=some none:=by k_is) (pl:PySem.W.nsIn K N "place"=some none:=by k_is)
  (l:K.lookup f=some ⟨oc,od,.func (PySem.W.fnOf "__init__" qual (defArgs st) (defBody st) (dSc st) .none kV doc pm an cdv ct),osl⟩:=by k_is) (c:PySem.W.codeIn K cdv qual=true:=by k_is) (k:PySem.W.keepIn K (.ref f)=true:=by k_is) :
  Fault K qual st C N f (PySem.W.fnOf "__init__" qual (defArgs st) (defBody st) (dSc st) .none kV doc pm an cdv ct) :=
 have F:=fun_mk l c k
 ⟨⟨⟨_,_,_,_,_,_,_,_,_,_,_,_,_,o⟩,ok,nsa⟩,i,fn,kp,sa,kd,pl,F,sc,v0,v1,v2,F.binds hb,bo⟩
theorem need_reads {fd:FuncData}(Fa:Fault K qual st C N f fd) (ga:PySem.W.findIn K (.ref C) "__getattribute__"=some (some (.builtin "BaseException.__getattribute__")):=by k_is) (gk:PySem.W.findIn K (.ref C) "__getattr__"=some none:=by k_is)
  (hd:(match K.lookup C with | some ⟨_,_,.cls cd,_⟩=>cd.hasDict | _=>false)=true:=by kernel_rfl):Reads K C:=⟨Fa.cls.one,ga,gk,hd⟩
end
theorem bd_cell_number:qqf "cell_number" "cell_number" s_cell_number ["x","y"]:=λ_ _ _ _ _ _ us hl=>by obtain⟨_,_,rfl⟩:=us_2 hl;rfl
theorem bd_Mark:qqf "__init__" "Mark.__init__" s_Mark_init ["self","place","cell","sign"]:=λ_ _ _ _ _ _ us hl=>by obtain⟨_,_,_,_,rfl⟩:=us_4 hl;rfl
theorem bd_may_stand:qqf "may_stand" "may_stand" s_may_stand ["kinds","cell","piece"]:=λ_ _ _ _ _ _ us hl=>by obtain⟨_,_,_,rfl⟩:=us_3 hl;rfl
theorem bd_RulesFault:qqf "__init__" "RulesFault.__init__" s_RulesFault ["self","kind","place"]:=λ_ _ _ _ _ _ us hl=>by obtain⟨_,_,_,rfl⟩:=us_3 hl;rfl
theorem scx_RulesFault:qqb ["self","kind","place"] ["self","kind","place"] (dSc s_RulesFault):=⟨rfl,rfl,rfl,by decide +kernel,rfl,by decide +kernel,by decide +kernel⟩
theorem bd_LineFault:qqf "__init__" "LineFault.__init__" s_LineFault ["self","kind","place"]:=λ_ _ _ _ _ _ us hl=>by obtain⟨_,_,_,rfl⟩:=us_3 hl;rfl
theorem scx_LineFault:qqb ["self","kind","place"] ["self","kind","place"] (dSc s_LineFault):=⟨rfl,rfl,rfl,by decide +kernel,rfl,by decide +kernel,by decide +kernel⟩
theorem bd_Position:qqf "__init__" "Position.__init__" s_Position_init ["self","hunters","men","king","side"]:=λ_ _ _ _ _ _ us hl=>by obtain⟨_,_,_,_,_,rfl⟩:=us_5 hl;rfl
theorem bd_cells_with:qqf "cells_with" "cells_with" s_cells_with ["marks","piece"]:=λ_ _ _ _ _ _ us hl=>by obtain⟨_,_,rfl⟩:=us_2 hl;rfl
theorem bd_position_of:qqf "position_of" "position_of" s_position_of ["marks","side"]:=λ_ _ _ _ _ _ us hl=>by obtain⟨_,_,rfl⟩:=us_2 hl;rfl
theorem bd_pieces_of:qqf "pieces_of" "pieces_of" s_pieces_of ["position"]:=λ_ _ _ _ _ _ us hl=>by obtain⟨_,rfl⟩:=us_1 hl;rfl
theorem bd_is_right:qqf "is_right" "is_right" s_is_right ["kinds","position"]:=λ_ _ _ _ _ _ us hl=>by obtain⟨_,_,rfl⟩:=us_2 hl;rfl
theorem bd_Rules:qqf "__init__" "Rules.__init__" s_Rules_init ["self"]:=λ_ _ _ _ _ _ us hl=>by obtain⟨_,rfl⟩:=us_1 hl;rfl
theorem bd_start_of:qqf "start_of" "start_of" s_start_of ["rules"]:=λ_ _ _ _ _ _ us hl=>by obtain⟨_,rfl⟩:=us_1 hl;rfl
theorem bd_marks_with:qqf "marks_with" "marks_with" s_marks_with ["marks","sign"]:=λ_ _ _ _ _ _ us hl=>by obtain⟨_,_,rfl⟩:=us_2 hl;rfl
theorem bd_is_on_edge:qqf "is_on_edge" "is_on_edge" s_is_on_edge ["rules","cell"]:=λ_ _ _ _ _ _ us hl=>by obtain⟨_,_,rfl⟩:=us_2 hl;rfl
theorem bd_may_begin:qqf "may_begin" "may_begin" s_may_begin ["rules","mark"]:=λ_ _ _ _ _ _ us hl=>by obtain⟨_,_,rfl⟩:=us_2 hl;rfl
theorem bd_is_goal_amiss:qqf "is_goal_amiss" "is_goal_amiss" s_is_goal_amiss ["rules"]:=λ_ _ _ _ _ _ us hl=>by obtain⟨_,rfl⟩:=us_1 hl;rfl
theorem bd_is_something_missing:qqf "is_something_missing" "is_something_missing" s_is_something_missing ["rules"]:=λ_ _ _ _ _ _ us hl=>by obtain⟨_,rfl⟩:=us_1 hl;rfl
theorem bd_faults_of:qqf "faults_of" "faults_of" s_faults_of ["rules"]:=λ_ _ _ _ _ _ us hl=>by obtain⟨_,rfl⟩:=us_1 hl;rfl
theorem bd_digit_value:qqf "digit_value" "digit_value" s_digit_value ["sign"]:=λ_ _ _ _ _ _ us hl=>by obtain⟨_,rfl⟩:=us_1 hl;rfl
theorem bd_begins_number:qqf "begins_number" "begins_number" s_begins_number ["value","least","most"]:=λ_ _ _ _ _ _ us hl=>by obtain⟨_,_,_,rfl⟩:=us_3 hl;rfl
theorem bd_Scan:qqf "__init__" "Scan.__init__" s_Scan_init ["self","text"]:=λ_ _ _ _ _ _ us hl=>by obtain⟨_,_,rfl⟩:=us_2 hl;rfl
theorem bd_Scan_ahead:qqf "ahead" "Scan.ahead" s_Scan_ahead ["self"]:=λ_ _ _ _ _ _ us hl=>by obtain⟨_,rfl⟩:=us_1 hl;rfl
theorem bd_Scan_go_on:qqf "go_on" "Scan.go_on" s_Scan_go_on ["self"]:=λ_ _ _ _ _ _ us hl=>by obtain⟨_,rfl⟩:=us_1 hl;rfl
theorem bd_Scan_take:qqf "take" "Scan.take" s_Scan_take ["self","word"]:=λ_ _ _ _ _ _ us hl=>by obtain⟨_,_,rfl⟩:=us_2 hl;rfl
theorem bd_Scan_take_one_of:qqf "take_one_of" "Scan.take_one_of" s_Scan_take_one_of ["self","words"]:=λ_ _ _ _ _ _ us hl=>by obtain⟨_,_,rfl⟩:=us_2 hl;rfl
theorem bd_Scan_take_number:qqf "take_number" "Scan.take_number" s_Scan_take_number ["self","least","most"]:=λ_ _ _ _ _ _ us hl=>by obtain⟨_,_,_,rfl⟩:=us_3 hl;rfl
theorem bd_Scan_take_end:qqf "take_end" "Scan.take_end" s_Scan_take_end ["self"]:=λ_ _ _ _ _ _ us hl=>by obtain⟨_,rfl⟩:=us_1 hl;rfl
theorem bd_is_letter:qqf "is_letter" "is_letter" s_is_letter ["sign"]:=λ_ _ _ _ _ _ us hl=>by obtain⟨_,rfl⟩:=us_1 hl;rfl
theorem bd_take_name:qqf "take_name" "take_name" s_take_name ["scan"]:=λ_ _ _ _ _ _ us hl=>by obtain⟨_,rfl⟩:=us_1 hl;rfl
theorem bd_take_rows:qqf "take_rows" "take_rows" s_take_rows ["scan","rules","signs"]:=λ_ _ _ _ _ _ us hl=>by obtain⟨_,_,_,rfl⟩:=us_3 hl;rfl
theorem bd_take_grounds:qqf "take_grounds" "take_grounds" s_take_grounds ["scan","rules"]:=λ_ _ _ _ _ _ us hl=>by obtain⟨_,_,rfl⟩:=us_2 hl;rfl
theorem bd_take_pieces_ways:qqf "take_pieces_ways" "take_pieces_ways" s_take_pieces_ways ["scan","rules"]:=λ_ _ _ _ _ _ us hl=>by obtain⟨_,_,rfl⟩:=us_2 hl;rfl
theorem bd_take_cells_ways:qqf "take_cells_ways" "take_cells_ways" s_take_cells_ways ["scan","rules"]:=λ_ _ _ _ _ _ us hl=>by obtain⟨_,_,rfl⟩:=us_2 hl;rfl
theorem bd_take_ends:qqf "take_ends" "take_ends" s_take_ends ["scan","rules"]:=λ_ _ _ _ _ _ us hl=>by obtain⟨_,_,rfl⟩:=us_2 hl;rfl
theorem bd_rules_of:qqf "rules_of" "rules_of" s_rules_of ["text"]:=λ_ _ _ _ _ _ us hl=>by obtain⟨_,rfl⟩:=us_1 hl;rfl
theorem bd_gap_text:qqf "gap_text" "gap_text" s_gap_text ["gap"]:=λ_ _ _ _ _ _ us hl=>by obtain⟨_,rfl⟩:=us_1 hl;rfl
theorem bd_row_text:qqf "row_text" "row_text" s_row_text ["rules","pieces","y"]:=λ_ _ _ _ _ _ us hl=>by obtain⟨_,_,_,rfl⟩:=us_3 hl;rfl
theorem bd_line_of:qqf "line_of" "line_of" s_line_of ["rules","position"]:=λ_ _ _ _ _ _ us hl=>by obtain⟨_,_,rfl⟩:=us_2 hl;rfl
theorem bd_piece_ahead:qqf "piece_ahead" "piece_ahead" s_piece_ahead ["scan"]:=λ_ _ _ _ _ _ us hl=>by obtain⟨_,rfl⟩:=us_1 hl;rfl
theorem bd_has_king:qqf "has_king" "has_king" s_has_king ["marks"]:=λ_ _ _ _ _ _ us hl=>by obtain⟨_,rfl⟩:=us_1 hl;rfl
theorem bd_take_row:qqf "take_row" "take_row" s_take_row ["scan","wide","y","marks"]:=λ_ _ _ _ _ _ us hl=>by obtain⟨_,_,_,_,rfl⟩:=us_4 hl;rfl
theorem bd_take_board:qqf "take_board" "take_board" s_take_board ["scan","rules"]:=λ_ _ _ _ _ _ us hl=>by obtain⟨_,_,rfl⟩:=us_2 hl;rfl
theorem bd_read_line:qqf "read_line" "read_line" s_read_line ["rules","text"]:=λ_ _ _ _ _ _ us hl=>by obtain⟨_,_,rfl⟩:=us_2 hl;rfl
theorem bd_turned_cell:qqf "turned_cell" "turned_cell" s_turned_cell ["rules","cell","turn"]:=λ_ _ _ _ _ _ us hl=>by obtain⟨_,_,_,rfl⟩:=us_3 hl;rfl
theorem bd_keeps_size:qqf "keeps_size" "keeps_size" s_keeps_size ["rules","turn"]:=λ_ _ _ _ _ _ us hl=>by obtain⟨_,_,rfl⟩:=us_2 hl;rfl
theorem bd_fits:qqf "fits" "fits" s_fits ["rules","turn"]:=λ_ _ _ _ _ _ us hl=>by obtain⟨_,_,rfl⟩:=us_2 hl;rfl
theorem bd_fitting_turns:qqf "fitting_turns" "fitting_turns" s_fitting_turns ["rules"]:=λ_ _ _ _ _ _ us hl=>by obtain⟨_,rfl⟩:=us_1 hl;rfl
theorem bd_turned_cells:qqf "turned_cells" "turned_cells" s_turned_cells ["rules","cells","turn"]:=λ_ _ _ _ _ _ us hl=>by obtain⟨_,_,_,rfl⟩:=us_3 hl;rfl
theorem bd_turned:qqf "turned" "turned" s_turned ["rules","position","turn"]:=λ_ _ _ _ _ _ us hl=>by obtain⟨_,_,_,rfl⟩:=us_3 hl;rfl
theorem bd_highest_first:qqf "highest_first" "highest_first" s_highest_first ["cells"]:=λ_ _ _ _ _ _ us hl=>by obtain⟨_,rfl⟩:=us_1 hl;rfl
theorem bd_rank:qqf "rank" "rank" s_rank ["position"]:=λ_ _ _ _ _ _ us hl=>by obtain⟨_,rfl⟩:=us_1 hl;rfl
theorem bd_least_turn:qqf "least_turn" "least_turn" s_least_turn ["rules","position"]:=λ_ _ _ _ _ _ us hl=>by obtain⟨_,_,rfl⟩:=us_2 hl;rfl
theorem bd_are_alike:qqf "are_alike" "are_alike" s_are_alike ["rules","position","other"]:=λ_ _ _ _ _ _ us hl=>by obtain⟨_,_,_,rfl⟩:=us_3 hl;rfl
theorem bd_Hall:qqf "__init__" "Hall.__init__" s_Hall_init ["self"]:=λ_ _ _ _ _ _ us hl=>by obtain⟨_,rfl⟩:=us_1 hl;rfl
theorem bd_Feed:qqf "__init__" "Feed.__init__" s_Feed_init ["self","calls"]:=λ_ _ _ _ _ _ us hl=>by obtain⟨_,_,rfl⟩:=us_2 hl;rfl
theorem bd_Feed_has_more:qqf "has_more" "Feed.has_more" s_Feed_has_more ["self"]:=λ_ _ _ _ _ _ us hl=>by obtain⟨_,rfl⟩:=us_1 hl;rfl
theorem bd_Feed_take_number:qqf "take_number" "Feed.take_number" s_Feed_take_number ["self"]:=λ_ _ _ _ _ _ us hl=>by obtain⟨_,rfl⟩:=us_1 hl;rfl
theorem bd_Feed_take_numbers:qqf "take_numbers" "Feed.take_numbers" s_Feed_take_numbers ["self","many"]:=λ_ _ _ _ _ _ us hl=>by obtain⟨_,_,rfl⟩:=us_2 hl;rfl
theorem bd_Feed_take_rows:qqf "take_rows" "Feed.take_rows" s_Feed_take_rows ["self","many"]:=λ_ _ _ _ _ _ us hl=>by obtain⟨_,_,rfl⟩:=us_2 hl;rfl
theorem bd_with_length:qqf "with_length" "with_length" s_with_length ["row"]:=λ_ _ _ _ _ _ us hl=>by obtain⟨_,rfl⟩:=us_1 hl;rfl
theorem bd_answer_rules:qqf "answer_rules" "answer_rules" s_answer_rules ["hall","text"]:=λ_ _ _ _ _ _ us hl=>by obtain⟨_,_,rfl⟩:=us_2 hl;rfl
theorem bd_answer_begin:qqf "answer_begin" "answer_begin" s_answer_begin ["rules"]:=λ_ _ _ _ _ _ us hl=>by obtain⟨_,rfl⟩:=us_1 hl;rfl
theorem bd_answer_read:qqf "answer_read" "answer_read" s_answer_read ["rules","text"]:=λ_ _ _ _ _ _ us hl=>by obtain⟨_,_,rfl⟩:=us_2 hl;rfl
theorem bd_is_rising:qqf "is_rising" "is_rising" s_is_rising ["cells"]:=λ_ _ _ _ _ _ us hl=>by obtain⟨_,rfl⟩:=us_1 hl;rfl
theorem bd_answer_write:qqf "answer_write" "answer_write" s_answer_write ["rules","position"]:=λ_ _ _ _ _ _ us hl=>by obtain⟨_,_,rfl⟩:=us_2 hl;rfl
theorem bd_answer_turn:qqf "answer_turn" "answer_turn" s_answer_turn ["rules","text","turn"]:=λ_ _ _ _ _ _ us hl=>by obtain⟨_,_,_,rfl⟩:=us_3 hl;rfl
theorem bd_answer_least:qqf "answer_least" "answer_least" s_answer_least ["rules","text"]:=λ_ _ _ _ _ _ us hl=>by obtain⟨_,_,rfl⟩:=us_2 hl;rfl
theorem bd_answer_alike:qqf "answer_alike" "answer_alike" s_answer_alike ["rules","text","other_text"]:=λ_ _ _ _ _ _ us hl=>by obtain⟨_,_,_,rfl⟩:=us_3 hl;rfl
theorem bd_answer_by_rules:qqf "answer_by_rules" "answer_by_rules" s_answer_by_rules ["rules","call","numbers","rows"]:=λ_ _ _ _ _ _ us hl=>by obtain⟨_,_,_,_,rfl⟩:=us_4 hl;rfl
theorem bd_answer_call:qqf "answer_call" "answer_call" s_answer_call ["hall","call","numbers","rows"]:=λ_ _ _ _ _ _ us hl=>by obtain⟨_,_,_,_,rfl⟩:=us_4 hl;rfl
theorem bd_answers:qqf "answers" "answers" s_answers ["calls"]:=λ_ _ _ _ _ _ us hl=>by obtain⟨_,rfl⟩:=us_1 hl;rfl
end L2
end
section
namespace L2
open PySem PySem.Spec PyProof.Rows Tx
theorem for_gen {J:It}{n:Nat}{g:TG}{tb:TS}{D:Ends}{σ:St}{H:Hp}(Pv:Nat->St->Hp->Prop) (h0:Pv 0 σ H) (go:∀i σ H,i<n->Pv i σ H->J.go i H) (stop:∀σ H,Pv n σ H->J.stop n H)
  (hs:∀i σ H x H',i<n->Pv i σ H->J.yld i H x H'->g x σ H' λσ2 H2=>tb { D with nx:=Pv (i+1),ct:=Pv (i+1),bk:=D.nx } σ2 H2) (hd:∀σ H,Pv n σ H->D.nx σ H) :
  ∃W:Nat->Nat->St->Hp->Prop,(∃m,W 0 m σ H)/\∀i m σ H,W i m σ H->(J.stop i H/\D.nx σ H) \/
   (J.go i H/\∃N:St->Hp->Prop,(∀σ' H',N σ' H'->∃m',m'<m/\W (i+1) m' σ' H')/\∀x H',J.yld i H x H'->g x σ H' λσ2 H2=>tb { D with nx:=N,ct:=N,bk:=D.nx } σ2 H2):=by
 refine⟨λi m σ H=>i<=n/\m=n - i/\Pv i σ H,⟨n,Nat.zero_le _,rfl,h0⟩,λi m σ H ⟨hi,hm,p⟩=>?_⟩
 by_cases e:i=n
 ·subst e;exact .inl ⟨stop σ H p,hd σ H p⟩
 ·have lt:i<n:=by omega
  exact .inr ⟨go i σ H lt p,Pv (i+1),λσ' H' q=>⟨n - (i+1),by omega,by omega,rfl,q⟩,λx H' y=>hs i σ H x H' lt p y⟩
theorem for_str {x:Str}{g:TG}{tb:TS}{D:Ends}{σ:St}{H:Hp}(Pv:Nat->St->Hp->Prop) (h0:Pv 0 σ H)
  (hs:∀i c σ H,x.cps[i]?=some c->Pv i σ H->g (.str ⟨#[c]⟩) σ H λσ2 H2=>tb { D with nx:=Pv (i+1),ct:=Pv (i+1),bk:=D.nx } σ2 H2) (hd:∀σ H,Pv x.cps.size σ H->D.nx σ H) :
  ∃W:Nat->Nat->St->Hp->Prop,(∃m,W 0 m σ H)/\∀i m σ H,W i m σ H->((Its x).stop i H/\D.nx σ H) \/
   ((Its x).go i H/\∃N:St->Hp->Prop,(∀σ' H',N σ' H'->∃m',m'<m/\W (i+1) m' σ' H')/\∀v H',(Its x).yld i H v H'->g v σ H' λσ2 H2=>tb { D with nx:=N,ct:=N,bk:=D.nx } σ2 H2) :=
 for_gen (J:=Its x) (n:=x.cps.size) Pv h0 (λ_ _ _ h _=>h) (λ_ _ _=>Nat.le_refl _) (λi σ H v H' _ p ⟨e1,c,hc,e2⟩=>by subst e1 e2;exact hs i c σ H' hc p) hd
theorem lc_gen {J:It}{n:Nat}{g:TG}{tt:TT}{te:TE}{vs:List Nat}{σ:St}{H1:Hp}{D:Addr}{Qd:Hp->Prop}(Pv:Nat->Hp->Prop) (h0:Pv 0 (upd H1 D (.lst []))) (go:∀i H,i<n->Pv i H->J.go i H) (stop:∀H,Pv n H->J.stop n H)
  (hs:∀i H x H',i<n->Pv i H->J.yld i H x H'->g x (wipe σ vs) H' λσ2 H2=>wipe σ2 vs=wipe σ vs/\tt σ2 H2 λb H3=>if b=true then te σ2 H3 λy H4=>∃acc,H4 D=some (.lst acc)/\acc.length<sizeLine/\Pv (i+1) (upd H4 D (.lst (acc++[y]))) else Pv (i+1) H3) (hd:∀H,Pv n H->Qd H) :
  ∃W:Nat->Nat->Hp->Prop,(∃m,W 0 m (upd H1 D (.lst [])))/\∀i m H,W i m H->(J.stop i H/\Qd H)\/(J.go i H/\∃Nx:Hp->Prop,(∀H',Nx H'->∃m',m'<m/\W (i+1) m' H')/\∀x H',J.yld i H x H'->g x (wipe σ vs) H' λσ2 H2=>wipe σ2 vs=wipe σ vs/\tt σ2 H2 λb H3 =>
    if b=true then te σ2 H3 λy H4=>∃acc,H4 D=some (.lst acc)/\acc.length<sizeLine/\Nx (upd H4 D (.lst (acc++[y]))) else Nx H3):=by
 refine⟨λi m H=>i<=n/\m=n - i/\Pv i H,⟨n,Nat.zero_le _,rfl,h0⟩,λi m H ⟨hi,hm,p⟩=>?_⟩
 by_cases e:i=n
 ·subst e;exact .inl ⟨stop H p,hd H p⟩
 ·have lt:i<n:=by omega
  exact .inr ⟨go i H lt p,Pv (i+1),λH' q=>⟨n - (i+1),by omega,by omega,rfl,q⟩,λx H' y=>hs i H x H' lt p y⟩
theorem eOrd {X:Cx}{x:Str}{n:Nat}{p pos q:Pos}{j:Nat}(ho:X.mg "ord"=none) (h1:x.length=1) (h2:x.cps.getD 0 0=n) (hg:Gl X "ord":=by rfl):PE X (.Call (.Name "ord" p) [.Constant (.str x) j q] [] pos) (tC (.int n)):=by
 intro pins s σ H Q I h
 refine (pe_callB call_ord hg ho bootS_ord (pac pe_str pan)) pins s σ H Q I ?_
 exact⟨x,rfl,h1,by rw[h2];exact h⟩
def tF (C:Addr) (f:Str) (ta:TE):TE:=λσ H Q=>ta σ H λx H1=>∃a dx fs v,x=.ref a/\H1 a=some (.ins C dx fs)/\fs.lookup f=some v/\Q v H1
def sF (C:Addr) (f:Str) (ta tv:TE):TS:=λD σ H=>tv σ H λy H1=>ta σ H1 λx H2=>∃a dx fs,x=.ref a/\H2 a=some (.ins C dx fs)/\fs.length<1000/\D.nx σ (upd H2 a (.ins C dx (putF f y fs)))
section
variable {X:Cx}{e o value:Expr}{ta tv:TE}{f:Str}{pos pos':Pos}{C:Addr}
theorem eF (c:Cls X.K C) (n:NoAttr X.K C f) (he:PE X e ta) (hb:attributeBase e f X.env (eval e X.env)=eval e X.env:=by rfl):PE X (.Attribute e f pos) (tF C f ta):=by
 intro pins s σ H Q I h
 refine attr_of hb (thn (he pins s σ H _ I h) λu s1 ⟨x,H1,I1,rx,a,dx,fs,v,ex,ea,l,q⟩=>?_)
 subst ex
 obtain rfl:u=Value.ref a:=rx
 exact getattr_ok I1 ea c n l λu s2 I2 ru=>⟨v,H1,I2,ru,q⟩
theorem eS (c:Cls X.K C) (n:NoAttr X.K C f) (ha:PE X o ta) (hv:PE X value tv) (hs:swapsWith value (some (.Attribute o f pos')) pos.line X.env=pure false:=by rfl):PS X (.Assign [.Attribute o f pos'] value pos) (sF C f ta tv):=by
 intro pins s σ H D I h
 refine plainObj_wpAny_Assign_Attribute (thn (hv pins s σ H _ I h) λu s1 ⟨y,H1,I1,ry,q⟩=>thn (ha pins s1 σ H1 _ I1 q) λov s2 ⟨x,H2,I2,rx,a,dx,fs,ex,ea,l,q2⟩=>?_) hs
 subst ex
 obtain rfl:ov=Value.ref a:=rx
 exact setattr_ok I2 ea c n l ry λs3 I3=>⟨σ,_,I3,q2⟩
end
theorem cxOf_K {CX:CXT}{P:Program}{w:World}{K:PySem.W.Frag}{mg:Str->Option Value}{base:Heap}{N:List Str}{qual:Str}{scope:Scope}{f:Addr}{cd:Value}{A:Around}{outer:List Env}{s:Shared}{H:Hp}{E:XK} :
  (cxOf CX P w K mg base N qual scope f cd A outer s H E).K=K:=rfl
theorem scal_ii (i j:Int):scal (.int i) (.int j)=true:=rfl
theorem scal_bb (i j:Bool):scal (.bl i) (.bl j)=true:=rfl
end L2
end
section
namespace L2
open PySem PySem.Spec PyProof.Rows Tx
section
variable {X:Cx}
theorem call_rng:CallR X (.type "range") (λxs H Q=>∃n:Int,xs=[.int n]/\∀r,H r=none->Q (.ref r) (upd H r (.rng 0 n))):=by
 intro pins s σ H xs us Q I r h
 obtain⟨n,rfl,q⟩:=h
 obtain⟨u,rfl,t,rfl⟩:=vals1 r
 refine call_range_1 ⟨.ref _,upd H s.heap.objs.size (.rng 0 n),I.laid (λb o e=>Heap.get?_push_of_some _ e) (Nat.le_refl _) ⟨_,_,_,Heap.get?_push_size _ rfl⟩,rfl,q _ (I.hok.fresh (Nat.le_refl _))⟩
def ints0 (n:Nat):List Int:=(List.range n).map λ(i:Nat)=>(i:Int)
theorem items_vals {acc:Array Value}{n:Nat}(h:ItemsOf (λi v=>∃t,v=.int (0+(i:Nat)*1) t) acc n):Vals ((ints0 n).map V.int) acc.toList:=by
 obtain⟨h1,h2⟩:=h
 refine vals_of_ints ?_
 have aux:∀(l:List Value) (k:Nat),(∀(j:Nat) (v:Value),l[j]?=some v->∃t,v=Value.int ((k+j:Nat):Int) t)->IntsAre l ((List.range' k l.length).map λ(i:Nat)=>(i:Int)):=by
  intro l
  induction l with
  | nil=>intro k _;exact .nil
  | cons v r ih =>
   intro k h
   obtain⟨t,e⟩:=h 0 v rfl
   subst e
   show IntsAre (Value.int ((k+0:Nat):Int) t::r) ((k:Int)::(List.range' (k+1) r.length).map λ(i:Nat)=>(i:Int))
   exact .cons _ _ (ih (k+1) λj v hj=>by
    obtain⟨t,e⟩:=h (j+1) v hj
    exact⟨t,by rw[e];congr 1;omega⟩)
 have z:=aux acc.toList 0 λj v hj=>by
  obtain⟨t,e⟩:=h2 j v (by rw[<-Array.getElem?_toList];exact hj)
  exact⟨t,by rw[e];congr 1;omega⟩
 rw[Array.length_toList,h1]at z
 unfold ints0
 rw[List.range_eq_range']
 exact z
theorem call_list_rng (hc:X.calm=true):CallR X (.type "list") (λxs H Q=>∃r n,xs=[.ref r]/\H r=some (.rng 0 (n:Nat))/\n<=1000/\∀l,H l=none->Q (.ref l) (upd H l (.lst ((ints0 n).map V.int)))):=by
 intro pins s σ H xs us Q I rv h
 obtain⟨r,n,rfl,hr,hn,q⟩:=h
 obtain⟨u,rfl,ru⟩:=vals1 rv
 obtain rfl:u=Value.ref r:=ru
 obtain⟨t,u,v,e⟩:=I.hok r _ hr
 have sm:Builtin.Range.small 0 (n:Int) 1=true:=by
  exact small_one (by decide) (by decide) (by omega) (by omega)
 have sz:Builtin.Range.rangeSize 0 (n:Int) 1=n:=by
  rw[rangeSize_one];split <;> omega
 refine call_list_range (I.ok.hd hc) e sm sz (by omega) λh' tk acc c kp hl it=>?_
 have hz:((ints0 n).map V.int).length<=sizeLine:=by
  unfold ints0;rw[List.length_map,List.length_map,List.length_range,sizeLine_eq];omega
 exact⟨.ref _,upd H s.heap.objs.size (.lst ((ints0 n).map V.int)),I.laid kp (Nat.le_refl _) ⟨hz,acc.toList,c,items_vals it,hl⟩,rfl,q _ (I.hok.fresh (Nat.le_refl _))⟩
theorem call_sortedA:CallR X (.builtin "sorted") (λvs H Q=>∃(a:Addr) (ns:List Int),vs=[V.ref a]/\SqL X.K H a (ns.map V.int) /\
  ∀(ns':List Int) (p:Addr),ns'.Perm ns->ns'.Pairwise (·<=·)->H p=none->Q (.ref p) (upd H p (.lst (ns'.map V.int)))):=by
 intro pins s σ H vs us Q I r h
 obtain⟨a,ns,rfl,hs,q⟩:=h
 obtain⟨its,rv,hl,hz⟩:=I.list hs
 rw[Vals.ref1 r]
 have hi:=rv.ints
 have hz2:ns.length<=sizeLine:=by rw[List.length_map]at hz;exact hz
 refine sorted_intsAny hl.isList hi (by rw[hi.length];exact hz2) λout ns' h1 h2 h3=>?_
 obtain⟨ep,he'⟩:=PyProof.Rows.sortedAll_at s.heap its out
 have hlen:(ns'.map V.int).length<=sizeLine:=by rw[List.length_map,h2.length_eq];exact hz2
 exact⟨.ref _,upd H (s.heap.objs.size+1) (.lst (ns'.map V.int)),I.laid (t':=s.toks) (λ_ _=>PyProof.Rows.sortedAll_old) (Nat.le_succ _) ⟨hlen,out.toList,ep,vals_of_ints h1,he'⟩,rfl,q ns' _ h2 h3 (I.hok.fresh (Nat.le_succ _))⟩
theorem eSortR {e:Expr}{te:TE}{p pos kpos bpos:Pos}{j:Nat}(hm:X.mg "sorted"=none) (he:PE X e te) (hg:Gl X "sorted":=by rfl) (hs:starEach [e] X.env=(false,eval e X.env)::starEach [] X.env:=by rfl) (hs2:backTo pos (starEach [e] X.env)=(false,eval e X.env)::backTo pos (starEach [] X.env):=by rfl) :
  PE X (.Call (.Name "sorted" p) [e] [⟨some "reverse",.Constant (.bool true) j bpos,kpos⟩] pos) (λσ H Q=>tCons te tNil σ H λvs H1=>∃(a:Addr) (ns:List Int),vs=[.ref a]/\SqL X.K H1 a (ns.map V.int) /\
   ∀(ns':List Int) (q:Addr),ns'.Perm ns->ns'.Pairwise (λx y=>y<=x)->H1 q=none->Q (.ref q) (upd H1 q (.lst (ns'.map V.int)))):=by
 intro pins s σ H Q I h
 refine wpAny_Call_Name_kw (ld_blt I hg hm boot_sorted ?_)
 refine PyProof.Rows.callWith_kw (kws:=[⟨some "reverse",.Constant (.bool true) j bpos,kpos⟩]) (thn ((pac he pan hs) pos pins s σ H _ I h) λus s1 ⟨vs,H1,I1,r,q⟩=>?_) hs2 (by rw[hs2];rfl) rfl rfl
 refine thn ((show PK X [⟨some "reverse",.Constant (.bool true) j bpos,kpos⟩] _ from pk_cons pe_bl pk_nil) pos pins s1 σ H1 (λws H2=>ws=[.bl true]/\H2=H1) I1 ⟨rfl,rfl⟩) λws s2 ⟨zs,H2,I2,rz,ez,eH⟩=>?_
 subst ez eH
 obtain⟨a,ns,rfl,hq,q⟩:=q
 obtain⟨its,rv,hl,hz⟩:=I2.list hq
 rw[Vals.ref1 r]
 obtain⟨u,rfl,ru⟩:=vals1 rz
 obtain rfl:u=Value.bool true:=ru
 have hi:=rv.ints
 have hz2:ns.length<=sizeLine:=by rw[List.length_map]at hz;exact hz
 refine sorted_ints_revAny hl.isList hi (by rw[hi.length];exact hz2) λout ns' h1 h2 h3=>?_
 obtain⟨ep,he'⟩:=PyProof.Rows.sortedAll_at s2.heap its out
 have hlen:(ns'.map V.int).length<=sizeLine:=by rw[List.length_map,h2.length_eq];exact hz2
 exact⟨.ref _,upd H2 (s2.heap.objs.size+1) (.lst (ns'.map V.int)),I2.laid (t':=s2.toks) (λ_ _=>PyProof.Rows.sortedAll_old) (Nat.le_succ _) ⟨hlen,out.toList,ep,vals_of_ints h1,he'⟩,rfl,q ns' _ h2 h3 (I2.hok.fresh (Nat.le_succ _))⟩
end
theorem ix_tupK {X:Cx}(K:PySem.W.Frag) (h:X.K=K:=by rfl):IxR X (rIxT K):=h▸ix_tup
theorem ix_listK {X:Cx}(K:PySem.W.Frag) (h:X.K=K:=by rfl):IxR X (rIxL K):=h▸ix_list
end L2
end
namespace L2
open PySem PySem.Spec PyProof.Rows Tx
local macro_rules | `(tactic| walk_at "rd") => `(tactic| ((try dsimp only [tSeq, tIfS, tOr, tAnd, tNot, tTest, tB, tOp, tUn, tVar, tC, tCB, tCons, tNil, rI0, rI, rU, rEq, rNe, tRet, tRetN, tNext, tDrop, tAsg, gName, gCons, gNil, gTup, start, cxOf_K, rIxL, rIxT, tNotV, tAndV, tOrV, tIf, tFld, sFld, tF, sF, tCallS, tMethS, tMake, tBM, tBM0, tDGet, tDIn, tDNotIn, tDGet2, tLst, tTup, tIsN, tSl, tPart, tNoPart, tDNewK, tLockE, tBreak, tCont, wipe, rIxS, List.map_cons, List.map_nil, List.nil_append, List.append_nil, List.cons_append, List.length_cons, List.length_nil, List.replicate_succ, List.replicate_zero, Nat.reduceAdd, Nat.reduceSub, List.getElem?_cons_zero, List.getElem?_cons_succ, List.set_cons_zero, List.set_cons_succ]); (try simp only [tSeq, tIfS, tOr, tAnd, tNot, tTest, tB, tOp, tUn, tVar, tC, tCB, tCons, tNil, rI0, rI, rU, rEq, rNe, tRet, tRetN, tNext, tDrop, tAsg, gName, gCons, gNil, gTup, start, cxOf_K, rIxL, rIxT, tNotV, tAndV, tOrV, tIf, tFld, sFld, tF, sF, HO.ins.injEq, tCallS, tMethS, tMake, tBM, tBM0, tDGet, tDIn, tDNotIn, tDGet2, tLst, tTup, tIsN, tSl, tPart, tNoPart, tDNewK, tLockE, scal_ii, scal_bb, tBreak, tCont, wipe, rIxS, List.map_cons, List.map_nil, List.nil_append, List.append_nil, List.cons_append, List.length_cons, List.length_nil, List.replicate_succ, List.replicate_zero, Nat.reduceAdd, Nat.reduceSub, List.getElem?_cons_zero, List.getElem?_cons_succ, List.set_cons_zero, List.set_cons_succ, Option.some.injEq, V.int.injEq, V.bl.injEq, V.ref.injEq, V.str.injEq, List.cons.injEq, and_true, true_and, exists_eq_left, exists_eq_left', exists_eq', exists_and_left, exists_and_right, and_assoc, decide_eq_true_eq, Bool.not_eq_true', decide_eq_false_iff_not, if_true, if_false, Bool.false_eq_true, reduceCtorEq, and_self])))
local macro_rules | `(tactic| walk_at "rs") => `(tactic| simp only [*, Option.some.injEq, HO.ins.injEq, HO.lst.injEq, and_assoc, exists_and_left, exists_eq_left', exists_eq_left, exists_eq', true_and, and_true, V.int.injEq, V.ref.injEq, V.bl.injEq, V.str.injEq, ups])
local macro_rules | `(tactic| walk_at "sc9") => `(tactic| exact ⟨rfl, rfl, rfl, by decide +kernel, rfl, by decide +kernel, by decide +kernel⟩)
variable {P:Program}{w:World}{K:PySem.W.Frag}{mg:Str->Option Value}{base:Heap}{t:Adr}
def Bar (ps:List Addr) (H H':Hp):Prop:=∀b o,H b=some o->b∉ps->H' b=some o
theorem Bar.refl (ps:List Addr) (H:Hp):Bar ps H H:=λ_ _ h _=>h
theorem Bar.trans {ps:List Addr}{H H1 H2:Hp}(a:Bar ps H H1) (b:Bar ps H1 H2):Bar ps H H2:=λc o h n=>b c o (a c o h n) n
theorem Bar.mono {ps qs:List Addr}{H H':Hp}(a:Bar ps H H') (h:∀b∈ps,b∈qs):Bar qs H H':=λc o q n=>a c o q λz=>n (h c z)
theorem Bar.more {ps:List Addr}{H H':Hp}(a:Bar [] H H'):Bar ps H H':=a.mono (by simp)
theorem Bar.one {p:Addr}{H:Hp}{o:HO}:Bar [p] H (upd H p o):=λb u h n=>by rw[qqa (by simpa using n)];exact h
theorem Bar.new {ps:List Addr}{p:Addr}{H:Hp}{o:HO}(hn:H p=none):Bar ps H (upd H p o):=λb u h n=>by rw[qqa (nen h hn)];exact h
theorem Bar.same {H H':Hp}(a:Bar [] H H'){b:Addr}{o:HO}(h:H b=some o):H' b=some o:=a b o h (by simp)
theorem Bar.free {ps:List Addr}{H H':Hp}(a:Bar ps H H'){l:Addr}(h:H' l=none) (n:l∉ps):H l=none:=by
 cases q:H l with
 | none=>rfl
 | some o=>rw[a l o q n]at h;cases h
def sp_cell_number:Sp:=λvs H Q _=>∃x y:Int,vs=[.int x,.int y]/\Q (.int (13*y+x)) H
theorem sc_cell_number:qqb ["x","y"] ["x","y"] (dSc s_cell_number):=by walk_at "sc9"
theorem ok_cell_number (T:Txt K mg t):FnOk P w K mg base (CX1 P w) 1 t.f_cell_number t.d_cell_number ["x","y"] sp_cell_number:=by
 refine T.cell_number.F.okX sc_cell_number (λvs H Q E h=>?_) (λcdv A outer s H vs Q E hr h=>?_)
 ·obtain⟨x,y,rfl,_⟩:=h;rfl
 obtain⟨x,y,rfl,k⟩:=h
 refine⟨_,pso (qqe (pe_op op_add (pe_op op_mul (eK T.k_ROW_STEP) (pv 1)) (pv 0))),?_⟩
 exact⟨_,rfl,_,_,rfl,rfl,.inl ⟨by decide,by decide⟩,_,rfl,_,_,rfl,rfl,k⟩
def digV (s:Int):Int:=if s<48\/57<s then -1 else s - 48
def sp_digit_value:Sp:=λvs H Q _=>∃s:Int,vs=[.int s]/\Q (.int (digV s)) H
theorem sc_digit_value:qqb ["sign"] ["sign"] (dSc s_digit_value):=by walk_at "sc9"
theorem ok_digit_value (T:Txt K mg t):FnOk P w K mg base (CX1 P w) 1 t.f_digit_value t.d_digit_value ["sign"] sp_digit_value:=by
 refine T.digit_value.F.okX sc_digit_value (λvs H Q E h=>?_) (λcdv A outer s H vs Q E hr h=>?_)
 ·obtain⟨x,rfl,_⟩:=h;rfl
 obtain⟨x,rfl,k⟩:=h
 refine⟨_,psc (ps_if (PW.pt (pw_or (qqh op_lt (pv 0) (eOrd (n:=48) T.o_ord rfl rfl) (qqg _)) (pw_or1 (qqh op_gt (pv 0) (eOrd (n:=57) T.o_ord rfl rfl) (qqg _)))))
  (pso (qqe (pe_un un_neg pei))) qqi) (pso (qqe (pe_op op_sub (pv 0) (eOrd (n:=48) T.o_ord rfl rfl)))),?_⟩
 walk_at "rd"
 unfold digV at k
 refine ite2 (λc=>?_) λc=>ite2 (λc2=>?_) λc2=>?_
 ·rw[if_pos (.inl c)]at k;exact k
 ·rw[if_pos (.inr c2)]at k;exact k
 ·rw[if_neg (by omega)]at k;exact k
def sp_begins_number:Sp:=λvs H Q _=>∃v lo hi:Nat,vs=[.int v,.int lo,.int hi]/\0<v/\hi<1000000/\Q (.bl (Tafl.begins lo hi v)) H
theorem sc_begins_number:qqb ["value","least","most","low","high"] ["value","least","most"] (dSc s_begins_number):=by walk_at "sc9"
theorem ok_begins_number (T:Txt K mg t):FnOk P w K mg base (CX1 P w) 1 t.f_begins_number t.d_begins_number ["value","least","most"] sp_begins_number:=by
 refine T.begins_number.F.okX sc_begins_number (λvs H Q E h=>?_) (λcdv A outer s H vs Q E hr h=>?_)
 ·obtain⟨x,y,z,rfl,_⟩:=h;rfl
 obtain⟨v,lo,hi,rfl,h0,h6,k⟩:=h
 refine⟨_,psc (qqd (i:=3) sc_begins_number.nd rfl (Or.inl rfl) (pv 0)) (psc (qqd (i:=4) sc_begins_number.nd rfl (Or.inl rfl) (pv 0))
  (psc (ps_while owns_fn (qqh op_le (pv 3) (pv 2) (qqg _)) (psc (ps_if (qqh op_ge (pv 4) (pv 1) (qqg _)) (pso (qqe pe_bl)) qqi)
   (psc (qqd (i:=3) sc_begins_number.nd rfl (Or.inl rfl) (pe_op op_mul (pv 3) pei)) (pso (qqd (i:=4) sc_begins_number.nd rfl (Or.inl rfl) (pe_op op_add (pe_op op_mul (pv 4) pei) pei))))))
  (pso (qqe pe_bl)))),?_⟩
 walk_at "rd"
 refine⟨λm σ H'=>H'=H/\∃j:Nat,σ=[some (.int v),some (.int lo),some (.int hi),some (.int ((v*10 ^ j:Nat):Int)),some (.int ((v*10 ^ j+(10 ^ j - 1):Nat):Int))]/\m=hi+1 - v*10 ^ j/\∀i,i<j->v*10 ^ i<=hi->¬lo<=v*10 ^ i+(10 ^ i - 1),
  ⟨_,rfl,0,by simp,rfl,λi hi=>absurd hi (Nat.not_lt_zero _)⟩,?_⟩
 rintro m σ H' ⟨rfl,j,rfl,hm,hj⟩
 walk_at "rd"
 have p10:1<=10 ^ j:=Nat.pow_pos (by decide)
 have vj:1<=v*10 ^ j:=Nat.mul_pos h0 p10
 refine ite2 (λc=>⟨_,λ_ _ z=>z,ite2 (λc2=>?_) λc2=>?_⟩) λc=>?_
 ·have:=Tm.begins_true (k:=j) h0 h6 (by omega) (lo:=lo) (by omega)
  rw[this]at k;exact k
 ·have e1:v*10 ^ (j+1)=v*10 ^ j*10:=by rw[Nat.pow_succ,Nat.mul_assoc]
  have e2:10 ^ (j+1)=10 ^ j*10:=Nat.pow_succ ..
  refine⟨.inr ⟨by decide,by decide⟩,.inr ⟨by decide,by decide⟩,hi+1 - v*10 ^ (j+1),by omega,rfl,j+1,?_,rfl,λi hij=>?_⟩
  ·have f1:((v*10 ^ j:Nat):Int)*10=((v*10 ^ (j+1):Nat):Int):=by rw[e1];omega
   have f2:((v*10 ^ j+(10 ^ j - 1):Nat):Int)*10+9=((v*10 ^ (j+1)+(10 ^ (j+1) - 1):Nat):Int):=by rw[e1,e2];omega
   rw[f1,f2]
  ·by_cases e:i=j
   ·subst e;intro _ q;omega
   ·exact hj i (by omega)
 ·have:=Tm.begins_false (k:=j) (lo:=lo) hj (by omega:hi<v*10 ^ j)
  rw[this]at k;exact k
def scF (tx:Addr) (n:Nat):List (Str×V):=[("text",.ref tx),("place",.int n)]
def ScanAt (t:Adr) (H:Hp) (p tx:Addr) (n:Nat):Prop:=∃dx,H p=some (.ins t.C_Scan dx (scF tx n))
def TextAt (H:Hp) (tx:Addr) (b:Tafl.Bytes):Prop:=H tx=some (.lst ((Tm.ofBytes b).map V.int))
def cur (b:Tafl.Bytes) (n:Nat):Tafl.Cur:=⟨b.drop n,n⟩
theorem cur_next (b:Tafl.Bytes) (n:Nat):(cur b n).next=b[n]?:=by unfold cur Tafl.Cur.next;rw[List.head?_drop]
theorem cur_on (b:Tafl.Bytes) (n:Nat):(cur b n).on=cur b (n+1):=by unfold cur Tafl.Cur.on;rw[List.drop_drop]
theorem cur_at (b:Tafl.Bytes) (n:Nat):(cur b n).at_=n:=rfl
def ahd (b:Tafl.Bytes) (n:Nat):Int:=match b[n]? with
 | some x=>(x.toNat:Int)
 | none=>-1
theorem scF_text (tx:Addr) (n:Nat):(scF tx n).lookup ("text":Str)=some (.ref tx):=rfl
theorem scF_place (tx:Addr) (n:Nat):(scF tx n).lookup ("place":Str)=some (.int n):=rfl
theorem scF_len (tx:Addr) (n:Nat):(scF tx n).length<1000:=by show 2<1000;decide
theorem text_item {b:Tafl.Bytes}{n:Nat}{x:UInt8}(h:b[n]?=some x):((Tm.ofBytes b).map V.int)[n]?=some (.int x.toNat):=by
 unfold Tm.ofBytes;rw[List.getElem?_map,List.getElem?_map,h];rfl
theorem text_len (b:Tafl.Bytes):((Tm.ofBytes b).map V.int).length=b.length:=by rw[List.length_map,Tm.ofBytes_length]
def sp_Scan_init (t:Adr):Sp:=λvs H Q _=>∃p dx tx,vs=[.ref p,.ref tx]/\H p=some (.ins t.C_Scan dx [])/\Q .non (upd H p (.ins t.C_Scan dx (scF tx 0)))
theorem sc_Scan_init:qqb ["self","text"] ["self","text"] (dSc s_Scan_init):=by walk_at "sc9"
theorem ok_Scan_init (T:Txt K mg t):FnOk P w K mg base (CX1 P w) 1 t.f_Scan_init t.d_Scan_init ["self","text"] (sp_Scan_init t):=by
 refine T.Scan.F.okX sc_Scan_init (λvs H Q E h=>?_) (λcdv A outer s H vs Q E hr h=>?_)
 ·obtain⟨p,dx,tx,rfl,_⟩:=h;rfl
 obtain⟨p,dx,tx,rfl,hp,k⟩:=h
 refine⟨_,psc (eS T.Scan.c T.n_Scan_text (pv 0) (pv 1)) (pso (eS T.Scan.c T.n_Scan_place (pv 0) pei)),?_⟩
 refine⟨_,rfl,_,rfl,p,dx,_,rfl,hp,(by show 0<1000;decide),_,rfl,p,dx,_,rfl,ups,(by show 1<1000;decide),?_⟩
 rw[upd_upd]
 exact k
def sp_Scan_ahead (t:Adr):Sp:=λvs H Q _=>∃p tx b n,vs=[.ref p]/\ScanAt t H p tx n/\TextAt H tx b/\Q (.int (ahd b n)) H
theorem sc_Scan_ahead:qqb ["self"] ["self"] (dSc s_Scan_ahead):=by walk_at "sc9"
theorem ok_Scan_ahead (T:Txt K mg t):FnOk P w K mg base (CX1 P w) 1 t.f_Scan_ahead t.d_Scan_ahead ["self"] (sp_Scan_ahead t):=by
 refine T.Scan_ahead.F.okX sc_Scan_ahead (λvs H Q E h=>?_) (λcdv A outer s H vs Q E hr h=>?_)
 ·obtain⟨p,tx,b,n,rfl,_⟩:=h;rfl
 obtain⟨p,tx,b,n,rfl,⟨dx,hp⟩,ht,k⟩:=h
 refine⟨_,psc (ps_if (qqh op_lt (eF T.Scan.c T.n_Scan_place (pv 0)) (pe_callB call_len_seq (by rfl) T.o_len PySem.boot_len (pac (eF T.Scan.c T.n_Scan_text (pv 0)) pan)) (qqg _)) (pso (qqe (pe_ix ix_list (eF T.Scan.c T.n_Scan_text (pv 0)) (eF T.Scan.c T.n_Scan_place (pv 0)) (λ_ _=>rfl)))) qqi) (pso (qqe (eK T.k_END))),?_⟩
 walk_at "rd"
 simp only[hp,Option.some.injEq,HO.ins.injEq,and_assoc,exists_and_left,exists_eq_left',scF_text,scF_place,V.int.injEq,V.ref.injEq,true_and]
 refine⟨_,.inl (SqL.of ht),?_⟩
 rw[text_len]
 cases e:b[n]? with
 | none =>
  rw[if_neg (by have:=List.getElem?_eq_none_iff.mp e;omega)]
  unfold ahd at k;rw[e]at k;exact k
 | some x =>
  have lt:=(List.getElem?_eq_some_iff.mp e).1
  rw[if_pos (by omega)]
  refine⟨_,SqL.of ht,_,atI_nat (text_item e),?_⟩
  unfold ahd at k;rw[e]at k;exact k
def sp_Scan_go_on (t:Adr):Sp:=λvs H Q _=>∃p dx tx n,vs=[.ref p]/\H p=some (.ins t.C_Scan dx (scF tx n))/\Q .non (upd H p (.ins t.C_Scan dx (scF tx (n+1))))
theorem sc_Scan_go_on:qqb ["self"] ["self"] (dSc s_Scan_go_on):=by walk_at "sc9"
theorem ok_Scan_go_on (T:Txt K mg t):FnOk P w K mg base (CX1 P w) 1 t.f_Scan_go_on t.d_Scan_go_on ["self"] (sp_Scan_go_on t):=by
 refine T.Scan_go_on.F.okX sc_Scan_go_on (λvs H Q E h=>?_) (λcdv A outer s H vs Q E hr h=>?_)
 ·obtain⟨p,dx,tx,n,rfl,_⟩:=h;rfl
 obtain⟨p,dx,tx,n,rfl,hp,k⟩:=h
 refine⟨_,pso (eS T.Scan.c T.n_Scan_place (pv 0) (pe_op op_add (eF T.Scan.c T.n_Scan_place (pv 0)) pei)),?_⟩
 exact⟨_,rfl,p,dx,_,_,rfl,hp,scF_place tx n,_,_,rfl,rfl,_,rfl,p,dx,_,rfl,hp,scF_len tx n,k⟩
def Parsed (t:Adr) (p tx:Addr) (b:Tafl.Bytes) (H:Hp){α:Type}(r:Except Nat (α×Tafl.Cur)) (Kk:α->Hp->Prop) (E:XK):Prop :=
 (∀v n' H',r=.ok (v,cur b n')->ScanAt t H' p tx n'->Bar [p] H H'->Kk v H')/\∀n' H',r=.error n'->ScanAt t H' p tx n'->Bar [p] H H'->E (.ref t.C_Stuck) none H'
def litU (ws:Tafl.Bytes) (c:Tafl.Cur):Except Nat (Unit×Tafl.Cur):=(Tafl.lit ws c).map λc=>((),c)
theorem scan_ne_text {t:Adr}{H:Hp}{p tx:Addr}{n:Nat}{b:Tafl.Bytes}(s:ScanAt t H p tx n) (h:TextAt H tx b):tx≠p:=by
 obtain⟨dx,s⟩:=s
 exact ne_of h s (by intro z;cases z)
theorem TextAt.bar {t:Adr}{H H':Hp}{p tx:Addr}{n:Nat}{b:Tafl.Bytes}(h:TextAt H tx b) (s:ScanAt t H p tx n) (a:Bar [p] H H'):TextAt H' tx b:=a _ _ h (by simpa using scan_ne_text s h)
def sp_Scan_take (t:Adr):Sp:=λvs H Q E=>∃(p tx:Addr) (b:Tafl.Bytes) (n:Nat) (wd:Str) (ws:Tafl.Bytes),vs=[.ref p,.str wd]/\wd.cps.toList=ws.map UInt8.toNat/\ScanAt t H p tx n/\TextAt H tx b/\Parsed t p tx b H (litU ws (cur b n)) (λ_ H'=>Q .non H') E
theorem sc_Scan_take:qqb ["self","word","letter"] ["self","word"] (dSc s_Scan_take):=by walk_at "sc9"
theorem ahd_eq {b:Tafl.Bytes}{n:Nat}{x:UInt8}:ahd b n=(x.toNat:Int)↔b[n]?=some x:=by
 unfold ahd
 cases b[n]? with
 | none=>simp
 | some y =>
  simp only[Option.some.injEq]
  constructor
  ·intro h;exact UInt8.toNat_inj.mp (by omega)
  ·intro h;rw[h]
def ivTake (t:Adr) (p tx:Addr) (b:Tafl.Bytes) (n:Nat) (wd:Str) (ws:Tafl.Bytes) (H:Hp) (i:Nat) (σ:St) (H':Hp):Prop :=
 (∃l,σ=[some (.ref p),some (.str wd),l])/\ScanAt t H' p tx (n+i)/\Bar [p] H H'/\litU ws (cur b n)=litU (ws.drop i) (cur b (n+i))
theorem ok_Scan_take (T:Txt K mg t):FnOk P w K mg base (CX1 P w) 2 t.f_Scan_take t.d_Scan_take ["self","word"] (sp_Scan_take t):=by
 refine T.Scan_take.F.okX sc_Scan_take (λvs H Q E h=>?_) (λcdv A outer s H vs Q E hr h=>?_)
 ·obtain⟨p,tx,b,n,wd,ws,rfl,_⟩:=h;rfl
 obtain⟨p,tx,b,n,wd,ws,rfl,hw,hs,ht,k1,k2⟩:=h
 refine⟨_,pso (ps_for owns_fn rfl (pi_str (pv 1)) (pg_name (i:=2) sc_Scan_take.nd rfl (Or.inl rfl)) (psc (ps_if (qqh op_ne (eM0 T.Scan.c T.Scan_ahead (ok_Scan_ahead T) hr (pv 0)) (pe_callB call_ord (by rfl) T.o_ord bootS_ord (pac (pv 2) pan)) (qqg _)) (pso (ps_raise0 rfl qqc T.Stuck.c T.Stuck.i T.Stuck.kp rfl T.Stuck.m)) qqi)
  (pso (qqj (eM0 T.Scan.c T.Scan_go_on (ok_Scan_go_on T) hr (pv 0)))))),?_⟩
 refine⟨_,rfl,wd,rfl,for_str (ivTake t p tx b n wd ws H) ?_ ?_ ?_⟩
 ·exact⟨⟨none,rfl⟩,hs,.refl _ _,rfl⟩
 ·rintro i c σ H' hc ⟨⟨l,rfl⟩,hs',hb,e⟩
  have ht':=ht.bar hs hb
  obtain⟨dx,hp⟩:=hs'
  have hi:ws[i]?.map UInt8.toNat=some c:=by rw[<-List.getElem?_map,<-hw,Array.getElem?_toList];exact hc
  obtain⟨x,hx,rfl⟩:=Option.map_eq_some_iff.mp hi
  have hd:ws.drop i=x::ws.drop (i+1):=by rw[List.drop_eq_getElem_cons (List.getElem?_eq_some_iff.mp hx).1,(List.getElem?_eq_some_iff.mp hx).2]
  walk_at "rd"
  refine⟨dx,_,hp,rfl,p,tx,b,n+i,rfl,⟨dx,hp⟩,ht',rfl,rfl,?_⟩
  show if ¬V.int (ahd b (n+i))=V.int (x.toNat:Nat) then _ else _
  refine ite2 (λz=>?_) λz=>?_
  ·refine k2 (n+i) H' ?_ ⟨dx,hp⟩ hb
   rw[e,litU,hd,Tafl.lit,if_neg (λq=>z (by rw[ahd_eq.mpr (by rw[<-cur_next];exact q)]))]
   rfl
  ·have z':b[n+i]?=some x:=ahd_eq.mp (V.int.inj (Classical.not_not.mp z))
   refine⟨dx,_,hp,rfl,p,dx,tx,n+i,rfl,hp,⟨_,rfl⟩,⟨dx,ups⟩,hb.trans .one,?_⟩
   rw[e,litU,hd,Tafl.lit,if_pos (by rw[cur_next];exact z'),cur_on]
   rfl
 ·rintro σ H' ⟨_,hs',hb,e⟩
  have hl:wd.cps.size=ws.length:=by rw[<-Array.length_toList,hw,List.length_map]
  refine k1 () (n+wd.cps.size) H' ?_ hs' hb
  rw[e,List.drop_eq_nil_of_le (by omega)]
  rfl
def sp_Scan_take_end (t:Adr):Sp:=λvs H Q E=>∃(p tx:Addr) (b:Tafl.Bytes) (n:Nat),vs=[.ref p]/\ScanAt t H p tx n/\TextAt H tx b/\(b[n]?=none->Q .non H)/\(b[n]?≠none->E (.ref t.C_Stuck) none H)
theorem sc_Scan_take_end:qqb ["self"] ["self"] (dSc s_Scan_take_end):=by walk_at "sc9"
theorem ok_Scan_take_end (T:Txt K mg t):FnOk P w K mg base (CX1 P w) 2 t.f_Scan_take_end t.d_Scan_take_end ["self"] (sp_Scan_take_end t):=by
 refine T.Scan_take_end.F.okX sc_Scan_take_end (λvs H Q E h=>?_) (λcdv A outer s H vs Q E hr h=>?_)
 ·obtain⟨p,tx,b,n,rfl,_⟩:=h;rfl
 obtain⟨p,tx,b,n,rfl,⟨dx,hp⟩,ht,k1,k2⟩:=h
 refine⟨_,pso (ps_if (qqh op_ne (eM0 T.Scan.c T.Scan_ahead (ok_Scan_ahead T) hr (pv 0)) (eK T.k_END) (qqg _)) (pso (ps_raise0 rfl qqc T.Stuck.c T.Stuck.i T.Stuck.kp rfl T.Stuck.m)) qqi),?_⟩
 walk_at "rd"
 refine⟨dx,_,hp,rfl,p,tx,b,n,rfl,⟨dx,hp⟩,ht,rfl,?_⟩
 unfold ahd
 cases e:b[n]? with
 | none=>rw[if_neg (by simp)];exact k1 e
 | some x=>rw[if_pos (by intro z;have z1:(x.toNat:Int)=-1:=V.int.inj z;omega)];exact k2 (by rw[e];simp)
def sp_Scan_take_number (t:Adr):Sp:=λvs H Q E=>∃(p tx:Addr) (b:Tafl.Bytes) (n lo hi:Nat),vs=[.ref p,.int lo,.int hi]/\0<lo/\hi<100000/\ScanAt t H p tx n/\TextAt H tx b/\Parsed t p tx b H (Tafl.number lo hi (cur b n)) (λv H'=>Q (.int (v:Nat)) H') E
theorem sc_Scan_take_number:qqb ["self","least","most","value","longer"] ["self","least","most"] (dSc s_Scan_take_number):=by walk_at "sc9"
theorem dig_some {b:Tafl.Bytes}{n d:Nat}(h:Tm.digit? (cur b n)=some d):digV (ahd b n)=(d:Int):=by
 unfold Tm.digit? at h
 rw[cur_next]at h
 unfold ahd digV
 cases e:b[n]? with
 | none=>rw[e]at h;cases h
 | some x =>
  rw[e]at h
  simp only at h
  split at h
  ·rename_i q
   unfold Tafl.isDigit at q
   simp only[Bool.and_eq_true,decide_eq_true_eq]at q
   cases h
   simp only
   rw[if_neg (by omega)]
   omega
  ·cases h
theorem dig_none {b:Tafl.Bytes}{n:Nat}(h:Tm.digit? (cur b n)=none):digV (ahd b n)=-1:=by
 unfold Tm.digit? at h
 rw[cur_next]at h
 unfold ahd digV
 cases e:b[n]? with
 | none=>simp
 | some x =>
  rw[e]at h
  simp only at h
  split at h
  ·cases h
  ·rename_i q
   unfold Tafl.isDigit at q
   simp only[Bool.and_eq_true,decide_eq_true_eq]at q
   simp only
   rw[if_pos (by omega)]
def ivNum (t:Adr) (p tx:Addr) (b:Tafl.Bytes) (n lo hi:Nat) (H:Hp) (m:Nat) (σ:St) (H':Hp):Prop :=
 ∃(d c:Nat) (l:Option V),σ=[some (.ref p),some (.int lo),some (.int hi),some (.int (d:Nat)),l]/\ScanAt t H' p tx (n+c)/\Bar [p] H H'/\Tm.NumAt lo hi (cur b n) d (cur b (n+c)) c/\m=6 - c
theorem ok_Scan_take_number (T:Txt K mg t):FnOk P w K mg base (CX1 P w) 2 t.f_Scan_take_number t.d_Scan_take_number ["self","least","most"] (sp_Scan_take_number t):=by
 refine T.Scan_take_number.F.okX sc_Scan_take_number (λvs H Q E h=>?_) (λcdv A outer s H vs Q E hr h=>?_)
 ·obtain⟨p,tx,b,n,lo,hi,rfl,_⟩:=h;rfl
 obtain⟨p,tx,b,n,lo,hi,rfl,hlo,hhi,hs,ht,k1,k2⟩:=h
 have nd:=sc_Scan_take_number.nd
 refine⟨_,psc (qqd (i:=3) nd rfl (Or.inl rfl) pei)
  (psc (ps_while owns_fn (qqh op_ge (eC T.digit_value (ok_digit_value T) hr (pac (eM0 T.Scan.c T.Scan_ahead (ok_Scan_ahead T) hr (pv 0)) pan)) pei (qqg _))
   (psc (qqd (i:=4) nd rfl (Or.inl rfl) (pe_op op_add (pe_op op_mul (pv 3) pei) (eC T.digit_value (ok_digit_value T) hr (pac (eM0 T.Scan.c T.Scan_ahead (ok_Scan_ahead T) hr (pv 0)) pan))))
   (psc (ps_if (PW.pt (pw_or (qqh op_eq (pv 4) pei (qqg _)) (pw_or1 (pt_not (pt_val (eC T.begins_number (ok_begins_number T) hr (pac (pv 4) (pac (pv 1) (pac (pv 2) pan))))))))) (pso ps_break) qqi)
   (psc (qqd (i:=3) nd rfl (Or.inl rfl) (pv 4)) (pso (qqj (eM0 T.Scan.c T.Scan_go_on (ok_Scan_go_on T) hr (pv 0))))))))
  (psc (ps_if (PW.pt (pw_or (qqh op_lt (pv 3) (pv 1) (qqg _)) (pw_or1 (qqh op_gt (pv 3) (pv 2) (qqg _))))) (pso (ps_raise0 rfl qqc T.Stuck.c T.Stuck.i T.Stuck.kp rfl T.Stuck.m)) qqi)
  (pso (qqe (pv 3))))),?_⟩
 walk_at "rd"
 have fin:∀(d m:Nat) (l:Option V) (H':Hp),Tafl.number lo hi (cur b n)=(if lo<=d/\d<=hi then .ok (d,cur b m) else .error m)->ScanAt t H' p tx m->Bar [p] H H' ->
   (if (d:Int)<lo then E (.ref t.C_Stuck) none H' else if (hi:Int)<d then E (.ref t.C_Stuck) none H' else Q (.int (d:Nat)) H'):=λd m l H' e hs' hb=>by
  refine ite2 (λc=>k2 m H' (by rw[e,if_neg (by omega)]) hs' hb) λc=>ite2 (λc2=>k2 m H' (by rw[e,if_neg (by omega)]) hs' hb) λc2=>k1 d m H' (by rw[e,if_pos (by omega)]) hs' hb
 refine⟨ivNum t p tx b n lo hi H,⟨6,0,0,none,rfl,hs,.refl _ _,Tm.NumAt.start ..,rfl⟩,?_⟩
 rintro m σ H' ⟨d,c,l,rfl,hs',hb,N,hm⟩
 have ht':=ht.bar hs hb
 obtain⟨dx,hp⟩:=id hs'
 walk_at "rd"
 refine⟨dx,_,hp,rfl,p,tx,b,n+c,rfl,hs',ht',_,rfl,_,rfl,?_⟩
 have few:=N.few
 have small:=N.small
 cases hd:Tm.digit? (cur b (n+c)) with
 | none =>
  rw[dig_none hd,if_neg (by decide)]
  exact fin d (n+c) l H' (by rw[N.fin (by unfold Tm.goesOn;rw[hd]),cur_at]) hs' hb
 | some e =>
  rw[dig_some hd,if_pos (by omega)]
  refine⟨_,λ_ _ z=>z,.inr ⟨by decide,by decide⟩,dx,_,hp,rfl,p,tx,b,n+c,rfl,hs',ht',_,rfl,_,by rw[dig_some hd],?_⟩
  have ed:(d:Int)*10+e=((10*d+e:Nat):Int):=by omega
  rw[ed]
  refine ite2 (λz=>?_) λz=>?_
  ·exact fin d (n+c) l H' (by rw[N.fin (by unfold Tm.goesOn;rw[hd];simp only;rw[if_neg (by omega)]),cur_at]) hs' hb
  ·refine⟨10*d+e,lo,hi,rfl,by omega,by omega,_,rfl,?_⟩
   cases hg:Tafl.begins lo hi (10*d+e) with
   | false =>
    rw[if_pos rfl]
    exact fin d (n+c) l H' (by rw[N.fin (by unfold Tm.goesOn;rw[hd];simp only;rw[if_neg (by rw[hg];simp)]),cur_at]) hs' hb
   | true =>
    rw[if_neg (by decide)]
    have go:Tm.goesOn lo hi d (cur b (n+c))=some (10*d+e):=by unfold Tm.goesOn;rw[hd];simp only;rw[if_pos ⟨by omega,hg⟩]
    have N':=N.turn hhi go
    rw[cur_on]at N'
    refine⟨dx,_,hp,rfl,p,dx,tx,n+c,rfl,hp,6 - (c+1),by omega,10*d+e,c+1,_,rfl,⟨dx,ups⟩,hb.trans .one,N',rfl⟩
def nats (l:List Nat):List V:=l.map λ(i:Nat)=>V.int (i:Int)
theorem nats_ints0 (n:Nat):(ints0 n).map V.int=nats (List.range n):=by unfold ints0 nats;rw[List.map_map];rfl
def WordsAre (wl:List Str) (ws:List Tafl.Bytes):Prop:=Paired (λ(x:Str) (w:Tafl.Bytes)=>x.cps.toList=w.map UInt8.toNat/\w.length<16) wl ws
theorem WordsAre.at_ {wl:List Str}{ws:List Tafl.Bytes}(h:WordsAre wl ws){i:Nat}(hi:i<ws.length):∃x w,(wl.map V.str)[i]?=some (.str x)/\ws.getD i []=w/\x.cps.toList=w.map UInt8.toNat/\w.length<16:=by
 induction h generalizing i with
 | nil=>simp at hi
 | cons r t ih =>
  cases i with
  | zero=>exact⟨_,_,rfl,rfl,r.1,r.2⟩
  | succ j=>exact ih (by simpa using hi)
theorem WordsAre.len {wl:List Str}{ws:List Tafl.Bytes}(h:WordsAre wl ws):wl.length=ws.length:=Paired.length h
def sp_Scan_take_one_of (K:PySem.W.Frag) (t:Adr):Sp:=λvs H Q E=>∃(p tx a:Addr) (b:Tafl.Bytes) (n:Nat) (wl:List Str) (l:List String),vs=[.ref p,.ref a]/\(∀H,SqT K H a (wl.map V.str))/\WordsAre wl (l.map Tafl.ascii)/\l≠[]/\l.length<=10/\ScanAt t H p tx n/\TextAt H tx b /\
 Parsed t p tx b H (Tafl.word l (cur b n)) (λv H'=>Q (.int (v:Nat)) H') E
theorem sc_Scan_take_one_of:qqb ["self","words","left","depth","index","sign"] ["self","words"] (dSc s_Scan_take_one_of):=by walk_at "sc9"
structure IvW (t:Adr) (p tx a:Addr) (b:Tafl.Bytes) (n:Nat) (ws:List Tafl.Bytes) (l:List String) (H:Hp) (left:List Nat) (k:Nat) (ls:Addr) (H':Hp):Prop where
 lst:H' ls=some (.lst (nats left))
 scan:ScanAt t H' p tx (n+k)
 bar:Bar [p] H H'
 eq:Tafl.word l (cur b n)=Tafl.oneOf (16 - k) (Tm.wordsLeft ws left k) (cur b (n+k))
 mem:∀i∈left,i<ws.length/\k<=(ws.getD i []).length
 ne:left≠[]
 few:left.length<=10
def ivWord (t:Adr) (p tx a:Addr) (b:Tafl.Bytes) (n:Nat) (ws:List Tafl.Bytes) (l:List String) (H:Hp) (m:Nat) (σ:St) (H':Hp):Prop :=
 ∃left k ls ix sg,σ=[some (.ref p),some (.ref a),some (.ref ls),some (.int (k:Nat)),ix,sg]/\IvW t p tx a b n ws l H left k ls H'/\m=16 - k
def ivWFor (p a ls:Addr) (k:Nat) (sg:Option V) (ws:List Tafl.Bytes) (left:List Nat) (H':Hp) (j:Nat) (σ:St) (H2:Hp):Prop :=
 (∃ix,σ=[some (.ref p),some (.ref a),some (.ref ls),some (.int (k:Nat)),ix,sg])/\H2=H'/\∀i∈left.take j,(ws.getD i []).length≠k
theorem ScanAt.new {t:Adr}{H:Hp}{p tx q:Addr}{n:Nat}{o:HO}(h:ScanAt t H p tx n) (hn:H q=none):ScanAt t (upd H q o) p tx n:=by
 obtain⟨dx,hp⟩:=h
 exact⟨dx,by rw[qqa (nen hp hn)];exact hp⟩
theorem nats_at {l:List Nat}{j:Nat}{x:V}(h:(nats l)[j]?=some x):∃i,l[j]?=some i/\x=.int (i:Nat):=by
 unfold nats at h
 rw[List.getElem?_map]at h
 obtain⟨i,h1,h2⟩:=Option.map_eq_some_iff.mp h
 exact⟨i,h1,h2.symm⟩
theorem take_snoc' {α:Type}{l:List α}{i:Nat}{x:α}(h:l[i]?=some x):l.take (i+1)=l.take i++[x]:=by rw[List.take_succ,h];rfl
theorem find_first {α:Type}{f:α->Bool}:∀ {l:List α}{j:Nat}{x:α},l[j]?=some x->f x=true->(∀y∈l.take j,f y=false)->l.find? f=some x
 | [],j,x,h,_,_=>by simp at h
 | a::r,0,x,h,hx,_=>by
  have e:a=x:=Option.some.inj h
  subst e
  rw[List.find?_cons,hx]
 | a::r,j+1,x,h,hx,hn=>by
  have ha:=hn a (by simp)
  rw[List.find?_cons,ha]
  exact find_first (l:=r) (j:=j) h hx λy hy=>hn y (by simp[hy])
theorem find_none' {α:Type}{f:α->Bool}{l:List α}(h:∀y∈l,f y=false):l.find? f=none:=List.find?_eq_none.mpr λy hy=>by rw[h y hy];decide
def goesW (b:Tafl.Bytes) (n:Nat) (ws:List Tafl.Bytes) (k i:Nat):Bool:=match b[n]? with
 | some x=>decide ((ws.getD i [])[k]?=some x)
 | none=>false
def ivWLc (H2:Hp) (D:Addr) (b:Tafl.Bytes) (n:Nat) (ws:List Tafl.Bytes) (k:Nat) (left:List Nat) (j:Nat) (H3:Hp):Prop:=H3=upd H2 D (.lst (nats ((left.take j).filter (goesW b n ws k))))
theorem ok_Scan_take_one_of (T:Txt K mg t):FnOk P w K mg base (CX1 P w) 2 t.f_Scan_take_one_of t.d_Scan_take_one_of ["self","words"] (sp_Scan_take_one_of K t):=by
 refine T.Scan_take_one_of.F.okX sc_Scan_take_one_of (λvs H Q E h=>?_) (λcdv A outer s H vs Q E hr h=>?_)
 ·obtain⟨p,tx,a,b,n,wl,l,rfl,_⟩:=h;rfl
 obtain⟨p,tx,a,b,n,wl,l,rfl,ha,hw,hne,hten,hs,ht,k1,k2⟩:=h
 have nd:=sc_Scan_take_one_of.nd
 refine⟨_,psc (qqd (i:=2) nd rfl (Or.inl rfl) (pe_callTy (call_list_rng rfl) (by rfl) T.o_list boot_list (pac (pe_callTy call_rng (by rfl) T.o_range boot_range (pac (pe_callB call_len_seq (by rfl) T.o_len PySem.boot_len (pac (pv 1) pan)) pan)) pan)))
  (psc (qqd (i:=3) nd rfl (Or.inr rfl) pei)
  (pso (ps_while owns_fn (pt_val pe_bl)
   (psc (ps_for owns_fn rfl (pi_list (pv 2)) (pg_name (i:=4) nd rfl (Or.inl rfl)) (pso (ps_if (qqh op_eq (pe_callB call_len_str (by rfl) T.o_len PySem.boot_len (pac (pe_ix ix_tup (pv 1) (pv 4) (λ_ _=>rfl)) pan)) (pv 3) (qqg _)) (pso (qqe (pv 4))) qqi)))
   (psc (qqd (i:=5) nd rfl (Or.inr rfl) (eM0 T.Scan.c T.Scan_ahead (ok_Scan_ahead T) hr (pv 0)))
   (psc (ps_setLc (i:=2) (own:=[("index",4)]) rfl nd rfl rfl (sw_true rfl rfl rfl rfl) (pi_list (pv 2)) (blkOk_by rfl) (λs H C cl fp=>pg_name (i:=4) nd rfl (Or.inl rfl))
    (λs H C cl fp=>pts_one (qqh op_eq (pe_callB call_ord (by rfl) T.o_ord bootS_ord (pac (pe_ix ix_str (pe_ix (ix_tupK K) (pv 1) (pv 4) (λ_ _=>rfl)) (pv 3) (λ_ _=>rfl)) pan)) (pv 5) (qqg _))) (λs H C cl fp=>pv 4))
   (psc (ps_if (qqh op_eq (pe_callB call_len_seq (by rfl) T.o_len PySem.boot_len (pac (pv 2) pan)) pei (qqg _)) (pso (ps_raise0 rfl qqc T.Stuck.c T.Stuck.i T.Stuck.kp rfl T.Stuck.m)) qqi)
   (psc (qqj (eM0 T.Scan.c T.Scan_go_on (ok_Scan_go_on T) hr (pv 0))) (pso (qqd (i:=3) nd rfl (Or.inr rfl) (pe_op op_add (pv 3) pei))))))))))),?_⟩
 walk_at "rd"
 have hlen:(wl.map V.str).length=l.length:=by rw[List.length_map,hw.len,List.length_map]
 refine⟨_,.inr (ha H),λr hr0=>⟨_,ups,by rw[hlen];omega,λls hls=>⟨ivWord t p tx a b n (l.map Tafl.ascii) l H,⟨16,List.range l.length,0,ls,none,none,rfl,⟨?_,(hs.new hr0).new hls,(Bar.new hr0).trans (.new hls),Tm.word_start l _,λi hi=>?_,?_,?_⟩,rfl⟩,?_⟩⟩⟩
 ·rw[ups,hlen,nats_ints0]
 ·rw[List.length_map];exact⟨List.mem_range.mp hi,Nat.zero_le _⟩
 ·intro z;rw[List.range_eq_nil]at z;exact hne (List.length_eq_zero_iff.mp z)
 ·rw[List.length_range];exact hten
 rintro m σ H' ⟨left,k,ls,ix,sg,rfl,I,hm⟩
 have ht':=ht.bar hs I.bar
 obtain⟨dx,hp⟩:=id I.scan
 have k16:k<16:=by
  obtain⟨i,hi⟩:=List.exists_mem_of_ne_nil _ I.ne
  obtain⟨h1,h2⟩:=I.mem i hi
  obtain⟨x,w',_,e2,_,e4⟩:=hw.at_ h1
  rw[e2]at h2;omega
 have e16:16 - k=(15 - k)+1:=by omega
 walk_at "rd"
 refine⟨_,λ_ _ z=>z,_,rfl,ls,rfl,⟨_,SqL.of I.lst⟩,for_list (K:=K) (a:=ls) (xs:=nats left) (ivWFor p a ls k sg (l.map Tafl.ascii) left H') ?_ ?_ ?_ ?_⟩
 ·exact⟨⟨_,rfl⟩,rfl,λi hi=>by simp at hi⟩
 ·rintro j σ H2 _ ⟨_,rfl,_⟩;exact SqL.of I.lst
 ·rintro j x σ H2 hx ⟨⟨ix',rfl⟩,rfl,hn⟩
  obtain⟨i,hi,rfl⟩:=nats_at hx
  have mi:=List.mem_of_getElem? hi
  obtain⟨h1,h2⟩:=I.mem i mi
  obtain⟨x,w',e1,e2,e3,e4⟩:=hw.at_ h1
  have el:x.length=w'.length:=by show x.cps.size=_;rw[<-Array.length_toList,e3,List.length_map]
  walk_at "rd"
  refine⟨_,ha _,_,atI_nat e1,x,rfl,by rw[el,sizeLine_eq];omega,?_⟩
  rw[el]
  refine ite2 (λc=>?_) λc=>?_
  ·refine k1 i (n+k) H2 ?_ I.scan I.bar
   rw[I.eq,e16]
   refine Tm.oneOf_hit (find_first hi (by rw[e2];exact decide_eq_true (by omega)) λy hy=>decide_eq_false ?_)
   have:=(I.mem y (List.mem_of_mem_take hy)).2
   have:=hn y hy
   omega
  ·refine⟨⟨_,rfl⟩,rfl,λi' hi'=>?_⟩
   rw[take_snoc' hi]at hi'
   rcases List.mem_append.mp hi' with z | z
   ·exact hn i' z
   ·rw[List.mem_singleton.mp z,e2];intro q;exact c (by rw[q])
 ·rintro σ H2 ⟨⟨ix',rfl⟩,rfl,hn⟩
  have hn':∀i∈left,((l.map Tafl.ascii).getD i []).length≠k:=λi hi=>hn i (by rw[List.take_of_length_le (by unfold nats;rw[List.length_map];exact Nat.le_refl _)];exact hi)
  walk_at "rd"
  refine⟨dx,_,hp,rfl,p,tx,b,n+k,rfl,I.scan,ht',?_⟩
  refine⟨_,rfl,ls,rfl,⟨_,SqL.of I.lst⟩,λD hD=>lc_list (K:=K) (a:=ls) (xs:=nats left) (ivWLc H2 D b (n+k) (l.map Tafl.ascii) k left) rfl ?_ ?_ ?_⟩
  ·rintro j H3 _ rfl
   exact SqL.of (by rw[qqa (nen I.lst hD)];exact I.lst)
  ·rintro j x H3 hx rfl
   obtain⟨i,hi,rfl⟩:=nats_at hx
   have mi:=List.mem_of_getElem? hi
   obtain⟨h1,h2⟩:=I.mem i mi
   have h3:=hn' i mi
   obtain⟨x,w',e1,e2,e3,e4⟩:=hw.at_ h1
   rw[e2]at h2 h3
   have el:x.length=w'.length:=by show x.cps.size=_;rw[<-Array.length_toList,e3,List.length_map]
   obtain⟨c,hc⟩:∃c,w'[k]?=some c:=⟨_,List.getElem?_eq_getElem (by omega)⟩
   have hx:x.cps.toList[k]?=some c.toNat:=by rw[e3,List.getElem?_map,hc];rfl
   walk_at "rd"
   refine⟨_,ha _,_,atI_nat e1,x,rfl,by rw[el,sizeLine_eq];omega,_,atI_nat hx,rfl,?_⟩
   have tk:left.take (j+1)=left.take j++[i]:=take_snoc' hi
   have few:((left.take j).filter (goesW b (n+k) (l.map Tafl.ascii) k)).length<=10:=Nat.le_trans (List.length_filter_le _ _) (Nat.le_trans (by rw[List.length_take];exact Nat.min_le_right _ _) I.few)
   show if (c.toNat:Int)=ahd b (n+k) then _ else _
   have gw:goesW b (n+k) (l.map Tafl.ascii) k i=decide ((c.toNat:Int)=ahd b (n+k)):=by
    unfold goesW ahd
    cases e:b[n+k]? with
    | none=>simp only;exact (decide_eq_false (by omega)).symm
    | some y =>
     simp only
     rw[e2,hc]
     by_cases q:c=y
     ·subst q;simp
     ·rw[decide_eq_false (λz=>q (Option.some.inj z)),decide_eq_false (λz=>q (UInt8.toNat_inj.mp (by omega)))]
   refine ite2 (λz=>?_) λz=>?_
   ·refine⟨_,ups,by unfold nats;rw[List.length_map,sizeLine_eq];omega,?_⟩
    unfold ivWLc
    rw[upd_upd,tk,List.filter_append,List.filter_cons,gw,if_pos (decide_eq_true z)]
    unfold nats
    rw[List.map_append]
    rfl
   ·unfold ivWLc
    rw[tk,List.filter_append,List.filter_cons,gw,if_neg (by rw[decide_eq_false z];decide)]
    simp
  ·rintro H3 e3
   unfold ivWLc at e3
   rw[List.take_of_length_le (by unfold nats;rw[List.length_map];exact Nat.le_refl _)]at e3
   subst e3
   have fn:left.find? (λi=>decide (((l.map Tafl.ascii).getD i []).length<=k))=none:=find_none' λi hi=>decide_eq_false (by have:=hn' i hi;have:=(I.mem i hi).2;omega)
   have bar3:=I.bar.trans (Bar.new (ps:=[p]) (o:=.lst (nats (left.filter (goesW b (n+k) (l.map Tafl.ascii) k)))) hD)
   refine⟨D,rfl,_,.inl (SqL.of ups),?_⟩
   have lenE:(nats (left.filter (goesW b (n+k) (l.map Tafl.ascii) k))).length=(left.filter (goesW b (n+k) (l.map Tafl.ascii) k)).length:=by unfold nats;rw[List.length_map]
   rw[lenE]
   refine ite2 (λz=>?_) λz=>?_
   ·refine k2 (n+k) _ ?_ (I.scan.new hD) bar3
    have z':left.filter (goesW b (n+k) (l.map Tafl.ascii) k)=[]:=List.length_eq_zero_iff.mp (by omega)
    rw[I.eq,e16]
    cases e:b[n+k]? with
    | none=>rw[Tm.oneOf_end fn (by rw[cur_next];exact e)];rfl
    | some x =>
     rw[Tm.oneOf_stuck fn (by rw[cur_next];exact e) ?_]
     ·rfl
     ·have g:goesW b (n+k) (l.map Tafl.ascii) k=λi=>decide (((l.map Tafl.ascii).getD i [])[k]?=some x):=by funext i;unfold goesW;rw[e]
      rw[<-g];exact z'
   ·have z':left.filter (goesW b (n+k) (l.map Tafl.ascii) k)≠[]:=λq=>z (by rw[q];rfl)
    obtain⟨x,hx⟩:∃x,b[n+k]?=some x:=by
     cases e:b[n+k]? with
     | some x=>exact⟨x,rfl⟩
     | none =>
      refine absurd (List.filter_eq_nil_iff.mpr λi _=>?_) z'
      unfold goesW;rw[e];simp
    have g:goesW b (n+k) (l.map Tafl.ascii) k=λi=>decide (((l.map Tafl.ascii).getD i [])[k]?=some x):=by funext i;unfold goesW;rw[hx]
    have hp':(upd H2 D (.lst (nats (left.filter (goesW b (n+k) (l.map Tafl.ascii) k))))) p=some (.ins t.C_Scan dx (scF tx (n+k))):=by rw[qqa (nen hp hD)];exact hp
    have Dp:D≠p:=(nen hp hD).symm
    refine⟨dx,_,hp',rfl,p,dx,tx,n+k,rfl,hp',16 - (k+1),by omega,left.filter (goesW b (n+k) (l.map Tafl.ascii) k),k+1,D,_,_,rfl,⟨?_,⟨dx,ups⟩,bar3.trans .one,?_,λi hi=>?_,z',Nat.le_trans (List.length_filter_le _ _) I.few⟩,rfl⟩
    ·rw[qqa Dp,ups]
    ·rw[I.eq,e16,Tm.oneOf_go fn (by rw[cur_next];exact hx) (by rw[<-g];exact z'),cur_on,<-g]
     have:15 - k=16 - (k+1):=by omega
     rw[this];rfl
    ·have mi:=(List.mem_filter.mp hi).1
     have:=hn' i mi
     have:=I.mem i mi
     exact⟨this.1,by omega⟩
def mkF (m:Tm.Mk):List (Str×V):=[("place",.int m.1),("cell",.int m.2.1),("sign",.int m.2.2)]
def MarkAt (t:Adr) (H:Hp) (a:Addr) (m:Tm.Mk):Prop:=∃dx,H a=some (.ins t.C_Mark dx (mkF m))
def MarksAt (t:Adr) (H:Hp) (l:Addr) (ms:List Tm.Mk):Prop:=∃as:List Addr,H l=some (.lst (as.map V.ref))/\Paired (MarkAt t H) as ms
theorem mkF_place (m:Tm.Mk):(mkF m).lookup ("place":Str)=some (.int m.1):=rfl
theorem mkF_cell (m:Tm.Mk):(mkF m).lookup ("cell":Str)=some (.int m.2.1):=rfl
theorem mkF_sign (m:Tm.Mk):(mkF m).lookup ("sign":Str)=some (.int m.2.2):=rfl
theorem mark_ne_scan {t:Adr}{H:Hp}{a p tx:Addr}{m:Tm.Mk}{n:Nat}(h:MarkAt t H a m) (s:ScanAt t H p tx n):a≠p:=by
 obtain⟨_,h⟩:=h
 obtain⟨_,s⟩:=s
 refine ne_of h s λz=>?_
 have z':=congrArg List.length (HO.ins.inj z).2.2
 exact absurd (show 3=2 from z') (by decide)
theorem MarkAt.bar {t:Adr}{H H':Hp}{a:Addr}{m:Tm.Mk}{ps:List Addr}(h:MarkAt t H a m) (b:Bar ps H H') (n:a∉ps):MarkAt t H' a m:=by
 obtain⟨dx,h⟩:=h
 exact⟨dx,b _ _ h n⟩
theorem PImp {α β:Type}{F G:α->β->Prop}:∀ {l:List α}{m:List β},Paired F l m->(∀a b,a∈l->F a b->G a b)->Paired G l m
 | _,_,.nil,_=>.nil
 | _,_,.cons r t,f=>.cons (f _ _ (by simp) r) (PImp t λa b ha h=>f a b (by simp[ha]) h)
theorem PSnoc {α β:Type}{F:α->β->Prop}{x:α}{y:β}(r:F x y):∀ {l:List α}{m:List β},Paired F l m->Paired F (l++[x]) (m++[y])
 | _,_,.nil=>.cons r .nil
 | _,_,.cons q t=>.cons q (PSnoc r t)
theorem PAt {α β:Type}{F:α->β->Prop}:∀ {l:List α}{m:List β}{i:Nat}{x:α},Paired F l m->l[i]?=some x->∃y,m[i]?=some y/\F x y
 | _,_,_,_,.nil,e=>by simp at e
 | _,_,0,_,.cons r _,e=>by simp at e;subst e;exact⟨_,rfl,r⟩
 | _,_,i+1,x,.cons _ t,e=>by
  obtain⟨u,h1,h2⟩:=PAt (i:=i) (x:=x) t (by simpa using e)
  exact⟨u,by simpa using h1,h2⟩
theorem MarksAt.bar {t:Adr}{H H':Hp}{l:Addr}{ms:List Tm.Mk}{ps:List Addr}(h:MarksAt t H l ms) (b:Bar ps H H') (hl:l∉ps) (hm:∀a m,MarkAt t H a m->a∉ps):MarksAt t H' l ms:=by
 obtain⟨as,h1,h2⟩:=h
 exact⟨as,b _ _ h1 hl,PImp h2 λa m _ q=>q.bar b (hm a m q)⟩
theorem MarksAt.same {t:Adr}{H H':Hp}{l:Addr}{ms:List Tm.Mk}(h:MarksAt t H l ms) (b:Bar [] H H'):MarksAt t H' l ms:=h.bar b (by simp) (by simp)
theorem marks_ne_scan {t:Adr}{H:Hp}{l p tx:Addr}{n:Nat}{ms:List Tm.Mk}(h:MarksAt t H l ms) (s:ScanAt t H p tx n):l≠p:=by
 obtain⟨as,h1,_⟩:=h
 obtain⟨_,s⟩:=s
 exact ne_of h1 s (by intro z;cases z)
theorem MarksAt.scan {t:Adr}{H H':Hp}{l p tx:Addr}{n:Nat}{ms:List Tm.Mk}(h:MarksAt t H l ms) (s:ScanAt t H p tx n) (b:Bar [p] H H'):MarksAt t H' l ms :=
 h.bar b (by simpa using marks_ne_scan h s) λa m q=>by simpa using mark_ne_scan q s
theorem MarksAt.push {t:Adr}{H:Hp}{l a dx:Addr}{ms:List Tm.Mk}{m:Tm.Mk}{as:List Addr}(h1:H l=some (.lst (as.map V.ref))) (h2:Paired (MarkAt t H) as ms) (ha:H a=some (.ins t.C_Mark dx (mkF m))) :
  MarksAt t (upd H l (.lst (as.map V.ref++[.ref a]))) l (ms++[m]):=by
 have ne:∀ {b:Addr}{k:Tm.Mk},MarkAt t H b k->b≠l:=λ⟨_,q⟩=>ne_of q h1 (by intro z;cases z)
 refine⟨as++[a],by rw[ups,List.map_append];rfl,PSnoc ⟨dx,by rw[qqa (ne ⟨dx,ha⟩)];exact ha⟩ (PImp h2 λb k _ q=>?_)⟩
 have:=ne q
 obtain⟨d,q⟩:=q
 exact⟨d,by rw[qqa this];exact q⟩
def sp_Mark_init (t:Adr):Sp:=λvs H Q _=>∃(p dx:Addr) (m:Tm.Mk),vs=[.ref p,.int m.1,.int m.2.1,.int m.2.2]/\H p=some (.ins t.C_Mark dx [])/\Q .non (upd H p (.ins t.C_Mark dx (mkF m)))
theorem sc_Mark_init:qqb ["self","place","cell","sign"] ["self","place","cell","sign"] (dSc s_Mark_init):=by walk_at "sc9"
theorem ok_Mark_init (T:Txt K mg t):FnOk P w K mg base (CX1 P w) 1 t.f_Mark_init t.d_Mark_init ["self","place","cell","sign"] (sp_Mark_init t):=by
 refine T.Mark.F.okX sc_Mark_init (λvs H Q E h=>?_) (λcdv A outer s H vs Q E hr h=>?_)
 ·obtain⟨p,dx,m,rfl,_⟩:=h;rfl
 obtain⟨p,dx,m,rfl,hp,k⟩:=h
 refine⟨_,psc (eS T.Mark.c T.n_Mark_place (pv 0) (pv 1)) (psc (eS T.Mark.c T.n_Mark_cell (pv 0) (pv 2)) (pso (eS T.Mark.c T.n_Mark_sign (pv 0) (pv 3)))),?_⟩
 refine⟨_,rfl,_,rfl,p,dx,_,rfl,hp,(by show 0<1000;decide),_,rfl,_,rfl,p,dx,_,rfl,ups,(by show 1<1000;decide),_,rfl,_,rfl,p,dx,_,rfl,ups,(by show 2<1000;decide),?_⟩
 rw[upd_upd,upd_upd]
 exact k
def RuAt (t:Adr) (H:Hp) (p:Addr) (fs:List (Str×V)):Prop:=∃dx,H p=some (.ins t.C_Rules dx fs)
def sp_Rules_init (t:Adr):Sp:=λvs H Q _=>∃(p dx:Addr),vs=[.ref p]/\H p=some (.ins t.C_Rules dx [])/\∀fs H',RuAt t H' p fs->fs.length<=17->Bar [p] H H'->Q .non H'
theorem sc_Rules_init:qqb ["self"] ["self"] (dSc s_Rules_init):=by walk_at "sc9"
theorem le_put {f:Str}{v:V}{fs:List (Str×V)}{n:Nat}(h:fs.length<=n):(putF f v fs).length<=n+1:=Nat.le_trans (length_putF f v fs) (Nat.succ_le_succ h)
theorem sF_ru {t:Adr}{D:Ends}{σ:St}{H:Hp}{p:Addr}{fs:List (Str×V)}{f:Str}{v:V}{n:Nat}(h0:σ[0]?=some (some (.ref p))) (hp:RuAt t H p fs) (hl:fs.length<=n) (hn:n<1000)
  (k:∀H' fs',RuAt t H' p fs'->fs'.length<=n+1->Bar [p] H H'->D.nx σ H'):sF t.C_Rules f (tVar 0) (tC v) D σ H:=by
 obtain⟨dx,hp⟩:=hp
 exact⟨_,h0,p,dx,fs,rfl,hp,Nat.lt_of_le_of_lt hl hn,k _ _ ⟨dx,ups⟩ (le_put hl) .one⟩
theorem sF_ruL {t:Adr}{D:Ends}{σ:St}{H:Hp}{p:Addr}{fs:List (Str×V)}{f:Str}{n:Nat}(h0:σ[0]?=some (some (.ref p))) (hp:RuAt t H p fs) (hl:fs.length<=n) (hn:n<1000)
  (k:∀H' fs',RuAt t H' p fs'->fs'.length<=n+1->Bar [p] H H'->D.nx σ H'):sF t.C_Rules f (tVar 0) (tLst tNil) D σ H:=by
 obtain⟨dx,hp⟩:=hp
 exact⟨by decide,λq hq=>⟨_,h0,p,dx,fs,rfl,by rw[qqa (nen hp hq)];exact hp,Nat.lt_of_le_of_lt hl hn,k _ _ ⟨dx,ups⟩ (le_put hl) ((Bar.new hq).trans .one)⟩⟩
theorem sF_ruD {t:Adr}{D:Ends}{σ:St}{H:Hp}{p:Addr}{fs:List (Str×V)}{f:Str}{n:Nat}(h0:σ[0]?=some (some (.ref p))) (hp:RuAt t H p fs) (hl:fs.length<=n) (hn:n<1000)
  (k:∀H' fs',RuAt t H' p fs'->fs'.length<=n+1->Bar [p] H H'->D.nx σ H'):sF t.C_Rules f (tVar 0) tDNewK D σ H:=by
 obtain⟨dx,hp⟩:=hp
 exact λq hq=>⟨_,h0,p,dx,fs,rfl,by rw[qqa (nen hp hq)];exact hp,Nat.lt_of_le_of_lt hl hn,k _ _ ⟨dx,ups⟩ (le_put hl) ((Bar.new hq).trans .one)⟩
theorem ok_Rules_init (T:Txt K mg t):FnOk P w K mg base (CX1 P w) 1 t.f_Rules_init t.d_Rules_init ["self"] (sp_Rules_init t):=by
 refine T.Rules.F.okX sc_Rules_init (λvs H Q E h=>?_) (λcdv A outer s H vs Q E hr h=>?_)
 ·obtain⟨p,dx,rfl,_⟩:=h;rfl
 obtain⟨p,dx,rfl,hp,k⟩:=h
 have c:=T.Rules.c
 refine⟨_,psc (eS c T.n_Rules_wide (pv 0) pei) (psc (eS c T.n_Rules_high (pv 0) pei) (psc (eS c T.n_Rules_ground (pv 0) (pe_lst pan)) (psc (eS c T.n_Rules_start (pv 0) (pe_lst pan)) (psc (eS c T.n_Rules_kinds (pv 0) pe_dnewK)
  (psc (eS c T.n_Rules_first (pv 0) pei) (psc (eS c T.n_Rules_slides (pv 0) pei) (psc (eS c T.n_Rules_armed (pv 0) pei) (psc (eS c T.n_Rules_four (pv 0) pei) (psc (eS c T.n_Rules_passed (pv 0) pei) (psc (eS c T.n_Rules_seat (pv 0) pei) (psc (eS c T.n_Rules_exits (pv 0) pei)
  (psc (eS c T.n_Rules_goal (pv 0) pei) (psc (eS c T.n_Rules_goal_place (pv 0) pei) (psc (eS c T.n_Rules_thrice (pv 0) pei) (psc (eS c T.n_Rules_limit (pv 0) pei) (pso (eS c T.n_Rules_length (pv 0) pei))))))))))))))))),?_⟩
 refine sF_ru rfl ⟨dx,hp⟩ (Nat.zero_le 0) (by decide) λH1 f1 r1 l1 b1=>?_
 refine sF_ru rfl r1 l1 (by decide) λH2 f2 r2 l2 b2=>?_
 refine sF_ruL rfl r2 l2 (by decide) λH3 f3 r3 l3 b3=>?_
 refine sF_ruL rfl r3 l3 (by decide) λH4 f4 r4 l4 b4=>?_
 refine sF_ruD rfl r4 l4 (by decide) λH5 f5 r5 l5 b5=>?_
 refine sF_ru rfl r5 l5 (by decide) λH6 f6 r6 l6 b6=>?_
 refine sF_ru rfl r6 l6 (by decide) λH7 f7 r7 l7 b7=>?_
 refine sF_ru rfl r7 l7 (by decide) λH8 f8 r8 l8 b8=>?_
 refine sF_ru rfl r8 l8 (by decide) λH9 f9 r9 l9 b9=>?_
 refine sF_ru rfl r9 l9 (by decide) λH10 f10 r10 l10 b10=>?_
 refine sF_ru rfl r10 l10 (by decide) λH11 f11 r11 l11 b11=>?_
 refine sF_ru rfl r11 l11 (by decide) λH12 f12 r12 l12 b12=>?_
 refine sF_ru rfl r12 l12 (by decide) λH13 f13 r13 l13 b13=>?_
 refine sF_ru rfl r13 l13 (by decide) λH14 f14 r14 l14 b14=>?_
 refine sF_ru rfl r14 l14 (by decide) λH15 f15 r15 l15 b15=>?_
 refine sF_ru rfl r15 l15 (by decide) λH16 f16 r16 l16 b16=>?_
 refine sF_ru rfl r16 l16 (by decide) λH17 f17 r17 l17 b17=>?_
 exact k _ _ r17 l17 ((((((((((((((((b1.trans b2).trans b3).trans b4).trans b5).trans b6).trans b7).trans b8).trans b9).trans b10).trans b11).trans b12).trans b13).trans b14).trans b15).trans b16).trans b17)
def letV (s:Int):Bool:=decide (65<=s/\s<=90\/97<=s/\s<=122)
def sp_is_letter:Sp:=λvs H Q _=>∃s:Int,vs=[.int s]/\Q (.bl (letV s)) H
theorem sc_is_letter:qqb ["sign"] ["sign"] (dSc s_is_letter):=by walk_at "sc9"
theorem ok_is_letter (T:Txt K mg t):FnOk P w K mg base (CX1 P w) 1 t.f_is_letter t.d_is_letter ["sign"] sp_is_letter:=by
 refine T.is_letter.F.okX sc_is_letter (λvs H Q E h=>?_) (λcdv A outer s H vs Q E hr h=>?_)
 ·obtain⟨x,rfl,_⟩:=h;rfl
 obtain⟨x,rfl,k⟩:=h
 refine⟨_,pso (qqe (pe_or (pe_and (pe_cmpR op_le (eOrd (n:=65) T.o_ord rfl rfl) (pv 0) (qqg _)) (pe_one (pe_cmpR op_le (pv 0) (eOrd (n:=90) T.o_ord rfl rfl) (qqg _))))
  (pe_one (pe_and (pe_cmpR op_le (eOrd (n:=97) T.o_ord rfl rfl) (pv 0) (qqg _)) (pe_one (pe_cmpR op_le (pv 0) (eOrd (n:=122) T.o_ord rfl rfl) (qqg _))))))),?_⟩
 walk_at "rd"
 have fin:∀c:Bool,c=letV x->Q (.bl c) H:=λc e=>by rw[e];exact k
 refine ite2 (λc=>ite2 (λc2=>fin _ ?_) λc2=>ite2 (λc3=>fin _ ?_) λc3=>fin _ ?_) λc=>ite2 (λc3=>fin _ ?_) λc3=>fin _ ?_ <;> unfold letV
 ·exact (decide_eq_true (by omega)).symm
 ·exact decide_eq_decide.mpr (by omega)
 ·exact (decide_eq_false (by omega)).symm
 ·exact decide_eq_decide.mpr (by omega)
 ·exact (decide_eq_false (by omega)).symm
def nameP:UInt8->Bool:=λy=>Tafl.isLetter y||Tafl.isDigit y
theorem let_ahd {b:Tafl.Bytes}{n:Nat}:letV (ahd b n)=(match b[n]? with | some x=>Tafl.isLetter x | none=>false):=by
 unfold letV ahd
 cases b[n]? with
 | none=>simp
 | some x =>
  simp only
  unfold Tafl.isLetter
  by_cases c:65<=(x.toNat:Int)/\(x.toNat:Int)<=90\/97<=(x.toNat:Int)/\(x.toNat:Int)<=122
  ·rw[decide_eq_true c]
   simp only[Bool.or_eq_true,Bool.and_eq_true,decide_eq_true_eq,Bool.true_eq]
   omega
  ·rw[decide_eq_false c]
   symm
   rw[Bool.eq_false_iff]
   simp only[ne_eq,Bool.or_eq_true,Bool.and_eq_true,decide_eq_true_eq]
   omega
theorem dig_ahd {b:Tafl.Bytes}{n:Nat}:0<=digV (ahd b n)↔(match b[n]? with | some x=>Tafl.isDigit x | none=>false)=true:=by
 unfold digV ahd
 cases b[n]? with
 | none=>simp
 | some x =>
  simp only
  unfold Tafl.isDigit
  simp only[Bool.and_eq_true,decide_eq_true_eq]
  split <;> omega
def sp_take_name (t:Adr):Sp:=λvs H Q E=>∃(p tx:Addr) (b:Tafl.Bytes) (n:Nat),vs=[.ref p]/\ScanAt t H p tx n/\TextAt H tx b/\Parsed t p tx b H (Tafl.nameIn (cur b n)) (λ_ H'=>Q .non H') E
theorem sc_take_name:qqb ["scan","length"] ["scan"] (dSc s_take_name):=by walk_at "sc9"
def ivName (t:Adr) (p tx:Addr) (b:Tafl.Bytes) (n:Nat) (H:Hp) (m:Nat) (σ:St) (H':Hp):Prop :=
 ∃i,σ=[some (.ref p),some (.int (i:Nat))]/\i<=16/\m=16 - i/\ScanAt t H' p tx (n+i)/\Bar [p] H H'/\(Tafl.some_ nameP 16 (cur b n)).2=(Tafl.some_ nameP (16 - i) (cur b (n+i))).2
theorem ok_take_name (T:Txt K mg t):FnOk P w K mg base (CX1 P w) 2 t.f_take_name t.d_take_name ["scan"] (sp_take_name t):=by
 refine T.take_name.F.okX sc_take_name (λvs H Q E h=>?_) (λcdv A outer s H vs Q E hr h=>?_)
 ·obtain⟨p,tx,b,n,rfl,_⟩:=h;rfl
 obtain⟨p,tx,b,n,rfl,hs,ht,k1,k2⟩:=h
 have nd:=sc_take_name.nd
 refine⟨_,psc (ps_if (pt_not (pt_val (eC T.is_letter (ok_is_letter T) hr (pac (eM0 T.Scan.c T.Scan_ahead (ok_Scan_ahead T) hr (pv 0)) pan)))) (pso (ps_raise0 rfl qqc T.Stuck.c T.Stuck.i T.Stuck.kp rfl T.Stuck.m)) qqi)
  (psc (qqd (i:=1) nd rfl (Or.inl rfl) pei)
  (pso (ps_while owns_fn (PW.pt (pw_and (qqh op_lt (pv 1) (eK T.k_LONGEST_NAME) (qqg _)) (pw_and1 (PW.pt (pw_or (pt_val (eC T.is_letter (ok_is_letter T) hr (pac (eM0 T.Scan.c T.Scan_ahead (ok_Scan_ahead T) hr (pv 0)) pan)))
    (pw_or1 (qqh op_ge (eC T.digit_value (ok_digit_value T) hr (pac (eM0 T.Scan.c T.Scan_ahead (ok_Scan_ahead T) hr (pv 0)) pan)) pei (qqg _))))))))
   (psc (qqj (eM0 T.Scan.c T.Scan_go_on (ok_Scan_go_on T) hr (pv 0))) (pso (qqd (i:=1) nd rfl (Or.inl rfl) (pe_op op_add (pv 1) pei))))))),?_⟩
 walk_at "rd"
 obtain⟨dx,hp⟩:=id hs
 refine⟨dx,_,hp,rfl,p,tx,b,n,rfl,hs,ht,_,rfl,_,rfl,?_⟩
 rw[let_ahd]
 cases e:b[n]? with
 | none=>exact k2 n H (by unfold Tafl.nameIn;rw[cur_next,e];rfl) hs (.refl _ _)
 | some x =>
  simp only
  by_cases q:Tafl.isLetter x=true
  case neg=>rw[if_pos (Bool.eq_false_iff.mpr q)];exact k2 n H (by unfold Tafl.nameIn;rw[cur_next,e];simp only;rw[if_neg q];rfl) hs (.refl _ _)
  case pos =>
   rw[if_neg (by rw[q];decide)]
   have nm:∀n',(Tafl.some_ nameP 16 (cur b n)).2=cur b n'->Tafl.nameIn (cur b n)=.ok ((Tafl.some_ nameP 16 (cur b n)).1,cur b n'):=λn' z=>by
    unfold Tafl.nameIn;rw[cur_next,e];simp only;rw[if_pos q,<-z];rfl
   refine⟨ivName t p tx b n H,⟨16,0,rfl,by decide,rfl,hs,.refl _ _,rfl⟩,?_⟩
   rintro m σ H' ⟨i,rfl,hi,hm,hs',hb,eq⟩
   have ht':=ht.bar hs hb
   obtain⟨dx,hp⟩:=id hs'
   have out:(∀x,(cur b (n+i)).next=some x->nameP x=false)\/i=16->Q .non H':=λz=>by
    refine k1 _ (n+i) H' (nm _ ?_) hs' hb
    rw[eq]
    rcases z with z | z
    ·exact Tm.some_stop z
    ·subst z;rfl
   have go:∀x,b[n+i]?=some x->nameP x=true->i<16->(Tafl.some_ nameP 16 (cur b n)).2=(Tafl.some_ nameP (16 - (i+1)) (cur b (n+(i+1)))).2:=λx hx hpx lt=>by
    rw[eq,show 16 - i=(16 - (i+1))+1 by omega,Tm.some_go (by rw[cur_next];exact hx) hpx,cur_on];rfl
   walk_at "rd"
   refine ite2 (λc=>?_) λc=>out (.inr (by omega))
   refine⟨dx,_,hp,rfl,p,tx,b,n+i,rfl,hs',ht',_,rfl,_,rfl,?_⟩
   rw[let_ahd]
   have stay:∀ {x:UInt8},b[n+i]?=some x->nameP x=true->∃m',m'<m/\ivName t p tx b n H m' [some (.ref p),some (.int ((i:Int)+1))] (upd H' p (.ins t.C_Scan dx (scF tx (n+i+1)))):=λ{x} hx hpx =>
    ⟨16 - (i+1),by omega,i+1,rfl,by omega,rfl,⟨dx,ups⟩,hb.trans .one,go x hx hpx (by omega)⟩
   have next:∀x,b[n+i]?=some x->(cur b (n+i)).next=some x:=λx hx=>by rw[cur_next];exact hx
   cases e2:b[n+i]? with
   | none =>
    rw[if_neg (by simp)]
    refine⟨dx,_,hp,rfl,p,tx,b,n+i,rfl,hs',ht',_,rfl,_,rfl,?_⟩
    rw[if_neg (by rw[dig_ahd,e2];simp)]
    exact out (.inl λx hx=>by rw[cur_next,e2]at hx;cases hx)
   | some y =>
    simp only
    by_cases q2:Tafl.isLetter y=true
    ·rw[if_pos q2]
     exact⟨_,λ_ _ z=>z,dx,_,hp,rfl,p,dx,tx,n+i,rfl,hp,stay e2 (by unfold nameP;rw[q2];rfl)⟩
    ·rw[if_neg q2]
     refine⟨dx,_,hp,rfl,p,tx,b,n+i,rfl,hs',ht',_,rfl,_,rfl,?_⟩
     refine ite2 (λc2=>?_) λc2=>?_
     ·rw[dig_ahd,e2]at c2
      exact⟨_,λ_ _ z=>z,dx,_,hp,rfl,p,dx,tx,n+i,rfl,hp,stay e2 (by unfold nameP;rw[show Tafl.isDigit y=true from c2,Bool.or_true])⟩
     ·have c2:¬Tafl.isDigit y=true:=by rw[dig_ahd,e2]at c2;exact c2
      exact out (.inl λx hx=>by
       rw[cur_next,e2]at hx;cases hx
       unfold nameP
       rw[Bool.eq_false_iff.mpr q2,Bool.eq_false_iff.mpr c2];rfl)
structure RuWH (t:Adr) (H:Hp) (ru:Addr) (fs:List (Str×V)) (w h:Nat):Prop where
 at_:RuAt t H ru fs
 wide:fs.lookup ("wide":Str)=some (.int (w:Nat))
 high:fs.lookup ("high":Str)=some (.int (h:Nat))
theorem ru_ne_scan {t:Adr}{H:Hp}{ru p tx:Addr}{n w h:Nat}{fs:List (Str×V)}(r:RuWH t H ru fs w h) (s:ScanAt t H p tx n):ru≠p:=by
 obtain⟨_,r1⟩:=r.at_
 obtain⟨_,s⟩:=s
 refine ne_of r1 s λz=>?_
 have e:=r.wide
 rw[(HO.ins.inj z).2.2]at e
 exact absurd e (by rw[show (scF tx n).lookup ("wide":Str)=none from rfl];simp)
def sp_take_rows {α:Type}(sg:UInt8->Option α) (num:α->Nat) (d:α) (K:PySem.W.Frag) (t:Adr):Sp:=λvs H Q E=>∃(p tx ru a:Addr) (b:Tafl.Bytes) (n w h:Nat) (wl:List Str) (l:List String) (fs:List (Str×V)),
 vs=[.ref p,.ref ru,.ref a]/\(∀H,SqT K H a (wl.map V.str))/\WordsAre wl (l.map Tafl.ascii)/\l≠[]/\l.length<=10/\Tm.SignsOf l sg num/\ScanAt t H p tx n/\TextAt H tx b/\RuWH t H ru fs w h/\w<=13/\h<=13 /\
 (∀rows ats n' H' lm,Tafl.rowsIn sg w h (cur b n)=.ok (rows,ats,cur b n')->(∀r∈rows,r.length=w)->ScanAt t H' p tx n'->Bar [p] H H'->MarksAt t H' lm (Tm.rowsMarks num d w h rows ats h)->Q (.ref lm) H') /\
 ∀n' H',Tafl.rowsIn sg w h (cur b n)=.error n'->ScanAt t H' p tx n'->Bar [p] H H'->E (.ref t.C_Stuck) none H'
theorem sc_take_rows:qqb ["scan","rules","signs","marks","y","x","place"] ["scan","rules","signs"] (dSc s_take_rows):=by walk_at "sc9"
theorem bar_made {H:Hp}{x dx C:Addr}{fs:List (Str×V)}(nx:H x=none) (nd:H dx=none):Bar [] H (upd (upd (upd H dx (.own x)) x (.ins C dx [])) x (.ins C dx fs)):=λb o h _=>by
 rw[qqa (nen h nx),qqa (nen h nx),qqa (nen h nd)];exact h
theorem RuWH.bar {t:Adr}{H H':Hp}{ru p tx:Addr}{n w h:Nat}{fs:List (Str×V)}(r:RuWH t H ru fs w h) (s:ScanAt t H p tx n) (b:Bar [p] H H'):RuWH t H' ru fs w h:=by
 obtain⟨dx,q⟩:=r.at_
 exact⟨⟨dx,b _ _ q (by simpa using ru_ne_scan r s)⟩,r.wide,r.high⟩
theorem cur_inj {b:Tafl.Bytes}{n m:Nat}(h:cur b n=cur b m):n=m:=congrArg Tafl.Cur.at_ h
def ivRows {α:Type}(sg:UInt8->Option α) (num:α->Nat) (d:α) (t:Adr) (p tx ru a lm:Addr) (b:Tafl.Bytes) (n w h:Nat) (H:Hp) (i:Nat) (σ:St) (H':Hp):Prop :=
 ∃rows ats m y x pl,σ=[some (.ref p),some (.ref ru),some (.ref a),some (.ref lm),y,x,pl]/\Tm.RowsAt sg w h (cur b n) i rows ats (cur b m)/\ScanAt t H' p tx m/\Bar [p] H H'/\MarksAt t H' lm (Tm.rowsMarks num d w h rows ats i)
def ivRow {α:Type}(sg:UInt8->Option α) (num:α->Nat) (d:α) (t:Adr) (p tx ru a lm:Addr) (b:Tafl.Bytes) (w h:Nat) (H:Hp) (i m0:Nat) (ms:List Tm.Mk) (x:Nat) (σ:St) (H':Hp):Prop :=
 ∃pre m xv pl,σ=[some (.ref p),some (.ref ru),some (.ref a),some (.ref lm),some (.int ((h - 1 - i:Nat):Int)),xv,pl]/\Tm.RowAt sg w (cur b m0) x pre (cur b m)/\ScanAt t H' p tx m/\Bar [p] H H'/\MarksAt t H' lm (ms++Tm.rowMarks num d h i m0 pre x)/\pre.length<=13/\x<=13
theorem lit_ok {ws:Tafl.Bytes}{c d:Tafl.Cur}{u:Unit}(h:litU ws c=.ok (u,d)):Tafl.lit ws c=.ok d:=by
 unfold litU at h
 cases e:Tafl.lit ws c with
 | error p=>rw[e]at h;cases h
 | ok x=>rw[e]at h;cases h;rfl
theorem lit_err {ws:Tafl.Bytes}{c:Tafl.Cur}{n:Nat}(h:litU ws c=.error n):Tafl.lit ws c=.error n:=by
 unfold litU at h
 cases e:Tafl.lit ws c with
 | error p=>rw[e]at h;cases h;rfl
 | ok x=>rw[e]at h;cases h
theorem ok_take_rows {α:Type}(sg:UInt8->Option α) (num:α->Nat) (d:α) (T:Txt K mg t):FnOk P w K mg base (CX1 P w) 3 t.f_take_rows t.d_take_rows ["scan","rules","signs"] (sp_take_rows sg num d K t):=by
 refine T.take_rows.F.okX sc_take_rows (λvs H Q E h=>?_) (λcdv A outer s H vs Q E hr h=>?_)
 ·obtain⟨p,tx,ru,a,b,n,w,h,wl,l,fs,rfl,_⟩:=h;rfl
 obtain⟨p,tx,ru,a,b,n,w,h,wl,l,fs,rfl,ha,hw,hne,hten,hsg,hs,ht,hru,w13,h13,k1,k2⟩:=h
 have nd:=sc_take_rows.nd
 have hr1:Room 1 _:=hr.mono (by decide)
 refine⟨_,psc (qqd (i:=3) nd rfl (Or.inl rfl) (pe_lst pan))
  (psc (ps_for owns_fn rfl (pi_range3 (by rfl) T.o_range (pac (pe_op op_sub (eF T.Rules.c T.n_Rules_high (pv 1)) pei) (pac (pe_un un_neg pei) (pac (pe_un un_neg pei) pan)))) (pg_name (i:=4) nd rfl (Or.inl rfl))
   (psc (ps_for owns_fn rfl (pi_range1 (by rfl) T.o_range (pac (eF T.Rules.c T.n_Rules_wide (pv 1)) pan)) (pg_name (i:=5) nd rfl (Or.inl rfl))
    (psc (qqd (i:=6) nd rfl (Or.inl rfl) (eF T.Scan.c T.n_Scan_place (pv 0)))
    (pso (qqj (pe_bm PySem.F.plainAttrs_list PySem.F.slot_list_append PySem.F.type_list_append mt_append (pv 3) (pac (eN T.Mark (ok_Mark_init T) hr (pac (pv 6) (pac (eC T.cell_number (ok_cell_number T) hr1 (pac (pv 5) (pac (pv 4) pan))) (pac (eMR qqc T.Scan.c T.Scan_take_one_of (ok_Scan_take_one_of T) hr (pv 0) (pac (pv 2) pan)) pan)))) pan))))))
   (pso (qqj (eMR qqc T.Scan.c T.Scan_take (ok_Scan_take T) hr (pv 0) (pac pe_str pan))))))
  (pso (qqe (pv 3)))),?_⟩
 walk_at "rd"
 refine⟨by decide,λlm hlm=>?_⟩
 obtain⟨dr,hru'⟩:=id hru.at_
 have ru_lm:(upd H lm (.lst [])) ru=some (.ins t.C_Rules dr fs):=by rw[qqa (nen hru' hlm)];exact hru'
 refine⟨_,rfl,ru,dr,fs,_,rfl,ru_lm,hru.high,_,_,rfl,rfl,_,rfl,_,rfl,_,_,_,_,rfl,RgC.neg (i:=(h:Int) - 1) (j:=-1) (by omega) (by omega) (by decide) (by decide),for_rangeC (ivRows sg num d t p tx ru a lm b n w h H) ?_ ?_ ?_⟩
 ·exact⟨[],[],n,none,none,none,rfl,.start ..,hs.new hlm,.new hlm,⟨[],ups,.nil⟩⟩
 ·rintro i σ H' hi ⟨rows,ats,m,y,x,pl,rfl,R,hs',hb,hM⟩
  have hi':i<h:=by omega
  have ht':=ht.bar hs hb
  have hru1:=hru.bar hs hb
  obtain⟨dr1,hr1'⟩:=id hru1.at_
  have ey:(h:Int) - 1+(i:Nat)*-1=((h - 1 - i:Nat):Int):=by omega
  walk_at "rd"
  refine⟨_,rfl,ru,dr1,fs,_,rfl,hr1',hru1.wide,_,rfl,by omega,by omega,for_range (lo:=0) (n:=w) (ivRow sg num d t p tx ru a lm b w h H i m (Tm.rowsMarks num d w h rows ats i)) ?_ ?_ ?_⟩
  ·refine⟨[],m,x,pl,by rw[ey],.start ..,hs',hb,?_,Nat.zero_le _,Nat.zero_le _⟩
   rw[Tm.rowMarks_zero,List.append_nil];exact hM
  ·rintro x σ H2 hx ⟨pre,m2,xv,pl2,rfl,R2,hs2,hb2,hM2,hpre,hx13⟩
   have ht2:=ht.bar hs hb2
   obtain⟨dx,hp⟩:=id hs2
   have ex:(0:Int)+(x:Nat)=(x:Nat):=by omega
   walk_at "rd"
   obtain⟨as,hl,hpr⟩:=id hM2
   refine⟨dx,_,hp,_,scF_place tx m2,.inl ⟨rfl,_,SqL.of hl⟩,_,_,rfl,dx,_,hp,rfl,p,tx,a,b,m2,wl,l,rfl,ha,hw,hne,hten,hs2,ht2,λv n' H3 e hs3 hb3=>?_,λn' H3 e hs3 hb3=>?_⟩
   ·rw[hsg]at e
    cases hk:(cur b m2).next.bind sg with
    | none=>rw[hk]at e;cases e
    | some k =>
     rw[hk]at e
     have e1:=Except.ok.inj e
     have e2:num k=v:=congrArg Prod.fst e1
     have e3:n'=m2+1:=by have z:(cur b m2).on=cur b n':=congrArg Prod.snd e1;rw[cur_on]at z;exact (cur_inj z).symm
     subst e2 e3
     intro x0 d0 n0 nd0 ne0
     have hM3:=hM2.scan hs2 hb3
     refine⟨x0,d0,(m2,Tafl.cellOf x (h - 1 - i),num k),?_,ups,rfl,?_⟩
     ·have ec:(13:Int)*((h - 1 - i:Nat):Int)+(0+(x:Nat))=((Tafl.cellOf x (h - 1 - i):Nat):Int):=by unfold Tafl.cellOf Tafl.STRIDE;omega
      show _=[V.ref x0,V.int (m2:Nat),V.int (Tafl.cellOf x (h - 1 - i):Nat),V.int (num k:Nat)]
      rw[<-ec]
     have bm:=bar_made (C:=t.C_Mark) (fs:=mkF (m2,Tafl.cellOf x (h - 1 - i),num k)) n0 nd0
     have hM4:=hM3.same bm
     have hs4:ScanAt t (upd (upd (upd H3 d0 (.own x0)) x0 (.ins t.C_Mark d0 [])) x0 (.ins t.C_Mark d0 (mkF (m2,Tafl.cellOf x (h - 1 - i),num k)))) p tx (m2+1):=by
      obtain⟨z,hz⟩:=hs3;exact⟨z,bm.same hz⟩
     obtain⟨as4,hl4,hpr4⟩:=hM4
     have len4:(as4.map V.ref).length<=1000:=by
      have e:=Paired.length hpr4
      rw[List.length_map,e,List.length_append,Tm.rowMarks,List.length_map,List.length_range,Tm.rowsMarks_length]
      have:=Nat.mul_le_mul (show i<=13 by omega) w13
      omega
     refine⟨lm,_,_,rfl,rfl,hl4,small1000 len4,?_⟩
     have push:=MarksAt.push (a:=x0) hl4 hpr4 ups
     refine⟨pre++[k],m2+1,_,_,rfl,?_,?_,?_,?_,by rw[List.length_append,R2.len];show x+1<=13;omega,by omega⟩
     ·have z:=R2.turn hx hk
      rw[cur_on]at z
      exact z
     ·obtain⟨z,hz⟩:=hs4
      exact⟨z,by rw[qqa (ne_of hz hl4 (by intro q;cases q))];exact hz⟩
     ·exact λc o hc nc=>by rw[qqa (nen hc hlm)];exact (hb2.trans (hb3.trans bm.more)) c o hc nc
     ·rw[<-Tm.rowMarks_succ R2.len,<-List.append_assoc]
      have hpl:m2=m+x:=by have:=R2.pl;rw[cur_at,cur_at]at this;omega
      rw[<-hpl]
      exact push
   ·refine k2 n' H3 ?_ hs3 (hb2.trans hb3)
    rw[hsg]at e
    cases hk:(cur b m2).next.bind sg with
    | some k=>rw[hk]at e;cases e
    | none =>
     rw[hk]at e
     have e1:m2=n':=Except.error.inj e
     subst e1
     rw[R.stuck hi' (R2.stuck hx hk)];rfl
  ·rintro σ H2 ⟨pre,m2,xv,pl2,rfl,R2,hs2,hb2,hM2,hpre,_⟩
   have ht2:=ht.bar hs hb2
   obtain⟨dx,hp⟩:=id hs2
   walk_at "rd"
   refine⟨dx,_,hp,rfl,p,tx,b,m2,_,[10],rfl,rfl,hs2,ht2,λ_ n' H3 e hs3 hb3=>?_,λn' H3 e hs3 hb3=>?_⟩
   ·have e':Tafl.lit [Tafl.LF] (cur b m2)=.ok (cur b n'):=lit_ok e
    refine⟨rows++[pre],ats++[m],n',_,_,_,rfl,R.turn hi' (R2.fin e') R2.len,hs3,hb2.trans hb3,?_⟩
    rw[<-Tm.rowsMarks_succ R.len R.lenA]
    exact hM2.scan hs2 hb3
   ·refine k2 n' H3 ?_ hs3 (hb2.trans hb3)
    rw[R.stuck hi' (R2.finE (lit_err e))]
 ·rintro σ H' ⟨rows,ats,m,y,x,pl,rfl,R,hs',hb,hM⟩
  have e:((h:Int) - 1 - -1).toNat=h:=by omega
  rw[e]at R hM
  refine⟨_,rfl,k1 rows ats m H' lm R.fin R.wid hs' hb hM⟩
section
structure St5 (t:Adr) (p tx ru:Addr) (b:Tafl.Bytes) (H0 H:Hp) (n:Nat) (fs:List (Str×V)):Prop where
 scan:ScanAt t H p tx n
 text:TextAt H tx b
 rul:RuAt t H ru fs
 bar:Bar [p,ru] H0 H
 ne:p≠ru
section
variable {K:PySem.W.Frag}{t:Adr}{p tx ru:Addr}{b:Tafl.Bytes}{H0 H H1:Hp}{n n1:Nat}{fs:List (Str×V)}
theorem St5.go (S:St5 t p tx ru b H0 H n fs) (s:ScanAt t H1 p tx n1) (br:Bar [p] H H1):St5 t p tx ru b H0 H1 n1 fs:=by
 obtain⟨dx,r⟩:=S.rul
 exact⟨s,S.text.bar S.scan br,⟨dx,br _ _ r (by simpa using S.ne.symm)⟩,S.bar.trans (br.mono (by simp)),S.ne⟩
theorem St5.set {f:Str}{v:V}{dx:Addr}(S:St5 t p tx ru b H0 H n fs) (r:H ru=some (.ins t.C_Rules dx fs)):St5 t p tx ru b H0 (upd H ru (.ins t.C_Rules dx (putF f v fs))) n (putF f v fs):=by
 obtain⟨ds,s⟩:=S.scan
 have tr:tx≠ru:=ne_of S.text r (by intro z;cases z)
 exact⟨⟨ds,by rw[qqa S.ne];exact s⟩,by unfold TextAt;rw[qqa tr];exact S.text,⟨dx,ups⟩,S.bar.trans (Bar.one.mono (by simp)),S.ne⟩
theorem st_take {E:XK}{D:Ends}{σ:St}{wd:Str}{ws:Tafl.Bytes}(S:St5 t p tx ru b H0 H n fs) (h0:σ[0]?=some (some (.ref p))) (hw:wd.cps.toList=ws.map UInt8.toNat)
  (ok:∀n1 H1,Tafl.lit ws (cur b n)=.ok (cur b n1)->St5 t p tx ru b H0 H1 n1 fs->D.nx σ H1) (er:∀n1 H1,Tafl.lit ws (cur b n)=.error n1->St5 t p tx ru b H0 H1 n1 fs->E (.ref t.C_Stuck) none H1) :
  tDrop (tMethS t.C_Scan "take" (sp_Scan_take t) [] (λ_=>E) (tVar 0) (tCons (tC (.str wd)) tNil)) D σ H:=by
 obtain⟨dx,hp⟩:=S.scan
 exact⟨_,h0,p,dx,_,rfl,hp,rfl,p,tx,b,n,wd,ws,rfl,hw,S.scan,S.text,λ_ n1 H1 e s br=>ok n1 H1 (lit_ok e) (S.go s br),λn1 H1 e s br=>er n1 H1 (lit_err e) (S.go s br)⟩
theorem st_word {E:XK}{D:Ends}{σ:St}{f:Str}{a:Addr}{wl:List Str}{l:List String}(S:St5 t p tx ru b H0 H n fs) (h0:σ[0]?=some (some (.ref p))) (h1:σ[1]?=some (some (.ref ru))) (hl:fs.length<1000) (hw:WordsAre wl (l.map Tafl.ascii)) (ha:∀H,SqT K H a (wl.map V.str)) (hne:l≠[]) (hten:l.length<=10)
  (ok:∀v n1 H1,Tafl.word l (cur b n)=.ok (v,cur b n1)->St5 t p tx ru b H0 H1 n1 (putF f (.int (v:Nat)) fs)->D.nx σ H1) (er:∀n1 H1,Tafl.word l (cur b n)=.error n1->St5 t p tx ru b H0 H1 n1 fs->E (.ref t.C_Stuck) none H1) :
  sF t.C_Rules f (tVar 1) (tMethS t.C_Scan "take_one_of" (sp_Scan_take_one_of K t) [] (λ_=>E) (tVar 0) (tCons (tC (.ref a)) tNil)) D σ H:=by
 obtain⟨dx,hp⟩:=S.scan
 refine⟨_,h0,p,dx,_,rfl,hp,rfl,p,tx,a,b,n,wl,l,rfl,ha,hw,hne,hten,S.scan,S.text,λv n1 H1 e s br=>?_,λn1 H1 e s br=>er n1 H1 e (S.go s br)⟩
 have S1:=S.go s br
 obtain⟨dr,r⟩:=S1.rul
 exact⟨_,h1,ru,dr,fs,rfl,r,hl,ok v n1 _ e (S1.set r)⟩
theorem st_num {E:XK}{D:Ends}{σ:St}{f:Str}{lo hi:Nat}(S:St5 t p tx ru b H0 H n fs) (h0:σ[0]?=some (some (.ref p))) (h1:σ[1]?=some (some (.ref ru))) (hl:fs.length<1000) (hlo:0<lo) (hhi:hi<100000)
  (ok:∀v n1 H1,Tafl.number lo hi (cur b n)=.ok (v,cur b n1)->St5 t p tx ru b H0 H1 n1 (putF f (.int (v:Nat)) fs)->D.nx σ H1) (er:∀n1 H1,Tafl.number lo hi (cur b n)=.error n1->St5 t p tx ru b H0 H1 n1 fs->E (.ref t.C_Stuck) none H1) :
  sF t.C_Rules f (tVar 1) (tMethS t.C_Scan "take_number" (sp_Scan_take_number t) [] (λ_=>E) (tVar 0) (tCons (tC (.int (lo:Nat))) (tCons (tC (.int (hi:Nat))) tNil))) D σ H:=by
 obtain⟨dx,hp⟩:=S.scan
 refine⟨_,h0,p,dx,_,rfl,hp,rfl,p,tx,b,n,lo,hi,rfl,hlo,hhi,S.scan,S.text,λv n1 H1 e s br=>?_,λn1 H1 e s br=>er n1 H1 e (S.go s br)⟩
 have S1:=S.go s br
 obtain⟨dr,r⟩:=S1.rul
 exact⟨_,h1,ru,dr,fs,rfl,r,hl,ok v n1 _ e (S1.set r)⟩
def Kp (ks:List Str) (fs fs':List (Str×V)):Prop:=∀f,f∉ks->fs'.lookup f=fs.lookup f
theorem Kp.refl (ks:List Str) (fs:List (Str×V)):Kp ks fs fs:=λ_ _=>rfl
theorem Kp.put {ks:List Str}{fs fs':List (Str×V)}{f:Str}{v:V}(h:Kp ks fs fs') (m:f∈ks):Kp ks fs (putF f v fs'):=λg hg=>by
 rw[lookup_putF,if_neg (λz:g=f=>hg (z▸m))];exact h g hg
theorem put_at (f:Str) (v:V) (fs:List (Str×V)):(putF f v fs).lookup f=some v:=by rw[lookup_putF,if_pos rfl]
theorem put_off {f g:Str}{v:V}{fs:List (Str×V)}(h:¬g=f):(putF f v fs).lookup g=fs.lookup g:=by rw[lookup_putF,if_neg h]
end
def RuDoes (t:Adr){α:Type}(g:Tafl.Cur->Except Nat (α×Tafl.Cur)) (ks:List Str) (k:Nat) (F:α->List (Str×V)->Prop):Sp:=λvs H Q E=>∃(p tx ru:Addr) (b:Tafl.Bytes) (n:Nat) (fs:List (Str×V)),vs=[.ref p,.ref ru]/\St5 t p tx ru b H H n fs/\fs.length<=100 /\
 (∀v n' H' fs',g (cur b n)=.ok (v,cur b n')->St5 t p tx ru b H H' n' fs'->F v fs'->Kp ks fs fs'->fs'.length<=fs.length+k->Q .non H')/\∀n' H' fs',g (cur b n)=.error n'->St5 t p tx ru b H H' n' fs'->E (.ref t.C_Stuck) none H'
section
variable {P:Program}{w:World}{K:PySem.W.Frag}{mg:Str->Option Value}{base:Heap}{t:Adr}
theorem wa_first:WordsAre ["hunters","king"] (["hunters","king"].map Tafl.ascii):=.cons (by decide +kernel) (.cons (by decide +kernel) .nil)
theorem wa_gait:WordsAre ["steps","slides"] (["steps","slides"].map Tafl.ascii):=.cons (by decide +kernel) (.cons (by decide +kernel) .nil)
theorem wa_arms:WordsAre ["bare","armed"] (["bare","armed"].map Tafl.ascii):=.cons (by decide +kernel) (.cons (by decide +kernel) .nil)
theorem wa_takers:WordsAre ["two","four"] (["two","four"].map Tafl.ascii):=.cons (by decide +kernel) (.cons (by decide +kernel) .nil)
theorem wa_way:WordsAre ["barred","passed"] (["barred","passed"].map Tafl.ascii):=.cons (by decide +kernel) (.cons (by decide +kernel) .nil)
theorem wa_enmity:WordsAre ["quiet","hunters","men","all"] (Tafl.ENMITY.map Tafl.ascii):=.cons (by decide +kernel) (.cons (by decide +kernel) (.cons (by decide +kernel) (.cons (by decide +kernel) .nil)))
theorem wa_goal:WordsAre ["edge","exits"] (["edge","exits"].map Tafl.ascii):=.cons (by decide +kernel) (.cons (by decide +kernel) .nil)
theorem wa_thrice:WordsAre ["drawn","hunters","king"] (["drawn","hunters","king"].map Tafl.ascii):=.cons (by decide +kernel) (.cons (by decide +kernel) (.cons (by decide +kernel) .nil))
theorem wa_ground:WordsAre [".","S","X","#"] ([".","S","X","#"].map Tafl.ascii):=.cons (by decide +kernel) (.cons (by decide +kernel) (.cons (by decide +kernel) (.cons (by decide +kernel) .nil)))
theorem wa_piece:WordsAre [".","h","m","K"] ([".","h","m","K"].map Tafl.ascii):=.cons (by decide +kernel) (.cons (by decide +kernel) (.cons (by decide +kernel) (.cons (by decide +kernel) .nil)))
def fPieces:Nat×Nat×Nat×Nat->List (Str×V)->Prop:=λv fs=>fs.lookup ("first":Str)=some (.int (v.1:Nat))
def sp_take_pieces_ways (t:Adr):Sp:=RuDoes t Tm.gPieces ["first","slides","armed","four"] 4 fPieces
theorem sc_take_pieces_ways:qqb ["scan","rules"] ["scan","rules"] (dSc s_take_pieces_ways):=by walk_at "sc9"
theorem ok_take_pieces_ways (T:Txt K mg t):FnOk P w K mg base (CX1 P w) 3 t.f_take_pieces_ways t.d_take_pieces_ways ["scan","rules"] (sp_take_pieces_ways t):=by
 refine T.take_pieces_ways.F.okX sc_take_pieces_ways (λvs H Q E h=>?_) (λcdv A outer s H vs Q E hr h=>?_)
 ·obtain⟨p,tx,ru,b,n,fs,rfl,_⟩:=h;rfl
 obtain⟨p,tx,ru,b,n,fs,rfl,S,hl,k1,k2⟩:=h
 have GT:=ok_Scan_take (P:=P) (w:=w) (base:=base) T
 have GW:=ok_Scan_take_one_of (P:=P) (w:=w) (base:=base) T
 have c:=T.Rules.c
 refine⟨_,psc (qqj (eMR qqc T.Scan.c T.Scan_take GT hr (pv 0) (pac pe_str pan)))
  (psc (eS c T.n_Rules_first (pv 1) (eMR qqc T.Scan.c T.Scan_take_one_of GW hr (pv 0) (pac (eKt T.k_FIRST_WORDS) pan)))
  (psc (qqj (eMR qqc T.Scan.c T.Scan_take GT hr (pv 0) (pac pe_str pan)))
  (psc (eS c T.n_Rules_slides (pv 1) (eMR qqc T.Scan.c T.Scan_take_one_of GW hr (pv 0) (pac (eKt T.k_GAIT_WORDS) pan)))
  (psc (qqj (eMR qqc T.Scan.c T.Scan_take GT hr (pv 0) (pac pe_str pan)))
  (psc (eS c T.n_Rules_armed (pv 1) (eMR qqc T.Scan.c T.Scan_take_one_of GW hr (pv 0) (pac (eKt T.k_ARMS_WORDS) pan)))
  (psc (qqj (eMR qqc T.Scan.c T.Scan_take GT hr (pv 0) (pac pe_str pan)))
  (psc (eS c T.n_Rules_four (pv 1) (eMR qqc T.Scan.c T.Scan_take_one_of GW hr (pv 0) (pac (eKt T.k_TAKERS_WORDS) pan)))
  (pso (qqj (eMR qqc T.Scan.c T.Scan_take GT hr (pv 0) (pac pe_str pan))))))))))),?_⟩
 have hl100:fs.length<=100:=hl
 refine st_take S rfl (ws:=Tafl.ascii "first ") (by decide +kernel) (λn1 H1 e1 S1=>?_) λn1 H1 e1 S1=>k2 n1 H1 _ (by simp only[Tm.gPieces,e1,Tm.bind_ok,Tm.bind_error]) S1
 refine st_word (K:=K) S1 rfl rfl (Nat.lt_of_le_of_lt hl100 (by omega)) wa_first T.k_FIRST_WORDS.s (by decide) (by decide) (λv2 n2 H2 e2 S2=>?_) λn2 H2 e2 S2=>k2 n2 H2 _ (by simp only[Tm.gPieces,e1,e2,Tm.bind_ok,Tm.bind_error]) S2
 refine st_take S2 rfl (ws:=Tafl.ascii "\nking ") (by decide +kernel) (λn3 H3 e3 S3=>?_) λn3 H3 e3 S3=>k2 n3 H3 _ (by simp only[Tm.gPieces,e1,e2,e3,Tm.bind_ok,Tm.bind_error]) S3
 refine st_word (K:=K) S3 rfl rfl (Nat.lt_of_le_of_lt (le_put hl100) (by omega)) wa_gait T.k_GAIT_WORDS.s (by decide) (by decide) (λv4 n4 H4 e4 S4=>?_) λn4 H4 e4 S4=>k2 n4 H4 _ (by simp only[Tm.gPieces,e1,e2,e3,e4,Tm.bind_ok,Tm.bind_error]) S4
 refine st_take S4 rfl (ws:=[32]) (by decide +kernel) (λn5 H5 e5 S5=>?_) λn5 H5 e5 S5=>k2 n5 H5 _ (by simp only[Tm.gPieces,e1,e2,e3,e4,e5,Tm.bind_ok,Tm.bind_error]) S5
 refine st_word (K:=K) S5 rfl rfl (Nat.lt_of_le_of_lt (le_put (le_put hl100)) (by omega)) wa_arms T.k_ARMS_WORDS.s (by decide) (by decide) (λv6 n6 H6 e6 S6=>?_) λn6 H6 e6 S6=>k2 n6 H6 _ (by simp only[Tm.gPieces,e1,e2,e3,e4,e5,e6,Tm.bind_ok,Tm.bind_error]) S6
 refine st_take S6 rfl (ws:=[32]) (by decide +kernel) (λn7 H7 e7 S7=>?_) λn7 H7 e7 S7=>k2 n7 H7 _ (by simp only[Tm.gPieces,e1,e2,e3,e4,e5,e6,e7,Tm.bind_ok,Tm.bind_error]) S7
 refine st_word (K:=K) S7 rfl rfl (Nat.lt_of_le_of_lt (le_put (le_put (le_put hl100))) (by omega)) wa_takers T.k_TAKERS_WORDS.s (by decide) (by decide) (λv8 n8 H8 e8 S8=>?_) λn8 H8 e8 S8=>k2 n8 H8 _ (by simp only[Tm.gPieces,e1,e2,e3,e4,e5,e6,e7,e8,Tm.bind_ok,Tm.bind_error]) S8
 refine st_take S8 rfl (ws:=[Tafl.LF]) (by decide +kernel) (λn9 H9 e9 S9=>?_) λn9 H9 e9 S9=>k2 n9 H9 _ (by simp only[Tm.gPieces,e1,e2,e3,e4,e5,e6,e7,e8,e9,Tm.bind_ok,Tm.bind_error]) S9
 refine k1 (v2,v4,v6,v8) n9 H9 _ (by simp only[Tm.gPieces,e1,e2,e3,e4,e5,e6,e7,e8,e9,Tm.bind_ok];rfl) S9 ?_ (((((Kp.refl _ _).put (by decide)).put (by decide)).put (by decide)).put (by decide)) (le_put (le_put (le_put (le_put (Nat.le_refl _)))))
 unfold fPieces
 rw[put_off (by decide),put_off (by decide),put_off (by decide),put_at]
def fCells:Nat×Nat×Nat->List (Str×V)->Prop:=λv fs=>fs.lookup ("passed":Str)=some (.int (v.1:Nat))/\fs.lookup ("seat":Str)=some (.int (v.2.1:Nat))
def sp_take_cells_ways (t:Adr):Sp:=RuDoes t Tm.gCells ["passed","seat","exits"] 3 fCells
theorem sc_take_cells_ways:qqb ["scan","rules"] ["scan","rules"] (dSc s_take_cells_ways):=by walk_at "sc9"
theorem ok_take_cells_ways (T:Txt K mg t):FnOk P w K mg base (CX1 P w) 3 t.f_take_cells_ways t.d_take_cells_ways ["scan","rules"] (sp_take_cells_ways t):=by
 refine T.take_cells_ways.F.okX sc_take_cells_ways (λvs H Q E h=>?_) (λcdv A outer s H vs Q E hr h=>?_)
 ·obtain⟨p,tx,ru,b,n,fs,rfl,_⟩:=h;rfl
 obtain⟨p,tx,ru,b,n,fs,rfl,S,hl100,k1,k2⟩:=h
 have GT:=ok_Scan_take (P:=P) (w:=w) (base:=base) T
 have GW:=ok_Scan_take_one_of (P:=P) (w:=w) (base:=base) T
 have c:=T.Rules.c
 refine⟨_,psc (qqj (eMR qqc T.Scan.c T.Scan_take GT hr (pv 0) (pac pe_str pan)))
  (psc (eS c T.n_Rules_passed (pv 1) (eMR qqc T.Scan.c T.Scan_take_one_of GW hr (pv 0) (pac (eKt T.k_WAY_WORDS) pan)))
  (psc (qqj (eMR qqc T.Scan.c T.Scan_take GT hr (pv 0) (pac pe_str pan)))
  (psc (eS c T.n_Rules_seat (pv 1) (eMR qqc T.Scan.c T.Scan_take_one_of GW hr (pv 0) (pac (eKt T.k_ENMITY_WORDS) pan)))
  (psc (qqj (eMR qqc T.Scan.c T.Scan_take GT hr (pv 0) (pac pe_str pan)))
  (psc (eS c T.n_Rules_exits (pv 1) (eMR qqc T.Scan.c T.Scan_take_one_of GW hr (pv 0) (pac (eKt T.k_ENMITY_WORDS) pan)))
  (pso (qqj (eMR qqc T.Scan.c T.Scan_take GT hr (pv 0) (pac pe_str pan))))))))),?_⟩
 refine st_take S rfl (ws:=Tafl.ascii "seat ") (by decide +kernel) (λn1 H1 e1 S1=>?_) λn1 H1 e1 S1=>k2 n1 H1 _ (by simp only[Tm.gCells,e1,Tm.bind_ok,Tm.bind_error]) S1
 refine st_word (K:=K) S1 rfl rfl (Nat.lt_of_le_of_lt hl100 (by omega)) wa_way T.k_WAY_WORDS.s (by decide) (by decide) (λv2 n2 H2 e2 S2=>?_) λn2 H2 e2 S2=>k2 n2 H2 _ (by simp only[Tm.gCells,e1,e2,Tm.bind_ok,Tm.bind_error]) S2
 refine st_take S2 rfl (ws:=[32]) (by decide +kernel) (λn3 H3 e3 S3=>?_) λn3 H3 e3 S3=>k2 n3 H3 _ (by simp only[Tm.gCells,e1,e2,e3,Tm.bind_ok,Tm.bind_error]) S3
 refine st_word (K:=K) S3 rfl rfl (Nat.lt_of_le_of_lt (le_put hl100) (by omega)) wa_enmity T.k_ENMITY_WORDS.s (by decide) (by decide) (λv4 n4 H4 e4 S4=>?_) λn4 H4 e4 S4=>k2 n4 H4 _ (by simp only[Tm.gCells,e1,e2,e3,e4,Tm.bind_ok,Tm.bind_error]) S4
 refine st_take S4 rfl (ws:=Tafl.ascii "\nexits ") (by decide +kernel) (λn5 H5 e5 S5=>?_) λn5 H5 e5 S5=>k2 n5 H5 _ (by simp only[Tm.gCells,e1,e2,e3,e4,e5,Tm.bind_ok,Tm.bind_error]) S5
 refine st_word (K:=K) S5 rfl rfl (Nat.lt_of_le_of_lt (le_put (le_put hl100)) (by omega)) wa_enmity T.k_ENMITY_WORDS.s (by decide) (by decide) (λv6 n6 H6 e6 S6=>?_) λn6 H6 e6 S6=>k2 n6 H6 _ (by simp only[Tm.gCells,e1,e2,e3,e4,e5,e6,Tm.bind_ok,Tm.bind_error]) S6
 refine st_take S6 rfl (ws:=[Tafl.LF]) (by decide +kernel) (λn7 H7 e7 S7=>?_) λn7 H7 e7 S7=>k2 n7 H7 _ (by simp only[Tm.gCells,e1,e2,e3,e4,e5,e6,e7,Tm.bind_ok,Tm.bind_error]) S7
 refine k1 (v2,v4,v6) n7 H7 _ (by simp only[Tm.gCells,e1,e2,e3,e4,e5,e6,e7,Tm.bind_ok];rfl) S7 ⟨?_,?_⟩ ((((Kp.refl _ _).put (by decide)).put (by decide)).put (by decide)) (le_put (le_put (le_put (Nat.le_refl _))))
 ·rw[put_off (by decide),put_off (by decide),put_at]
 ·rw[put_off (by decide),put_at]
end
end
section
theorem rest_iff (b:Tafl.Bytes) (n:Nat):(cur b n).rest=[]↔b[n]?=none:=by unfold cur;rw[List.drop_eq_nil_iff,List.getElem?_eq_none_iff]
section
variable {K:PySem.W.Frag}{t:Adr}{p tx ru:Addr}{b:Tafl.Bytes}{H0 H H1:Hp}{n n1:Nat}{fs:List (Str×V)}
theorem st_place {D:Ends}{σ:St}{f:Str}(S:St5 t p tx ru b H0 H n fs) (h0:σ[0]?=some (some (.ref p))) (h1:σ[1]?=some (some (.ref ru))) (hl:fs.length<1000)
  (ok:∀H1,St5 t p tx ru b H0 H1 n (putF f (.int (n:Nat)) fs)->D.nx σ H1):sF t.C_Rules f (tVar 1) (tF t.C_Scan "place" (tVar 0)) D σ H:=by
 obtain⟨dx,hp⟩:=S.scan
 obtain⟨dr,r⟩:=S.rul
 exact⟨_,h0,p,dx,_,_,rfl,hp,scF_place tx n,_,h1,ru,dr,fs,rfl,r,hl,ok _ (S.set r)⟩
theorem st_end {E:XK}{D:Ends}{σ:St}(S:St5 t p tx ru b H0 H n fs) (h0:σ[0]?=some (some (.ref p))) (ok:b[n]?=none->D.nx σ H) (er:b[n]?≠none->E (.ref t.C_Stuck) none H) :
  tDrop (tMethS t.C_Scan "take_end" (sp_Scan_take_end t) [] (λ_=>E) (tVar 0) tNil) D σ H:=by
 obtain⟨dx,hp⟩:=S.scan
 exact⟨_,h0,p,dx,_,rfl,hp,rfl,p,tx,b,n,rfl,S.scan,S.text,ok,er⟩
theorem st_name {E:XK}{D:Ends}{σ:St}(S:St5 t p tx ru b H0 H n fs) (h0:σ[0]?=some (some (.ref p)))
  (ok:∀v n1 H1,Tafl.nameIn (cur b n)=.ok (v,cur b n1)->St5 t p tx ru b H0 H1 n1 fs->D.nx σ H1) (er:∀n1 H1,Tafl.nameIn (cur b n)=.error n1->St5 t p tx ru b H0 H1 n1 fs->E (.ref t.C_Stuck) none H1) :
  tDrop (tCallS (sp_take_name t) [] (λ_=>E) (tCons (tVar 0) tNil)) D σ H :=
 ⟨_,h0,p,tx,b,n,rfl,S.scan,S.text,λv n1 H1 e s br=>ok v n1 H1 e (S.go s br),λn1 H1 e s br=>er n1 H1 e (S.go s br)⟩
theorem st_takeK {E:XK}{D:Ends}{σ:St}{wd:Str}{ws:Tafl.Bytes}(S:St5 t p tx ru b H0 H n fs) (h0:σ[0]?=some (some (.ref p))) (hw:wd.cps.toList=ws.map UInt8.toNat)
  (ok:∀n1 H1,Tafl.lit ws (cur b n)=.ok (cur b n1)->St5 t p tx ru b H0 H1 n1 fs->(∀l ms,MarksAt t H l ms->MarksAt t H1 l ms)->D.nx σ H1) (er:∀n1 H1,Tafl.lit ws (cur b n)=.error n1->St5 t p tx ru b H0 H1 n1 fs->E (.ref t.C_Stuck) none H1) :
  tDrop (tMethS t.C_Scan "take" (sp_Scan_take t) [] (λ_=>E) (tVar 0) (tCons (tC (.str wd)) tNil)) D σ H:=by
 obtain⟨dx,hp⟩:=S.scan
 exact⟨_,h0,p,dx,_,rfl,hp,rfl,p,tx,b,n,wd,ws,rfl,hw,S.scan,S.text,λ_ n1 H1 e s br=>ok n1 H1 (lit_ok e) (S.go s br) λl ms hm=>hm.scan S.scan br,λn1 H1 e s br=>er n1 H1 (lit_err e) (S.go s br)⟩
theorem st_rows {α:Type}{sg:UInt8->Option α}{num:α->Nat}{d:α}{E:XK}{D:Ends}{σ:St}{f:Str}{a:Addr}{wl:List Str}{l:List String}{wd hg:Nat}(S:St5 t p tx ru b H0 H n fs) (h0:σ[0]?=some (some (.ref p))) (h1:σ[1]?=some (some (.ref ru))) (hl:fs.length<1000)
  (hw:WordsAre wl (l.map Tafl.ascii)) (ha:∀H,SqT K H a (wl.map V.str)) (hne:l≠[]) (hten:l.length<=10) (hsg:Tm.SignsOf l sg num) (ew:fs.lookup ("wide":Str)=some (.int (wd:Nat))) (eh:fs.lookup ("high":Str)=some (.int (hg:Nat))) (w13:wd<=13) (h13:hg<=13)
  (ok:∀rows ats n1 H1 lm,Tafl.rowsIn sg wd hg (cur b n)=.ok (rows,ats,cur b n1)->(∀r∈rows,r.length=wd)->St5 t p tx ru b H0 H1 n1 (putF f (.ref lm) fs)->MarksAt t H1 lm (Tm.rowsMarks num d wd hg rows ats hg)->(∀l ms,MarksAt t H l ms->MarksAt t H1 l ms)->D.nx σ H1)
  (er:∀n1 H1,Tafl.rowsIn sg wd hg (cur b n)=.error n1->St5 t p tx ru b H0 H1 n1 fs->E (.ref t.C_Stuck) none H1) :
  sF t.C_Rules f (tVar 1) (tCallS (sp_take_rows sg num d K t) [] (λ_=>E) (tCons (tVar 0) (tCons (tVar 1) (tCons (tC (.ref a)) tNil)))) D σ H:=by
 refine⟨_,h0,_,h1,p,tx,ru,a,b,n,wd,hg,wl,l,fs,rfl,ha,hw,hne,hten,hsg,S.scan,S.text,⟨S.rul,ew,eh⟩,w13,h13,λrows ats n1 H1 lm e wid s br hM=>?_,λn1 H1 e s br=>er n1 H1 e (S.go s br)⟩
 have S1:=S.go s br
 obtain⟨dr,r⟩:=S1.rul
 have keep:∀ {l ms},MarksAt t H1 l ms->MarksAt t (upd H1 ru (.ins t.C_Rules dr (putF f (.ref lm) fs))) l ms:=λ{l ms} hm=>hm.bar .one (by
   obtain⟨as,q,_⟩:=hm
   simpa using ne_of q r (by intro z;cases z)) λc m ⟨dm,q⟩=>by
    refine λz=>?_
    have z:c=ru:=by simpa using z
    rw[z,r]at q
    have e3:=(HO.ins.inj (Option.some.inj q)).2.2
    rw[e3]at ew
    exact absurd ew (by rw[show (mkF m).lookup ("wide":Str)=none from rfl];simp)
 exact⟨_,h1,ru,dr,fs,rfl,r,hl,ok rows ats n1 _ lm e wid (S1.set r) (keep hM) λl ms hm=>keep (hm.scan S.scan br)⟩
end
section
variable {P:Program}{w:World}{K:PySem.W.Frag}{mg:Str->Option Value}{base:Heap}{t:Adr}
def fEnds:Nat×Nat×Nat×Nat->List (Str×V)->Prop:=λv fs=>fs.lookup ("goal_place":Str)=some (.int (v.1:Nat))/\fs.lookup ("goal":Str)=some (.int (v.2.1:Nat))
def sp_take_ends (t:Adr):Sp:=RuDoes t Tm.gEnds ["goal_place","goal","thrice","limit"] 4 fEnds
theorem sc_take_ends:qqb ["scan","rules"] ["scan","rules"] (dSc s_take_ends):=by walk_at "sc9"
theorem ok_take_ends (T:Txt K mg t):FnOk P w K mg base (CX1 P w) 3 t.f_take_ends t.d_take_ends ["scan","rules"] (sp_take_ends t):=by
 refine T.take_ends.F.okX sc_take_ends (λvs H Q E h=>?_) (λcdv A outer s H vs Q E hr h=>?_)
 ·obtain⟨p,tx,ru,b,n,fs,rfl,_⟩:=h;rfl
 obtain⟨p,tx,ru,b,n,fs,rfl,S,hl100,k1,k2⟩:=h
 have GT:=ok_Scan_take (P:=P) (w:=w) (base:=base) T
 have GW:=ok_Scan_take_one_of (P:=P) (w:=w) (base:=base) T
 have c:=T.Rules.c
 refine⟨_,psc (qqj (eMR qqc T.Scan.c T.Scan_take GT hr (pv 0) (pac pe_str pan)))
  (psc (eS c T.n_Rules_goal_place (pv 1) (eF T.Scan.c T.n_Scan_place (pv 0)))
  (psc (eS c T.n_Rules_goal (pv 1) (eMR qqc T.Scan.c T.Scan_take_one_of GW hr (pv 0) (pac (eKt T.k_GOAL_WORDS) pan)))
  (psc (qqj (eMR qqc T.Scan.c T.Scan_take GT hr (pv 0) (pac pe_str pan)))
  (psc (eS c T.n_Rules_thrice (pv 1) (eMR qqc T.Scan.c T.Scan_take_one_of GW hr (pv 0) (pac (eKt T.k_THRICE_WORDS) pan)))
  (psc (qqj (eMR qqc T.Scan.c T.Scan_take GT hr (pv 0) (pac pe_str pan)))
  (psc (eS c T.n_Rules_limit (pv 1) (eMR qqc T.Scan.c T.Scan_take_number (ok_Scan_take_number T) hr (pv 0) (pac pei (pac (eK T.k_MOST_LIMIT) pan))))
  (psc (qqj (eMR qqc T.Scan.c T.Scan_take GT hr (pv 0) (pac pe_str pan)))
  (pso (qqj (eMR0 qqc T.Scan.c T.Scan_take_end (ok_Scan_take_end T) hr (pv 0))))))))))),?_⟩
 refine st_take S rfl (ws:=Tafl.ascii "goal ") (by decide +kernel) (λn1 H1 e1 S1=>?_) λn1 H1 e1 S1=>k2 n1 H1 _ (by simp only[Tm.gEnds,e1,Tm.bind_ok,Tm.bind_error,cur_at]) S1
 refine st_place S1 rfl rfl (Nat.lt_of_le_of_lt hl100 (by omega)) λH2 S2=>?_
 refine st_word (K:=K) S2 rfl rfl (Nat.lt_of_le_of_lt (le_put hl100) (by omega)) wa_goal T.k_GOAL_WORDS.s (by decide) (by decide) (λv3 n3 H3 e3 S3=>?_) λn3 H3 e3 S3=>k2 n3 H3 _ (by simp only[Tm.gEnds,e1,e3,Tm.bind_ok,Tm.bind_error,cur_at]) S3
 refine st_take S3 rfl (ws:=Tafl.ascii "\nthrice ") (by decide +kernel) (λn4 H4 e4 S4=>?_) λn4 H4 e4 S4=>k2 n4 H4 _ (by simp only[Tm.gEnds,e1,e3,e4,Tm.bind_ok,Tm.bind_error,cur_at]) S4
 refine st_word (K:=K) S4 rfl rfl (Nat.lt_of_le_of_lt (le_put (le_put hl100)) (by omega)) wa_thrice T.k_THRICE_WORDS.s (by decide) (by decide) (λv5 n5 H5 e5 S5=>?_) λn5 H5 e5 S5=>k2 n5 H5 _ (by simp only[Tm.gEnds,e1,e3,e4,e5,Tm.bind_ok,Tm.bind_error,cur_at]) S5
 refine st_take S5 rfl (ws:=Tafl.ascii "\nlimit ") (by decide +kernel) (λn6 H6 e6 S6=>?_) λn6 H6 e6 S6=>k2 n6 H6 _ (by simp only[Tm.gEnds,e1,e3,e4,e5,e6,Tm.bind_ok,Tm.bind_error,cur_at]) S6
 refine st_num (lo:=1) (hi:=60000) S6 rfl rfl (Nat.lt_of_le_of_lt (le_put (le_put (le_put hl100))) (by omega)) (by decide) (by decide) (λv7 n7 H7 e7 S7=>?_) λn7 H7 e7 S7=>k2 n7 H7 _ (by simp only[Tm.gEnds,e1,e3,e4,e5,e6,e7,Tm.bind_ok,Tm.bind_error,cur_at]) S7
 refine st_take S7 rfl (ws:=[Tafl.LF]) (by decide +kernel) (λn8 H8 e8 S8=>?_) λn8 H8 e8 S8=>k2 n8 H8 _ (by simp only[Tm.gEnds,e1,e3,e4,e5,e6,e7,e8,Tm.bind_ok,Tm.bind_error,cur_at]) S8
 refine st_end S8 rfl (λz=>?_) λz=>k2 n8 H8 _ (by simp only[Tm.gEnds,e1,e3,e4,e5,e6,e7,e8,Tm.bind_ok,cur_at];rw[if_neg (λq=>z ((rest_iff b n8).mp q))]) S8
 refine k1 (n1,v3,v5,v7) n8 H8 _ (by simp only[Tm.gEnds,e1,e3,e4,e5,e6,e7,e8,Tm.bind_ok,cur_at];rw[if_pos ((rest_iff b n8).mpr z)];rfl) S8 ⟨?_,?_⟩ (((((Kp.refl _ _).put (by decide)).put (by decide)).put (by decide)).put (by decide)) (le_put (le_put (le_put (le_put (Nat.le_refl _)))))
 ·rw[put_off (by decide),put_off (by decide),put_off (by decide),put_at]
 ·rw[put_off (by decide),put_off (by decide),put_at]
structure FGr (t:Adr) (H:Hp) (v:Tm.Grounds) (fs:List (Str×V)) (lg ls:Addr):Prop where
 wide:fs.lookup ("wide":Str)=some (.int (v.2.1:Nat))
 high:fs.lookup ("high":Str)=some (.int (v.2.2.1:Nat))
 ground:fs.lookup ("ground":Str)=some (.ref lg)
 start:fs.lookup ("start":Str)=some (.ref ls)
 gm:MarksAt t H lg (Tm.rowsMarks Tm.kindNum .wall v.2.1 v.2.2.1 v.2.2.2.1 v.2.2.2.2.1 v.2.2.1)
 sm:MarksAt t H ls (Tm.rowsMarks Tm.pieceNum .none v.2.1 v.2.2.1 v.2.2.2.2.2.1 v.2.2.2.2.2.2 v.2.2.1)
 w13:v.2.1<=13
 h13:v.2.2.1<=13
 w5:5<=v.2.1
 h5:5<=v.2.2.1
def sp_take_grounds (t:Adr):Sp:=λvs H Q E=>∃(p tx ru:Addr) (b:Tafl.Bytes) (n:Nat) (fs:List (Str×V)),vs=[.ref p,.ref ru]/\St5 t p tx ru b H H n fs/\fs.length<=100 /\
 (∀v n' H' fs' lg ls,Tm.gGrounds (cur b n)=.ok (v,cur b n')->St5 t p tx ru b H H' n' fs'->FGr t H' v fs' lg ls->fs'.length<=fs.length+4->Q .non H')/\∀n' H' fs',Tm.gGrounds (cur b n)=.error n'->St5 t p tx ru b H H' n' fs'->E (.ref t.C_Stuck) none H'
theorem sc_take_grounds:qqb ["scan","rules"] ["scan","rules"] (dSc s_take_grounds):=by walk_at "sc9"
theorem ok_take_grounds (T:Txt K mg t):FnOk P w K mg base (CX1 P w) 4 t.f_take_grounds t.d_take_grounds ["scan","rules"] (sp_take_grounds t):=by
 refine T.take_grounds.F.okX sc_take_grounds (λvs H Q E h=>?_) (λcdv A outer s H vs Q E hr h=>?_)
 ·obtain⟨p,tx,ru,b,n,fs,rfl,_⟩:=h;rfl
 obtain⟨p,tx,ru,b,n,fs,rfl,S,hl100,k1,k2⟩:=h
 have GT:=ok_Scan_take (P:=P) (w:=w) (base:=base) T
 have GN:=ok_Scan_take_number (P:=P) (w:=w) (base:=base) T
 have c:=T.Rules.c
 have hr2:Room 2 _:=hr.mono (by decide)
 refine⟨_,psc (qqj (eMR qqc T.Scan.c T.Scan_take GT hr2 (pv 0) (pac pe_str pan)))
  (psc (qqj (eCR qqc T.take_name (ok_take_name T) hr2 (pac (pv 0) pan)))
  (psc (qqj (eMR qqc T.Scan.c T.Scan_take GT hr2 (pv 0) (pac pe_str pan)))
  (psc (eS c T.n_Rules_wide (pv 1) (eMR qqc T.Scan.c T.Scan_take_number GN hr2 (pv 0) (pac (eK T.k_LEAST_SIZE) (pac (eK T.k_MOST_SIZE) pan))))
  (psc (qqj (eMR qqc T.Scan.c T.Scan_take GT hr2 (pv 0) (pac pe_str pan)))
  (psc (eS c T.n_Rules_high (pv 1) (eMR qqc T.Scan.c T.Scan_take_number GN hr2 (pv 0) (pac (eK T.k_LEAST_SIZE) (pac (eK T.k_MOST_SIZE) pan))))
  (psc (qqj (eMR qqc T.Scan.c T.Scan_take GT hr2 (pv 0) (pac pe_str pan)))
  (psc (eS c T.n_Rules_ground (pv 1) (eCR qqc T.take_rows (ok_take_rows Tafl.kindSign Tm.kindNum .wall T) hr (pac (pv 0) (pac (pv 1) (pac (eKt T.k_GROUND_SIGNS) pan)))))
  (psc (qqj (eMR qqc T.Scan.c T.Scan_take GT hr2 (pv 0) (pac pe_str pan)))
  (pso (eS c T.n_Rules_start (pv 1) (eCR qqc T.take_rows (ok_take_rows Tafl.pieceSign Tm.pieceNum .none T) hr (pac (pv 0) (pac (pv 1) (pac (eKt T.k_PIECE_SIGNS) pan)))))))))))))),?_⟩
 refine st_take S rfl (ws:=Tafl.ascii "tafl ") (by decide +kernel) (λn1 H1 e1 S1=>?_) λn1 H1 e1 S1=>k2 n1 H1 _ (by simp only[Tm.gGrounds,e1,Tm.bind_ok,Tm.bind_error]) S1
 refine st_name S1 rfl (λv2 n2 H2 e2 S2=>?_) λn2 H2 e2 S2=>k2 n2 H2 _ (by simp only[Tm.gGrounds,e1,e2,Tm.bind_ok,Tm.bind_error]) S2
 refine st_take S2 rfl (ws:=[32]) (by decide +kernel) (λn3 H3 e3 S3=>?_) λn3 H3 e3 S3=>k2 n3 H3 _ (by simp only[Tm.gGrounds,e1,e2,e3,Tm.bind_ok,Tm.bind_error]) S3
 refine st_num (lo:=5) (hi:=13) S3 rfl rfl (Nat.lt_of_le_of_lt hl100 (by omega)) (by decide) (by decide) (λv4 n4 H4 e4 S4=>?_) λn4 H4 e4 S4=>k2 n4 H4 _ (by simp only[Tm.gGrounds,e1,e2,e3,e4,Tm.bind_ok,Tm.bind_error]) S4
 refine st_take S4 rfl (ws:=[32]) (by decide +kernel) (λn5 H5 e5 S5=>?_) λn5 H5 e5 S5=>k2 n5 H5 _ (by simp only[Tm.gGrounds,e1,e2,e3,e4,e5,Tm.bind_ok,Tm.bind_error]) S5
 refine st_num (lo:=5) (hi:=13) S5 rfl rfl (Nat.lt_of_le_of_lt (le_put hl100) (by omega)) (by decide) (by decide) (λv6 n6 H6 e6 S6=>?_) λn6 H6 e6 S6=>k2 n6 H6 _ (by simp only[Tm.gGrounds,e1,e2,e3,e4,e5,e6,Tm.bind_ok,Tm.bind_error]) S6
 refine st_take S6 rfl (ws:=Tafl.ascii "\nground\n") (by decide +kernel) (λn7 H7 e7 S7=>?_) λn7 H7 e7 S7=>k2 n7 H7 _ (by simp only[Tm.gGrounds,e1,e2,e3,e4,e5,e6,e7,Tm.bind_ok,Tm.bind_error]) S7
 have b4:=Tm.number_within (by decide) e4
 have b6:=Tm.number_within (by decide) e6
 refine st_rows (K:=K) (wd:=v4) (hg:=v6) S7 rfl rfl (Nat.lt_of_le_of_lt (le_put (le_put hl100)) (by omega)) wa_ground T.k_GROUND_SIGNS.s (by decide) (by decide) Tm.kind_signs (by rw[put_off (by decide),put_at]) (put_at ..) b4.2 b6.2
  (λg8 gp8 n8 H8 lg e8 wid8 S8 M8 keep8=>?_) λn8 H8 e8 S8=>k2 n8 H8 _ (by simp only[Tm.gGrounds,e1,e2,e3,e4,e5,e6,e7,e8,Tm.bind_ok,Tm.bind_error]) S8
 refine st_takeK S8 rfl (ws:=Tafl.ascii "start\n") (by decide +kernel) (λn9 H9 e9 S9 keep9=>?_) λn9 H9 e9 S9=>k2 n9 H9 _ (by simp only[Tm.gGrounds,e1,e2,e3,e4,e5,e6,e7,e8,e9,Tm.bind_ok,Tm.bind_error]) S9
 refine st_rows (K:=K) (wd:=v4) (hg:=v6) S9 rfl rfl (Nat.lt_of_le_of_lt (le_put (le_put (le_put hl100))) (by omega)) wa_piece T.k_PIECE_SIGNS.s (by decide) (by decide) Tm.piece_signs (by rw[put_off (by decide),put_off (by decide),put_at]) (by rw[put_off (by decide),put_at]) b4.2 b6.2
  (λs10 sp10 n10 H10 ls e10 wid10 S10 M10 keep10=>?_) λn10 H10 e10 S10=>k2 n10 H10 _ (by simp only[Tm.gGrounds,e1,e2,e3,e4,e5,e6,e7,e8,e9,e10,Tm.bind_ok,Tm.bind_error]) S10
 refine k1 (v2,v4,v6,g8,gp8,s10,sp10) n10 H10 _ lg ls (by simp only[Tm.gGrounds,e1,e2,e3,e4,e5,e6,e7,e8,e9,e10,Tm.bind_ok];rfl) S10 ⟨?_,?_,?_,put_at ..,keep10 _ _ (keep9 _ _ M8),M10,b4.2,b6.2,b4.1,b6.1⟩ (le_put (le_put (le_put (le_put (Nat.le_refl _)))))
 ·rw[put_off (by decide),put_off (by decide),put_off (by decide),put_at]
 ·rw[put_off (by decide),put_off (by decide),put_at]
 ·rw[put_off (by decide),put_at]
end
end
def kvsOf (gm:List Tm.Mk):List (Key×V):=gm.map λm=>(Sum.inl (m.2.1:Int),V.int (m.2.2:Int))
def kdOf (gm:List Tm.Mk) (c:Nat):Option Nat:=(gm.find? λm=>decide (m.2.1=c)).map λm=>m.2.2
def KindsAt (H:Hp) (d:Addr) (gm:List Tm.Mk):Prop:=Rd H d (.dK (kvsOf gm))
theorem kvs_val (gm:List Tm.Mk) (c:Nat):valV (kvsOf gm) (Sum.inl (c:Int):Key)=(kdOf gm c).map λk=>V.int (k:Int):=by
 induction gm with
 | nil=>rfl
 | cons m r ih =>
  by_cases e:m.2.1=c
  ·have e1:((Sum.inl (m.2.1:Int):Key),V.int (m.2.2:Int)).1=(Sum.inl (c:Int):Key):=by rw[e]
   show valV ((Sum.inl (m.2.1:Int),V.int (m.2.2:Int))::kvsOf r) _=_
   rw[valV_pos e1]
   unfold kdOf
   rw[List.find?_cons,decide_eq_true e]
   rfl
  ·have e1:¬((Sum.inl (m.2.1:Int):Key),V.int (m.2.2:Int)).1=(Sum.inl (c:Int):Key):=λz=>e (by have:=Sum.inl.inj z;omega)
   show valV ((Sum.inl (m.2.1:Int),V.int (m.2.2:Int))::kvsOf r) _=_
   rw[valV_neg e1,ih]
   unfold kdOf
   rw[List.find?_cons,decide_eq_false e]
theorem KindsAt.get {H:Hp}{d:Addr}{gm:List Tm.Mk}(h:KindsAt H d gm) (c:Nat):DGet H d (.int (c:Int)) ((kdOf gm c).map λk=>V.int (k:Int)):=.inl ⟨kvsOf gm,Sum.inl (c:Int),h,rfl,(kvs_val gm c).symm⟩
theorem KindsAt.same {H H':Hp}{d:Addr}{gm:List Tm.Mk}(h:KindsAt H d gm) (b:Bar [] H H'):KindsAt H' d gm:=by
 rcases h with h | ⟨o,h⟩
 ·exact .inl (b.same h)
 ·exact .inr ⟨o,b.same h⟩
def sp_may_stand:Sp:=λvs H Q _=>∃(d:Addr) (gm:List Tm.Mk) (c p:Nat),vs=[.ref d,.int (c:Int),.int (p:Int)]/\KindsAt H d gm/\Q (.bl (Tm.mayStandN (kdOf gm c) p)) H
theorem sc_may_stand:qqb ["kinds","cell","piece"] ["kinds","cell","piece"] (dSc s_may_stand):=by walk_at "sc9"
theorem ok_may_stand (T:Txt K mg t):FnOk P w K mg base (CX1 P w) 1 t.f_may_stand t.d_may_stand ["kinds","cell","piece"] sp_may_stand:=by
 refine T.may_stand.F.okX sc_may_stand (λvs H Q E h=>?_) (λcdv A outer s H vs Q E hr h=>?_)
 ·obtain⟨d,gm,c,p,rfl,_⟩:=h;rfl
 obtain⟨d,gm,c,p,rfl,hk,k⟩:=h
 have hu:=hu_of hr
 have g:=hk.get c
 refine⟨_,psc (ps_if (pt_cmp (pc_dnotin hu (pv 1) (pv 0))) (pso (qqe pe_bl)) qqi) (psc (ps_if (qqh op_eq (pe_dget hu (pv 0) (pv 1) (λ_ _=>rfl)) (eK T.k_PLAIN) (qqg _)) (pso (qqe pe_bl)) qqi)
  (pso (qqe (pe_and (pe_cmpR op_eq (pv 2) (eK T.k_KING) (qqg _)) (pe_one (pe_cmpR op_ne (pe_dget hu (pv 0) (pv 1) (λ_ _=>rfl)) (eK T.k_WALL) (qqg _))))))),?_⟩
 walk_at "rd"
 refine⟨_,g,?_⟩
 unfold Tm.mayStandN at k
 cases e:kdOf gm c with
 | none =>
  rw[e]at k
  exact k
 | some q =>
  rw[e]at k g
  rw[if_neg (by simp)]
  refine⟨_,g,rfl,?_⟩
  simp only at k
  by_cases z:q=0
  ·rw[if_pos (by rw[z];rfl)]
   rw[if_pos z]at k;exact k
  ·rw[if_neg (by intro y;exact z (by have:=V.int.inj y;omega))]
   rw[if_neg z]at k
   by_cases y:p=3
   ·rw[if_pos (by omega)]
    refine⟨_,g,rfl,?_⟩
    rw[decide_eq_true y,Bool.true_and]at k
    have e2:decide (V.int (q:Int)=V.int 3)=decide (q=3):=decide_eq_decide.mpr ⟨λy=>by have:=V.int.inj y;omega,λy=>by rw[y];rfl⟩
    rw[e2];exact k
   ·rw[if_neg (by omega)]
    rw[decide_eq_false y,Bool.false_and]at k;exact k
def sp_marks_with (t:Adr):Sp:=λvs H Q _=>∃(l:Addr) (ms:List Tm.Mk) (k:Nat),vs=[.ref l,.int (k:Int)]/\MarksAt t H l ms/\ms.length<=1000/\∀H' l',Bar [] H H'->MarksAt t H' l' (Tm.withSign ms k)->Q (.ref l') H'
theorem sc_marks_with:qqb ["marks","sign","mark"] ["marks","sign"] (dSc s_marks_with):=by walk_at "sc9"
def ivMW (t:Adr) (H:Hp) (D:Addr) (as:List Addr) (ms:List Tm.Mk) (k j:Nat) (H':Hp):Prop:=∃bs:List Addr,H'=upd H D (.lst (bs.map V.ref))/\Paired (MarkAt t H) bs (Tm.withSign (ms.take j) k)
theorem refs_at' {as:List Addr}{j:Nat}{x:V}(h:(as.map V.ref)[j]?=some x):∃a,as[j]?=some a/\x=.ref a:=by
 rw[List.getElem?_map]at h
 obtain⟨i,h1,h2⟩:=Option.map_eq_some_iff.mp h
 exact⟨i,h1,h2.symm⟩
theorem ok_marks_with (T:Txt K mg t):FnOk P w K mg base (CX1 P w) 1 t.f_marks_with t.d_marks_with ["marks","sign"] (sp_marks_with t):=by
 refine T.marks_with.F.okX sc_marks_with (λvs H Q E h=>?_) (λcdv A outer s H vs Q E hr h=>?_)
 ·obtain⟨l,ms,k,rfl,_⟩:=h;rfl
 obtain⟨l,ms,k,rfl,⟨as,hl,hp⟩,hlen,kk⟩:=h
 have nd:=sc_marks_with.nd
 have hlen2:as.length=ms.length:=Paired.length hp
 refine⟨_,pso (qqe (pe_lc (own:=[("mark",2)]) rfl nd (pi_list (pv 0)) (blkOk_by rfl) (λs H C cl fp=>pg_name (i:=2) nd rfl (Or.inl rfl)) (λs H C cl fp=>pts_one (qqh op_eq (eF T.Mark.c T.n_Mark_sign (pv 2)) (pv 1) (qqg _))) (λs H C cl fp=>pv 2))),?_⟩
 refine⟨_,rfl,l,rfl,⟨_,SqL.of hl⟩,λD hD=>lc_list (K:=K) (a:=l) (xs:=as.map V.ref) (ivMW t H D as ms k) ⟨[],rfl,.nil⟩ ?_ ?_ ?_⟩
 ·rintro j H3 _ ⟨bs,rfl,_⟩
  exact SqL.of (by rw[qqa (nen hl hD)];exact hl)
 ·rintro j x H3 hx ⟨bs,rfl,hb⟩
  obtain⟨a,ha,rfl⟩:=refs_at' hx
  obtain⟨m,hm,dm,hma⟩:=PAt hp ha
  have hma':(upd H D (.lst (bs.map V.ref))) a=some (.ins t.C_Mark dm (mkF m)):=by rw[qqa (nen hma hD)];exact hma
  walk_at "rd"
  have tk:ms.take (j+1)=ms.take j++[m]:=take_snoc' hm
  have few:bs.length<=1000:=by
   rw[Paired.length hb]
   exact Nat.le_trans (List.length_filter_le _ _) (Nat.le_trans (by rw[List.length_take];exact Nat.min_le_right _ _) hlen)
  refine⟨dm,_,hma',_,mkF_sign m,rfl,?_⟩
  by_cases z:m.2.2=k
  ·rw[if_pos (by rw[z])]
   refine⟨_,ups,by rw[List.length_map];exact small1000 few,bs++[a],?_,?_⟩
   ·rw[upd_upd,List.map_append];rfl
   ·rw[tk];unfold Tm.withSign;rw[List.filter_append,List.filter_cons,if_pos (decide_eq_true z)]
    exact PSnoc ⟨dm,hma⟩ hb
  ·rw[if_neg (by intro y;exact z (by have:=V.int.inj y;omega))]
   refine⟨bs,rfl,?_⟩
   rw[tk];unfold Tm.withSign;rw[List.filter_append,List.filter_cons,if_neg (by rw[decide_eq_false z];decide)]
   simpa[Tm.withSign] using hb
 ·rintro H3 ⟨bs,rfl,hb⟩
  rw[List.length_map,hlen2,List.take_length]at hb
  exact kk _ D (.new hD) ⟨bs,ups,PImp hb λa m _ ⟨dm,q⟩=>⟨dm,by rw[qqa (nen q hD)];exact q⟩⟩
structure RD where
 wide:Nat
 high:Nat
 gm:List Tm.Mk
 sm:List Tm.Mk
 first:Nat
 passed:Nat
 seat:Nat
 goal:Nat
 goalAt:Nat
 len:Nat
structure RuF (fs:List (Str×V)) (d:RD) (lg ls dk:Addr):Prop where
 wide:fs.lookup ("wide":Str)=some (.int (d.wide:Int))
 high:fs.lookup ("high":Str)=some (.int (d.high:Int))
 ground:fs.lookup ("ground":Str)=some (.ref lg)
 start:fs.lookup ("start":Str)=some (.ref ls)
 kinds:fs.lookup ("kinds":Str)=some (.ref dk)
 first:fs.lookup ("first":Str)=some (.int (d.first:Int))
 passed:fs.lookup ("passed":Str)=some (.int (d.passed:Int))
 seat:fs.lookup ("seat":Str)=some (.int (d.seat:Int))
 goal:fs.lookup ("goal":Str)=some (.int (d.goal:Int))
 goal_place:fs.lookup ("goal_place":Str)=some (.int (d.goalAt:Int))
 length:fs.lookup ("length":Str)=some (.int (d.len:Int))
structure RG (d:RD):Prop where
 w:5<=d.wide/\d.wide<=13
 h:5<=d.high/\d.high<=13
 gl:d.gm.length<=169
 sl:d.sm.length<=169
 cells:∀m∈d.sm,kdOf d.gm m.2.1≠none
structure RAt (t:Adr) (H:Hp) (ru:Addr) (d:RD):Prop where
 good:RG d
 ex:∃dx fs lg ls dk,H ru=some (.ins t.C_Rules dx fs)/\RuF fs d lg ls dk/\MarksAt t H lg d.gm/\MarksAt t H ls d.sm/\KindsAt H dk d.gm
theorem RAt.same {t:Adr}{H H':Hp}{ru:Addr}{d:RD}(r:RAt t H ru d) (b:Bar [] H H'):RAt t H' ru d:=by
 obtain⟨dx,fs,lg,ls,dk,h1,h2,h3,h4,h5⟩:=r.ex
 exact⟨r.good,dx,fs,lg,ls,dk,b.same h1,h2,h3.same b,h4.same b,h5.same b⟩
def sp_is_on_edge (t:Adr):Sp:=λvs H Q _=>∃(ru:Addr) (d:RD) (c:Nat),vs=[.ref ru,.int (c:Int)]/\RAt t H ru d/\Q (.bl (Tm.onEdgeN d.wide d.high c)) H
theorem sc_is_on_edge:qqb ["rules","cell","x","y"] ["rules","cell"] (dSc s_is_on_edge):=by walk_at "sc9"
theorem ok_is_on_edge (T:Txt K mg t):FnOk P w K mg base (CX1 P w) 1 t.f_is_on_edge t.d_is_on_edge ["rules","cell"] (sp_is_on_edge t):=by
 refine T.is_on_edge.F.okX sc_is_on_edge (λvs H Q E h=>?_) (λcdv A outer s H vs Q E hr h=>?_)
 ·obtain⟨ru,d,c,rfl,_⟩:=h;rfl
 obtain⟨ru,d,c,rfl,hR,k⟩:=h
 have nd:=sc_is_on_edge.nd
 obtain⟨dx,fs,lg,ls,dk,hru,F,_⟩:=hR.ex
 have hw:=hR.good.w
 have hh:=hR.good.h
 refine⟨_,psc (qqd (i:=2) nd rfl (Or.inl rfl) (pe_op op_mod (pv 1) (eK T.k_ROW_STEP))) (psc (qqd (i:=3) nd rfl (Or.inl rfl) (pe_op op_fdiv (pv 1) (eK T.k_ROW_STEP)))
  (pso (qqe (pe_or (pe_cmpR op_eq (pv 2) pei (qqg _)) (pe_or (pe_cmpR op_eq (pv 3) pei (qqg _)) (pe_or (pe_cmpR op_eq (pv 2) (pe_op op_sub (eF T.Rules.c T.n_Rules_wide (pv 0)) pei) (qqg _)) (pe_one (pe_cmpR op_eq (pv 3) (pe_op op_sub (eF T.Rules.c T.n_Rules_high (pv 0)) pei) (qqg _))))))))),?_⟩
 walk_at "rd"
 refine⟨by decide,⟨by decide,by decide⟩,?_⟩
 have fin:∀q:Bool,q=Tm.onEdgeN d.wide d.high c->Q (.bl q) H:=λq e=>by rw[e];exact k
 have on:Tm.onEdgeN d.wide d.high c=decide (c % 13=0\/c / 13=0\/c % 13+1=d.wide\/c / 13+1=d.high):=by
  unfold Tm.onEdgeN;simp only[Bool.decide_or]
 rw[on]at fin
 refine ite2 (λz=>fin _ (decide_eq_true (by omega)).symm) λz=>ite2 (λz2=>fin _ (decide_eq_true (by omega)).symm) λz2=>?_
 refine⟨dx,fs,hru,_,F.wide,_,rfl,ite2 (λz3=>fin _ ?_) λz3=>?_⟩
 ·exact (decide_eq_true (by omega)).symm
 ·refine⟨dx,fs,hru,_,F.high,_,rfl,fin _ ?_⟩
  exact decide_eq_decide.mpr (by omega)
def sp_may_begin (t:Adr):Sp:=λvs H Q _=>∃(ru a:Addr) (d:RD) (m:Tm.Mk),vs=[.ref ru,.ref a]/\RAt t H ru d/\MarkAt t H a m/\kdOf d.gm m.2.1≠none/\Q (.bl (Tm.mayBeginN (kdOf d.gm) m)) H
theorem sc_may_begin:qqb ["rules","mark"] ["rules","mark"] (dSc s_may_begin):=by walk_at "sc9"
theorem ok_may_begin (T:Txt K mg t):FnOk P w K mg base (CX1 P w) 2 t.f_may_begin t.d_may_begin ["rules","mark"] (sp_may_begin t):=by
 refine T.may_begin.F.okX sc_may_begin (λvs H Q E h=>?_) (λcdv A outer s H vs Q E hr h=>?_)
 ·obtain⟨ru,a,d,m,rfl,_⟩:=h;rfl
 obtain⟨ru,a,d,m,rfl,hR,⟨dm,hm⟩,hne,k⟩:=h
 have hu:=hu_of hr
 obtain⟨dx,fs,lg,ls,dk,hru,F,_,_,hk⟩:=hR.ex
 obtain⟨q,hq⟩:∃q,kdOf d.gm m.2.1=some q:=by
  cases e:kdOf d.gm m.2.1 with
  | none=>exact absurd e hne
  | some q=>exact⟨q,rfl⟩
 have g:=hk.get m.2.1
 rw[hq]at g
 refine⟨_,psc (ps_if (qqh op_eq (eF T.Mark.c T.n_Mark_sign (pv 1)) (eK T.k_NOBODY) (qqg _)) (pso (qqe pe_bl)) qqi)
  (psc (ps_if (PW.pt (pw_and (qqh op_eq (eF T.Mark.c T.n_Mark_sign (pv 1)) (eK T.k_KING) (qqg _)) (pw_and1 (qqh op_eq (pe_dget hu (eF T.Rules.c T.n_Rules_kinds (pv 0)) (eF T.Mark.c T.n_Mark_cell (pv 1)) (λ_ _=>rfl)) (eK T.k_EXIT) (qqg _))))) (pso (qqe pe_bl)) qqi)
  (pso (qqe (eC T.may_stand (ok_may_stand T) hr (pac (eF T.Rules.c T.n_Rules_kinds (pv 0)) (pac (eF T.Mark.c T.n_Mark_cell (pv 1)) (pac (eF T.Mark.c T.n_Mark_sign (pv 1)) pan))))))),?_⟩
 walk_at "rd"
 refine⟨dm,_,hm,_,mkF_sign m,rfl,?_⟩
 unfold Tm.mayBeginN at k
 by_cases z:m.2.2=0
 ·rw[if_pos (by rw[z];rfl)]
  rw[if_pos z]at k;exact k
 rw[if_neg (by intro y;exact z (by have:=V.int.inj y;omega))]
 rw[if_neg z]at k
 refine⟨dm,_,hm,_,mkF_sign m,rfl,?_⟩
 by_cases y:m.2.2=3
 ·rw[if_pos (by rw[y];rfl)]
  refine⟨dx,fs,hru,_,F.kinds,dm,_,hm,_,mkF_cell m,dk,rfl,_,g,rfl,?_⟩
  by_cases x:q=2
  ·rw[if_pos (by rw[x];rfl)]
   rw[if_pos ⟨y,by rw[hq,x]⟩]at k;exact k
  ·rw[if_neg (by intro v;exact x (by have:=V.int.inj v;omega))]
   rw[if_neg (λv=>x (by rw[hq]at v;exact Option.some.inj v.2))]at k
   exact⟨dx,fs,hru,_,F.kinds,dm,_,hm,_,mkF_cell m,dm,_,hm,_,mkF_sign m,dk,d.gm,m.2.1,m.2.2,rfl,hk,k⟩
 ·rw[if_neg (by intro v;exact y (by have:=V.int.inj v;omega))]
  rw[if_neg (λv=>y v.1)]at k
  exact⟨dx,fs,hru,_,F.kinds,dm,_,hm,_,mkF_cell m,dm,_,hm,_,mkF_sign m,dk,d.gm,m.2.1,m.2.2,rfl,hk,k⟩
def sp_is_goal_amiss (t:Adr):Sp:=λvs H Q _=>∃(ru:Addr) (d:RD),vs=[.ref ru]/\RAt t H ru d/\∀H',Bar [] H H'->Q (.bl (Tm.goalAmissN d.gm d.sm d.wide d.high d.goal)) H'
theorem sc_is_goal_amiss:qqb ["rules","kings"] ["rules"] (dSc s_is_goal_amiss):=by walk_at "sc9"
theorem MarksAt.len {t:Adr}{H:Hp}{l:Addr}{ms:List Tm.Mk}(h:MarksAt t H l ms):∃xs:List V,H l=some (.lst xs)/\xs.length=ms.length:=by
 obtain⟨as,h1,h2⟩:=h
 exact⟨_,h1,by rw[List.length_map];exact Paired.length h2⟩
theorem ok_is_goal_amiss (T:Txt K mg t):FnOk P w K mg base (CX1 P w) 2 t.f_is_goal_amiss t.d_is_goal_amiss ["rules"] (sp_is_goal_amiss t):=by
 refine T.is_goal_amiss.F.okX sc_is_goal_amiss (λvs H Q E h=>?_) (λcdv A outer s H vs Q E hr h=>?_)
 ·obtain⟨ru,d,rfl,_⟩:=h;rfl
 obtain⟨ru,d,rfl,hR,k⟩:=h
 have nd:=sc_is_goal_amiss.nd
 obtain⟨dx,fs,lg,ls,dk,hru,F,hg,hs,hk⟩:=hR.ex
 have G:=hR.good
 refine⟨_,psc (ps_if (qqh op_eq (eF T.Rules.c T.n_Rules_goal (pv 0)) (eK T.k_EXITS) (qqg _)) (pso (qqe (pe_cmpR op_eq (pe_callB call_len_seq (by rfl) T.o_len PySem.boot_len (pac (eC T.marks_with (ok_marks_with T) hr (pac (eF T.Rules.c T.n_Rules_ground (pv 0)) (pac (eK T.k_EXIT) pan))) pan)) pei (qqg _)))) qqi)
  (psc (qqd (i:=1) nd rfl (Or.inl rfl) (eC T.marks_with (ok_marks_with T) hr (pac (eF T.Rules.c T.n_Rules_start (pv 0)) (pac (eK T.k_KING) pan))))
  (pso (qqe (pe_and (pe_cmpR op_gt (pe_callB call_len_seq (by rfl) T.o_len PySem.boot_len (pac (pv 1) pan)) pei (qqg _)) (pe_one (eC T.is_on_edge (ok_is_on_edge T) hr (pac (pv 0) (pac (eF T.Mark.c T.n_Mark_cell (pe_ix ix_list (pv 1) pei (λ_ _=>rfl))) pan)))))))),?_⟩
 walk_at "rd"
 refine⟨dx,fs,hru,_,F.goal,rfl,?_⟩
 unfold Tm.goalAmissN at k
 by_cases z:d.goal=1
 ·rw[if_pos (by rw[z];rfl)]
  rw[if_pos z]at k
  refine⟨dx,fs,hru,_,F.ground,lg,d.gm,2,rfl,hg,Nat.le_trans G.gl (by decide),λH' l' b hM=>?_⟩
  obtain⟨xs,h1,h2⟩:=hM.len
  refine⟨l',rfl,xs,.inl (SqL.of h1),?_⟩
  have e:decide ((xs.length:Int)=0)=decide ((Tm.withSign d.gm 2).length=0):=decide_eq_decide.mpr (by omega)
  rw[e];exact k H' b
 ·rw[if_neg (by intro y;exact z (by have:=V.int.inj y;omega))]
  rw[if_neg z]at k
  refine⟨dx,fs,hru,_,F.start,ls,d.sm,3,rfl,hs,Nat.le_trans G.sl (by decide),λH' l' b hM=>?_⟩
  obtain⟨as,h1,h2⟩:=hM
  refine⟨l',rfl,_,.inl (SqL.of h1),?_⟩
  cases e:Tm.withSign d.sm 3 with
  | nil =>
   rw[e]at h2 k
   cases h2
   exact k H' b
  | cons m r =>
   rw[e]at h2 k
   cases h2 with
   | cons q q2 =>
    rename_i a as'
    obtain⟨dm,hm⟩:=q
    rw[if_pos (by simp)]
    exact⟨l',rfl,_,SqL.of h1,_,atI_nat (j:=0) rfl,a,rfl,dm,_,hm,_,mkF_cell m,ru,d,m.2.1,rfl,hR.same b,k H' b⟩
def sp_is_something_missing (t:Adr):Sp:=λvs H Q _=>∃(ru:Addr) (d:RD),vs=[.ref ru]/\RAt t H ru d/\∀H',Bar [] H H'->Q (.bl (Tm.missingN d.gm d.sm d.passed d.seat)) H'
theorem sc_is_something_missing:qqb ["rules","needs_seat"] ["rules"] (dSc s_is_something_missing):=by walk_at "sc9"
theorem ok_is_something_missing (T:Txt K mg t):FnOk P w K mg base (CX1 P w) 2 t.f_is_something_missing t.d_is_something_missing ["rules"] (sp_is_something_missing t):=by
 refine T.is_something_missing.F.okX sc_is_something_missing (λvs H Q E h=>?_) (λcdv A outer s H vs Q E hr h=>?_)
 ·obtain⟨ru,d,rfl,_⟩:=h;rfl
 obtain⟨ru,d,rfl,hR,k⟩:=h
 have nd:=sc_is_something_missing.nd
 obtain⟨dx,fs,lg,ls,dk,hru,F,hg,hs,hk⟩:=hR.ex
 have G:=hR.good
 have MW:=ok_marks_with (P:=P) (w:=w) (base:=base) T
 refine⟨_,psc (ps_if (PW.pt (pw_or (qqh op_eq (pe_callB call_len_seq (by rfl) T.o_len PySem.boot_len (pac (eC T.marks_with MW hr (pac (eF T.Rules.c T.n_Rules_start (pv 0)) (pac (eK T.k_KING) pan))) pan)) pei (qqg _))
   (pw_or1 (qqh op_eq (pe_callB call_len_seq (by rfl) T.o_len PySem.boot_len (pac (eC T.marks_with MW hr (pac (eF T.Rules.c T.n_Rules_start (pv 0)) (pac (eK T.k_HUNTER) pan))) pan)) pei (qqg _))))) (pso (qqe pe_bl)) qqi)
  (psc (qqd (i:=1) nd rfl (Or.inl rfl) (pe_or (pe_cmpR op_ne (eF T.Rules.c T.n_Rules_passed (pv 0)) (eK T.k_PASSED) (qqg _)) (pe_one (pe_cmpR op_ne (eF T.Rules.c T.n_Rules_seat (pv 0)) (eK T.k_QUIET) (qqg _)))))
  (pso (qqe (pe_and (pv 1) (pe_one (pe_cmpR op_eq (pe_callB call_len_seq (by rfl) T.o_len PySem.boot_len (pac (eC T.marks_with MW hr (pac (eF T.Rules.c T.n_Rules_ground (pv 0)) (pac (eK T.k_SEAT) pan))) pan)) pei (qqg _))))))),?_⟩
 walk_at "rd"
 refine⟨dx,fs,hru,_,F.start,ls,d.sm,3,rfl,hs,Nat.le_trans G.sl (by decide),λH1 l1 b1 hM1=>?_⟩
 obtain⟨xs1,h1,e1⟩:=hM1.len
 refine⟨l1,rfl,xs1,.inl (SqL.of h1),?_⟩
 have mis:Tm.missingN d.gm d.sm d.passed d.seat=decide ((Tm.withSign d.sm 3).length=0\/(Tm.withSign d.sm 1).length=0\/((d.passed≠1\/d.seat≠0)/\(Tm.withSign d.gm 1).length=0)):=by
  unfold Tm.missingN;simp only[Bool.decide_or,Bool.decide_and,decide_not]
 rw[mis]at k
 refine ite2 (λz=>?_) λz=>?_
 ·rw[decide_eq_true (by omega)]at k;exact k H1 b1
 refine⟨dx,fs,b1.same hru,_,F.start,ls,d.sm,1,rfl,hs.same b1,Nat.le_trans G.sl (by decide),λH2 l2 b2 hM2=>?_⟩
 obtain⟨xs2,h2,e2⟩:=hM2.len
 refine⟨l2,rfl,xs2,.inl (SqL.of h2),?_⟩
 have b12:=b1.trans b2
 refine ite2 (λz2=>?_) λz2=>?_
 ·rw[decide_eq_true (by omega)]at k;exact k H2 b12
 have seat:∀(n:Bool),n=decide (d.passed≠1\/d.seat≠0)->(if n=true then ∃x x_1,H2 ru=some (.ins t.C_Rules x x_1)/\∃x,List.lookup ("ground":Str) x_1=some x/\sp_marks_with t [x,.int 1] H2 (λv H1=>∃p,v=.ref p/\∃x,(SqL K H1 p x\/SqT K H1 p x)/\Q (.bl (decide ((x.length:Int)=0))) H1) (noX [some (.ref ru),some (.bl n)]) else Q (.bl false) H2):=λn en=>by
  refine ite2 (λy=>?_) λy=>?_
  ·refine⟨dx,fs,b12.same hru,_,F.ground,lg,d.gm,1,rfl,hg.same b12,Nat.le_trans G.gl (by decide),λH3 l3 b3 hM3=>?_⟩
   obtain⟨xs3,h3,e3⟩:=hM3.len
   refine⟨l3,rfl,xs3,.inl (SqL.of h3),?_⟩
   rw[y]at en
   have en:=of_decide_eq_true en.symm
   have e:decide ((xs3.length:Int)=0)=decide ((Tm.withSign d.sm 3).length=0\/(Tm.withSign d.sm 1).length=0\/((d.passed≠1\/d.seat≠0)/\(Tm.withSign d.gm 1).length=0)):=decide_eq_decide.mpr (by omega)
   rw[e];exact k H3 (b12.trans b3)
  ·have y:n=false:=Bool.eq_false_iff.mpr y
   rw[y]at en
   have en:=of_decide_eq_false en.symm
   rw[decide_eq_false (by omega)]at k;exact k H2 b12
 refine⟨dx,fs,b12.same hru,_,F.passed,rfl,?_⟩
 by_cases y:d.passed=1
 ·rw[if_neg (by rw[y];exact λv=>v rfl)]
  refine⟨dx,fs,b12.same hru,_,F.seat,rfl,?_⟩
  by_cases x:d.seat=0
  ·rw[if_neg (by rw[x];exact λv=>v rfl)]
   have q:=seat false (decide_eq_false (by omega)).symm
   rw[if_neg (by decide)]at q;exact q
  ·rw[if_pos (by intro v;exact x (by have:=V.int.inj v;omega))]
   have q:=seat true (decide_eq_true (.inr x)).symm
   rw[if_pos rfl]at q;exact q
 ·rw[if_pos (by intro v;exact y (by have:=V.int.inj v;omega))]
  have q:=seat true (decide_eq_true (.inl y)).symm
  rw[if_pos rfl]at q;exact q
def PairAt (H:Hp) (a:Addr) (f:Nat×Nat):Prop:=H a=some (.tup [.int (f.1:Int),.int (f.2:Int)])
def PairsAt (H:Hp) (l:Addr) (fs:List (Nat×Nat)):Prop:=∃as:List Addr,H l=some (.lst (as.map V.ref))/\Paired (PairAt H) as fs
theorem PairsAt.same {H H':Hp}{l:Addr}{fs:List (Nat×Nat)}(h:PairsAt H l fs) (b:Bar [] H H'):PairsAt H' l fs:=by
 obtain⟨as,h1,h2⟩:=h
 exact⟨as,b.same h1,PImp h2 λa f _ q=>b.same q⟩
theorem PairsAt.cat {H:Hp}{l:Addr}{as bs:List Addr}{fs gs:List (Nat×Nat)}(h1:H l=some (.lst (as.map V.ref))) (h2:Paired (PairAt H) as fs) (h3:Paired (PairAt H) bs gs):PairsAt (upd H l (.lst (as.map V.ref++bs.map V.ref))) l (fs++gs):=by
 have ne:∀ {a:Addr}{f:Nat×Nat},PairAt H a f->PairAt (upd H l (.lst (as.map V.ref++bs.map V.ref))) a f:=λ{a f} q=>by
  unfold PairAt;rw[qqa (ne_of q h1 (by intro z;cases z))];exact q
 refine⟨as++bs,by rw[ups,List.map_append],?_⟩
 have app:∀ {l1:List Addr}{m1:List (Nat×Nat)},Paired (PairAt H) l1 m1->Paired (PairAt (upd H l (.lst (as.map V.ref++bs.map V.ref)))) (l1++bs) (m1++gs):=by
  intro l1 m1 p
  induction p with
  | nil=>exact PImp h3 λa f _ q=>ne q
  | cons r t ih=>exact .cons (ne r) ih
 exact app h2
theorem cut1 (xs:List V):cutV xs (some 1) none=xs.drop 1:=by
 unfold cutV
 cases xs with
 | nil=>rfl
 | cons x r =>
  have e1:HT.sIx (x::r).length 0 (some 1)=1:=by simp[HT.sIx]
  have e2:HT.sIx (x::r).length (x::r).length none=(x::r).length:=rfl
  rw[e1,e2]
  simp
structure IvP (H H':Hp) (D:Addr) (fs:List (Nat×Nat)):Prop where
 at_:PairsAt H' D fs
 bar:Bar [] H H'
theorem IvP.push {H H':Hp}{D p:Addr}{fs:List (Nat×Nat)}{f:Nat×Nat}{as:List Addr}(hD:H D=none) (h1:H' D=some (.lst (as.map V.ref))) (h2:Paired (PairAt H') as fs) (b:Bar [] H H') (hp:H' p=none) :
  (upd H' p (.tup [.int (f.1:Int),.int (f.2:Int)])) D=some (.lst (as.map V.ref))/\IvP H (upd (upd H' p (.tup [.int (f.1:Int),.int (f.2:Int)])) D (.lst (as.map V.ref++[.ref p]))) D (fs++[f]):=by
 have e1:(upd H' p (.tup [.int (f.1:Int),.int (f.2:Int)])) D=some (.lst (as.map V.ref)):=by rw[qqa (nen h1 hp)];exact h1
 have bn:Bar [] H' (upd H' p (.tup [.int (f.1:Int),.int (f.2:Int)])):=.new hp
 refine⟨e1,PairsAt.cat (bs:=[p]) (gs:=[f]) e1 (PImp h2 λa g _ q=>bn.same q) (.cons ups .nil),λc o h _=>?_⟩
 rw[qqa (nen h hD)]
 exact bn.same (b.same h)
def ivPairs (H:Hp) (D:Addr) (k:Nat) (ms:List Tm.Mk) (j:Nat) (H':Hp):Prop:=IvP H H' D ((ms.take j).map λm=>(m.1,k))
theorem pairs_walk {K:PySem.W.Frag}{t:Adr}{a D:Addr}{as:List Addr}{ms:List Tm.Mk}{k:Nat}{v0 v1 v2:Option V}{H:Hp}{Qd:Hp->Prop}(hl:H a=some (.lst (as.map V.ref))) (hp:Paired (MarkAt t H) as ms) (few:ms.length<=1000) (hD:H D=none)
  (hq:∀H',Bar [] H H'->PairsAt H' D (ms.map λm=>(m.1,k))->Qd H') :
  ∃W:Nat->Nat->Hp->Prop,(∃m,W 0 m (upd H D (.lst [])))/\∀i m H,W i m H->((Itl K a).stop i H/\Qd H)\/((Itl K a).go i H/\∃Nx:Hp->Prop,(∀H',Nx H'->∃m',m'<m/\W (i+1) m' H')/\∀x H',(Itl K a).yld i H x H'->gName 2 x (wipe [v0,v1,v2] [2]) H' λσ2 H2=>wipe σ2 [2]=wipe [v0,v1,v2] [2]/\tYes σ2 H2 λb H3 =>
    if b=true then tTup (tCons (tF t.C_Mark "place" (tVar 2)) (tCons (tC (.int (k:Int))) tNil)) σ2 H3 λy H4=>∃acc,H4 D=some (.lst acc)/\acc.length<sizeLine/\Nx (upd H4 D (.lst (acc++[y]))) else Nx H3):=by
 refine lc_list (K:=K) (a:=a) (xs:=as.map V.ref) (ivPairs H D k ms) ⟨⟨[],ups,.nil⟩,.new hD⟩ ?_ ?_ ?_
 ·rintro j H' _ ⟨_,b⟩;exact SqL.of (b.same hl)
 ·rintro j x H' hx ⟨⟨bs,h1,h2⟩,b⟩
  obtain⟨c,hc,rfl⟩:=refs_at' hx
  obtain⟨m,hm,dm,hma⟩:=PAt hp hc
  have len:(bs.map V.ref).length<=1000:=by
   rw[List.length_map,Paired.length h2,List.length_map,List.length_take];omega
  refine⟨rfl,?_⟩
  simp only[tYes,if_true]
  refine⟨_,rfl,c,dm,_,_,rfl,b.same hma,mkF_place m,(by show 2<=sizeLine;decide),λp hp'=>?_⟩
  obtain⟨e1,J⟩:=IvP.push (f:=(m.1,k)) hD h1 h2 b hp'
  refine⟨_,e1,small1000 len,?_⟩
  unfold ivPairs
  rw[take_snoc' hm,List.map_append]
  exact J
 ·rintro H' ⟨h,b⟩
  rw[List.length_map,Paired.length hp,List.take_length]at h
  exact hq H' b h
def ivPairsT (H:Hp) (D:Addr) (d:RD) (j:Nat) (H':Hp):Prop:=IvP H H' D (((d.sm.take j).filter λm=>!Tm.mayBeginN (kdOf d.gm) m).map λm=>(m.1,3))
theorem pairs_walkT {K:PySem.W.Frag}{t:Adr}{a D ru:Addr}{as:List Addr}{d:RD}{v1 v2:Option V}{H:Hp}{Qd:Hp->Prop}(hR:RAt t H ru d) (hl:H a=some (.lst (as.map V.ref))) (hp:Paired (MarkAt t H) as d.sm) (hD:H D=none)
  (hq:∀H',Bar [] H H'->PairsAt H' D ((d.sm.filter λm=>!Tm.mayBeginN (kdOf d.gm) m).map λm=>(m.1,3))->Qd H') :
  ∃W:Nat->Nat->Hp->Prop,(∃m,W 0 m (upd H D (.lst [])))/\∀i m H,W i m H->((Itl K a).stop i H/\Qd H)\/((Itl K a).go i H/\∃Nx:Hp->Prop,(∀H',Nx H'->∃m',m'<m/\W (i+1) m' H')/\∀x H',(Itl K a).yld i H x H'->gName 2 x (wipe [some (.ref ru),v1,v2] [2]) H' λσ2 H2=>wipe σ2 [2]=wipe [some (.ref ru),v1,v2] [2]/\tNot (tB (tCallS (sp_may_begin t) [] noX (tCons (tVar 0) (tCons (tVar 2) tNil)))) σ2 H2 λb H3 =>
    if b=true then tTup (tCons (tF t.C_Mark "place" (tVar 2)) (tCons (tC (.int 3)) tNil)) σ2 H3 λy H4=>∃acc,H4 D=some (.lst acc)/\acc.length<sizeLine/\Nx (upd H4 D (.lst (acc++[y]))) else Nx H3):=by
 refine lc_list (K:=K) (a:=a) (xs:=as.map V.ref) (ivPairsT H D d) ⟨⟨[],ups,.nil⟩,.new hD⟩ ?_ ?_ ?_
 ·rintro j H' _ ⟨_,b⟩;exact SqL.of (b.same hl)
 ·rintro j x H' hx ⟨⟨bs,h1,h2⟩,b⟩
  obtain⟨c,hc,rfl⟩:=refs_at' hx
  obtain⟨m,hm,dm,hma⟩:=PAt hp hc
  have len:(bs.map V.ref).length<=1000:=by
   rw[List.length_map,Paired.length h2,List.length_map]
   have z1:=List.length_filter_le (λm=>!Tm.mayBeginN (kdOf d.gm) m) (d.sm.take j)
   have z2:=hR.good.sl
   rw[List.length_take]at z1
   omega
  refine⟨rfl,_,rfl,_,rfl,ru,c,d,m,rfl,hR.same b,⟨dm,b.same hma⟩,hR.good.cells m (List.mem_of_getElem? hm),_,rfl,?_⟩
  have tk:d.sm.take (j+1)=d.sm.take j++[m]:=take_snoc' hm
  refine ite2 (λz=>?_) λz=>?_
  ·refine⟨_,rfl,c,dm,_,_,rfl,b.same hma,mkF_place m,(by show 2<=sizeLine;decide),λp hp'=>?_⟩
   obtain⟨e1,J⟩:=IvP.push (f:=(m.1,3)) hD h1 h2 b hp'
   refine⟨_,e1,small1000 len,?_⟩
   unfold ivPairsT
   rw[tk,List.filter_append,List.filter_cons,if_pos z,List.map_append]
   exact J
  ·unfold ivPairsT
   rw[tk,List.filter_append,List.filter_cons,if_neg z,List.map_append]
   simpa using (show IvP H H' D _ from⟨⟨bs,h1,h2⟩,b⟩)
 ·rintro H' ⟨h,b⟩
  rw[List.length_map,Paired.length hp,List.take_length]at h
  exact hq H' b h
theorem PDrop {α β:Type}{F:α->β->Prop}:∀ {l:List α}{m:List β},Paired F l m->Paired F (l.drop 1) (m.drop 1)
 | _,_,.nil=>.nil
 | _,_,.cons _ t=>t
def faultsD (d:RD):List (Nat×Nat):=Tm.faultsN d.gm d.sm (kdOf d.gm) d.wide d.high d.goal d.goalAt d.passed d.seat d.len
def sp_faults_of (t:Adr):Sp:=λvs H Q _=>∃(ru:Addr) (d:RD),vs=[.ref ru]/\RAt t H ru d/\∀H' l,Bar [] H H'->PairsAt H' l (faultsD d)->Q (.ref l) H'
theorem sc_faults_of:qqb ["rules","faults","mark"] ["rules"] (dSc s_faults_of):=by walk_at "sc9"
theorem ok_faults_of (T:Txt K mg t):FnOk P w K mg base (CX1 P w) 3 t.f_faults_of t.d_faults_of ["rules"] (sp_faults_of t):=by
 refine T.faults_of.F.okX sc_faults_of (λvs H Q E h=>?_) (λcdv A outer s H vs Q E hr h=>?_)
 ·obtain⟨ru,d,rfl,_⟩:=h;rfl
 obtain⟨ru,d,rfl,hR,kk⟩:=h
 have nd:=sc_faults_of.nd
 have hr1:Room 1 _:=hr.mono (by decide)
 obtain⟨dx,fs,lg,ls,dk,hru,F,hg,hs,hk⟩:=hR.ex
 have G:=hR.good
 have MW:=ok_marks_with (P:=P) (w:=w) (base:=base) T
 refine⟨_,psc (ps_setLc (i:=1) (own:=[("mark",2)]) rfl nd rfl rfl (sw_true rfl rfl rfl rfl) (pi_list (pe_slice sl_list (eC T.marks_with MW hr1 (pac (eF T.Rules.c T.n_Rules_ground (pv 0)) (pac (eK T.k_SEAT) pan))) (po_some pei) po_none)) (blkOk_by rfl) (λs H C cl fp=>pg_name (i:=2) nd rfl (Or.inl rfl)) (λs H C cl fp=>pts_nil) (λs H C cl fp=>pe_tup (pac (eF T.Mark.c T.n_Mark_place (pv 2)) (pac pei pan))))
  (psc (qqj (pe_bm PySem.F.plainAttrs_list PySem.F.slot_list_extend PySem.F.type_list_extend mt_extend (pv 1) (pac (pe_lc (own:=[("mark",2)]) rfl nd (pi_list (eF T.Rules.c T.n_Rules_start (pv 0))) (blkOk_by rfl) (λs H C cl fp=>pg_name (i:=2) nd rfl (Or.inl rfl)) (λs H C cl fp=>pts_one (pt_not (pt_val (eC T.may_begin (ok_may_begin T) hr (pac (pv 0) (pac (pv 2) pan)))))) (λs H C cl fp=>pe_tup (pac (eF T.Mark.c T.n_Mark_place (pv 2)) (pac pei pan)))) pan)))
  (psc (qqj (pe_bm PySem.F.plainAttrs_list PySem.F.slot_list_extend PySem.F.type_list_extend mt_extend (pv 1) (pac (pe_lc (own:=[("mark",2)]) rfl nd (pi_list (pe_slice sl_list (eC T.marks_with MW hr1 (pac (eF T.Rules.c T.n_Rules_start (pv 0)) (pac (eK T.k_KING) pan))) (po_some pei) po_none)) (blkOk_by rfl) (λs H C cl fp=>pg_name (i:=2) nd rfl (Or.inl rfl)) (λs H C cl fp=>pts_nil) (λs H C cl fp=>pe_tup (pac (eF T.Mark.c T.n_Mark_place (pv 2)) (pac pei pan)))) pan)))
  (psc (ps_if (pt_val (eC T.is_goal_amiss (ok_is_goal_amiss T) hr (pac (pv 0) pan))) (pso (qqj (pe_bm PySem.F.plainAttrs_list PySem.F.slot_list_append PySem.F.type_list_append mt_append (pv 1) (pac (pe_tup (pac (eF T.Rules.c T.n_Rules_goal_place (pv 0)) (pac pei pan))) pan)))) qqi)
  (psc (ps_if (pt_val (eC T.is_something_missing (ok_is_something_missing T) hr (pac (pv 0) pan))) (pso (qqj (pe_bm PySem.F.plainAttrs_list PySem.F.slot_list_append PySem.F.type_list_append mt_append (pv 1) (pac (pe_tup (pac (eF T.Rules.c T.n_Rules_length (pv 0)) (pac pei pan))) pan)))) qqi)
  (pso (qqe (pv 1))))))),?_⟩
 walk_at "rd"
 refine⟨_,rfl,ru,dx,fs,_,rfl,hru,F.ground,lg,d.gm,1,rfl,hg,Nat.le_trans G.gl (by decide),λH1 l1 b1 ⟨as1,h1,hp1⟩=>⟨1,rfl,l1,_,rfl,SqL.of h1,λq1 hq1=>⟨q1,rfl,⟨_,SqL.of ups⟩,λD hD=>?_⟩⟩⟩
 have bn1:Bar [] H1 (upd H1 q1 (.lst (cutV (as1.map V.ref) (some 1) none))):=.new hq1
 have hD0:H D=none:=(b1.trans bn1).free hD (by simp)
 have lw:∀k,(Tm.withSign d.gm k).length<=169:=λk=>Nat.le_trans (List.length_filter_le _ _) G.gl
 have lw':∀k,(Tm.withSign d.sm k).length<=169:=λk=>Nat.le_trans (List.length_filter_le _ _) G.sl
 refine pairs_walk (K:=K) (t:=t) (k:=2) (as:=as1.drop 1) (ms:=(Tm.withSign d.gm 1).drop 1) (by rw[ups,cut1,List.map_drop]) (PImp (PDrop hp1) λa m _ ⟨dm,z⟩=>⟨dm,bn1.same z⟩) (by rw[List.length_drop];have:=lw 1;omega) hD λH2 b2 P2=>?_
 have B2:Bar [] H H2:=b1.trans (bn1.trans b2)
 clear b2 bn1 hD
 obtain⟨as2,h2,hp2⟩:=id P2
 refine⟨.inl ⟨rfl,_,SqL.of h2⟩,_,rfl,ru,dx,fs,_,rfl,B2.same hru,F.start,ls,rfl,?_⟩
 obtain⟨asS,hS,hpS⟩:=hs.same B2
 refine⟨⟨_,SqL.of hS⟩,λD2 hD2=>pairs_walkT (hR.same B2) hS hpS hD2 λH3 b3 P3=>?_⟩
 have P2':=P2.same b3
 obtain⟨as3,h3,hp3⟩:=id P3
 obtain⟨as2',h2',hp2'⟩:=id P2'
 have B3:=B2.trans b3
 have n3:((d.sm.filter λm=>!Tm.mayBeginN (kdOf d.gm) m).map λm=>(m.1,3)).length<=169:=by rw[List.length_map];exact Nat.le_trans (List.length_filter_le _ _) G.sl
 have n2:(((Tm.withSign d.gm 1).drop 1).map λm=>(m.1,2)).length<=169:=by rw[List.length_map,List.length_drop];have:=lw 1;omega
 refine⟨D,D2,_,_,rfl,rfl,h2',h3,?_,?_⟩
 ·rw[List.length_map,List.length_map,Paired.length hp2',Paired.length hp3,sizeLine_eq];omega
 have C4:=PairsAt.cat h2' hp2' hp3
 have B4:Bar [] H (upd H3 D (.lst (as2'.map V.ref++as3.map V.ref))):=λc o h _=>by rw[qqa (nen h hD0)];exact B3.same h
 generalize upd H3 D (.lst (as2'.map V.ref++as3.map V.ref))=H4 at C4 B4
 clear h2' hp2' h3 hp3 P2' P3 b3 B3 P2 h2 hp2 hS hpS hD2
 obtain⟨as4,h4,hp4⟩:=id C4
 refine⟨.inl ⟨rfl,_,SqL.of h4⟩,_,rfl,ru,dx,fs,_,rfl,B4.same hru,F.start,ls,d.sm,3,rfl,hs.same B4,Nat.le_trans G.sl (by decide),λH5 l5 b5 ⟨as5,h5,hp5⟩=>⟨1,rfl,l5,_,rfl,SqL.of h5,λq5 hq5=>⟨q5,rfl,⟨_,SqL.of ups⟩,λD5 hD5=>?_⟩⟩⟩
 have bn5:Bar [] H5 (upd H5 q5 (.lst (cutV (as5.map V.ref) (some 1) none))):=.new hq5
 refine pairs_walk (K:=K) (t:=t) (k:=4) (as:=as5.drop 1) (ms:=(Tm.withSign d.sm 3).drop 1) (by rw[ups,cut1,List.map_drop]) (PImp (PDrop hp5) λa m _ ⟨dm,z⟩=>⟨dm,bn5.same z⟩) (by rw[List.length_drop];have:=lw' 3;omega) hD5 λH6 b6 P6=>?_
 have C6:=C4.same (b5.trans (bn5.trans b6))
 have B6:=B4.trans (b5.trans (bn5.trans b6))
 obtain⟨as6,h6,hp6⟩:=id P6
 obtain⟨as4',h4',hp4'⟩:=id C6
 have n6:(((Tm.withSign d.sm 3).drop 1).map λm=>(m.1,4)).length<=169:=by rw[List.length_map,List.length_drop];have:=lw' 3;omega
 refine⟨D,D5,_,_,rfl,rfl,h4',h6,?_,?_⟩
 ·rw[List.length_map,List.length_map,Paired.length hp4',Paired.length hp6,List.length_append,sizeLine_eq];omega
 have C7:=PairsAt.cat h4' hp4' hp6
 have B7:Bar [] H (upd H6 D (.lst (as4'.map V.ref++as6.map V.ref))):=λc o h _=>by rw[qqa (nen h hD0)];exact B6.same h
 generalize upd H6 D (.lst (as4'.map V.ref++as6.map V.ref))=H7 at C7 B7
 clear h4' hp4' h6 hp6 P6 C6 B6 b6 bn5 b5 hD5
 generalize hF3:(((Tm.withSign d.gm 1).drop 1).map λm=>(m.1,2))++((d.sm.filter λm=>!Tm.mayBeginN (kdOf d.gm) m).map λm=>(m.1,3))++(((Tm.withSign d.sm 3).drop 1).map λm=>(m.1,4))=F3 at C7
 have nF3:F3.length<=507:=by rw[<-hF3,List.length_append,List.length_append];omega
 have eF3:faultsD d=F3++((if Tm.goalAmissN d.gm d.sm d.wide d.high d.goal=true then [(d.goalAt,5)] else [])++(if Tm.missingN d.gm d.sm d.passed d.seat=true then [(d.len,6)] else [])):=by
  rw[<-hF3];unfold faultsD Tm.faultsN;simp only[List.append_assoc]
 have more:∀ {H8:Hp}{F:List (Nat×Nat)}{p:Addr}{f:Nat×Nat},Bar [] H H8->PairsAt H8 D F->F.length<=600->H8 p=none->∀(R:V->Hp->Prop),(∀H9,Bar [] H H9->PairsAt H9 D (F++[f])->R .non H9)->rAppend (.ref D) [.ref p] (upd H8 p (.tup [.int (f.1:Int),.int (f.2:Int)])) R:=λ{H8 F p f} B8 ⟨as8,h8,hp8⟩ nF hp R k=>by
  obtain⟨e1,J⟩:=IvP.push (f:=f) hD0 h8 hp8 B8 hp
  refine⟨D,_,_,rfl,rfl,e1,by rw[List.length_map,Paired.length hp8,sizeLine_eq];omega,k _ J.bar J.at_⟩
 have last:∀ {H8:Hp}{Fl:List (Nat×Nat)},Bar [] H H8->PairsAt H8 D Fl->Fl.length<=600->faultsD d=Fl++(if Tm.missingN d.gm d.sm d.passed d.seat=true then [(d.len,6)] else [])->sp_is_something_missing t [.ref ru] H8 (λx H1=>∃c,x=V.bl c/\if c=true then tyV K "list" (.ref D) H1/\∃x_1 x_2,H1 ru=some (.ins t.C_Rules x_1 x_2)/\∃x_3,List.lookup ("length":Str) x_2=some x_3/\2<=sizeLine /\
   ∀p,H1 p=none->rAppend (.ref D) [.ref p] (upd H1 p (.tup [x_3,.int 6])) λ_ H1=>Q (.ref D) H1 else Q (.ref D) H1) (noX [some (.ref ru),some (.ref D),none]):=λ{H8 Fl} B8 C8 nF e8 =>
  ⟨ru,d,rfl,hR.same B8,λH9 b9=>⟨_,rfl,by
   have B9:=B8.trans b9
   have C9:=C8.same b9
   refine ite2 (λz=>?_) λz=>?_
   ·obtain⟨as9,h9,_⟩:=id C9
    refine⟨.inl ⟨rfl,_,SqL.of h9⟩,dx,fs,B9.same hru,_,F.length,by decide,λp hp=>more (f:=(d.len,6)) B9 C9 nF hp _ λH10 B10 C10=>kk H10 D B10 ?_⟩
    rw[e8,if_pos z];exact C10
   ·rw[if_neg z,List.append_nil]at e8
    exact kk H9 D B9 (by rw[e8];exact C9)⟩⟩
 refine⟨ru,d,rfl,hR.same B7,λH8 b8=>⟨_,rfl,?_⟩⟩
 have B8:=B7.trans b8
 have C8:=C7.same b8
 refine ite2 (λz=>?_) λz=>?_
 ·obtain⟨as8,h8,_⟩:=id C8
  refine⟨.inl ⟨rfl,_,SqL.of h8⟩,dx,fs,B8.same hru,_,F.goal_place,by decide,λp hp=>more (f:=(d.goalAt,5)) B8 C8 (by omega) hp _ λH9 B9 C9=>?_⟩
  exact last B9 C9 (by rw[List.length_append];show F3.length+1<=600;omega) (by rw[eF3,if_pos z,List.append_assoc])
 ·exact last B8 C8 (by omega) (by rw[eF3,if_neg z];rfl)
section
theorem lex_ltP (f g:Nat×Nat):HT.lexLt [(f.1:Int),(f.2:Int)] [(g.1:Int),(g.2:Int)]=Tm.ltP f g:=by
 unfold HT.lexLt HT.lexLt HT.lexLt Tm.ltP
 by_cases h:f.1=g.1
 ·rw[if_pos (by omega),decide_eq_false (by omega:¬f.1<g.1),decide_eq_true h,Bool.false_or,Bool.true_and]
  by_cases h2:f.2=g.2
  ·rw[if_pos (by omega),decide_eq_false (by omega)]
  ·rw[if_neg (by omega)];exact decide_eq_decide.mpr (by omega)
 ·rw[if_neg (by omega),decide_eq_false h,Bool.false_and,Bool.or_false];exact decide_eq_decide.mpr (by omega)
def btP (fs:List (Nat×Nat)) (i j:Nat):Bool:=Tm.ltP (fs.getD i (0,0)) (fs.getD j (0,0))
theorem best_min (x:Nat×Nat) (l:List (Nat×Nat)):∀k,k<=l.length->argBest (btP (x::l)) k<=k/\(x::l).getD (argBest (btP (x::l)) k) (0,0)=Tm.minFrom x (l.take k)
 | 0,_=>⟨Nat.le_refl _,rfl⟩
 | k+1,h=>by
  obtain⟨h1,h2⟩:=best_min x l k (by omega)
  have hk:l[k]?=some (l[k]'(by omega)):=List.getElem?_eq_getElem _
  have e1:(x::l).getD (k+1) (0,0)=l[k]'(by omega):=by simp[List.getD,hk]
  have e2:Tm.minFrom x (l.take (k+1))=if Tm.ltP (l[k]'(by omega)) (Tm.minFrom x (l.take k))=true then l[k]'(by omega) else Tm.minFrom x (l.take k):=by
   unfold Tm.minFrom;rw[List.take_succ,hk,List.foldl_append];rfl
  show (if btP (x::l) (k+1) (argBest (btP (x::l)) k) then k+1 else argBest (btP (x::l)) k)<=k+1/\(x::l).getD (if btP (x::l) (k+1) (argBest (btP (x::l)) k) then k+1 else argBest (btP (x::l)) k) (0,0)=_
  have e3:btP (x::l) (k+1) (argBest (btP (x::l)) k)=Tm.ltP (l[k]'(by omega)) (Tm.minFrom x (l.take k)):=by
   show Tm.ltP ((x::l).getD (k+1) (0,0)) ((x::l).getD (argBest (btP (x::l)) k) (0,0))=_
   rw[e1,h2]
  rw[e3,e2]
  by_cases z:Tm.ltP (l[k]'(by omega)) (Tm.minFrom x (l.take k))=true
  ·rw[if_pos z,if_pos z];exact⟨Nat.le_refl _,e1⟩
  ·rw[if_neg z,if_neg z];exact⟨by omega,h2⟩
theorem call_minP {X:Cx}(hc:X.calm=true) (hu:X.A.units+1<cLine):CallR X (.builtin "min") (λvs H Q=>∃(l:Addr) (f:Nat×Nat) (fs:List (Nat×Nat)),vs=[.ref l]/\PairsAt H l (f::fs)/\∀a,PairAt H a (Tm.minFrom f fs)->Q (.ref a) H):=by
 intro pins s σ H vs us Q I r h
 obtain⟨l,f,fs,rfl,⟨as,hl,hp⟩,q⟩:=h
 rw[Vals.ref1 r]
 obtain⟨its,rv,hL,hz⟩:=I.list (SqL.of hl)
 have eits:its=as.map Value.ref:=refs_at rv
 have len:as.length=(f::fs).length:=Paired.length hp
 subst eits
 have tup:∀ {a:Addr}{g:Nat×Nat},PairAt H a g->∃its:List Value,IntsAre its [(g.1:Int),(g.2:Int)]/\IsTup s.heap a its.toArray:=λ{a g} z=>by
  obtain⟨its,r1,p1,_⟩:=I.tuple (SqT.of z)
  exact⟨its,intsAre_of (ns:=[(g.1:Int),(g.2:Int)]) r1,p1⟩
 refine call_minL (G:=λh=>∀a g,PairAt H a g->∃its:List Value,IntsAre its [(g.1:Int),(g.2:Int)]/\IsTup h a its.toArray) (bt:=btP (f::fs)) (I.ok.hd hc) hL.isList (by rw[List.size_toArray,List.length_map,len];simp) ?_ ?_ ?_ ?_
 ·intro i j vi vj s' Q' E' g pi pj hq
  have at_:∀ {i:Nat}{v:Value},(as.map Value.ref).toArray[i]?=some v->∃a,v=.ref a/\PairAt H a ((f::fs).getD i (0,0)):=λ{i v} z=>by
   rw[List.getElem?_toArray,List.getElem?_map]at z
   obtain⟨a,h1,h2⟩:=Option.map_eq_some_iff.mp z
   obtain⟨y,h3,h4⟩:=PAt hp h1
   exact⟨a,h2.symm,by rw[List.getD,h3];exact h4⟩
  obtain⟨a,rfl,pa⟩:=at_ pi
  obtain⟨b,rfl,pb⟩:=at_ pj
  obtain⟨ia,i1,t1⟩:=g a _ pa
  obtain⟨ib,i2,t2⟩:=g b _ pb
  refine (show wpAny _ _ (compareOp .Lt (.ref a) (.ref b)) _ _ _ from HT.lt_tupInts t1 t2 (by simpa using i1) (by simpa using i2) hu ?_)
  rw[lex_ltP];exact hq
 ·intro h' kp a g z
  obtain⟨its,h1,o,h2,h3⟩:=tup z
  exact⟨its,h1,o,kp _ _ h2,h3⟩
 ·intro h h' g kp a z zz
  obtain⟨its,h1,o,h2,h3⟩:=g a z zz
  obtain⟨_,_,p0⟩:=tup zz
  exact⟨its,h1,o,kp _ _ p0.lt h2,h3⟩
 ·intro v h' tk hv kp
  have bm:=best_min f fs fs.length (Nat.le_refl _)
  rw[List.size_toArray,List.length_map,len,show (f::fs).length - 1=fs.length from rfl]at hv
  rw[List.getElem?_toArray,List.getElem?_map]at hv
  obtain⟨a,h1,h2⟩:=Option.map_eq_some_iff.mp hv
  obtain⟨y,h3,h4⟩:=PAt hp h1
  subst h2
  have ey:y=Tm.minFrom f fs:=by
   have z:=bm.2
   rw[List.getD,h3,List.take_length]at z
   exact z
  rw[ey]at h4
  exact⟨.ref a,H,I.kept kp,rfl,q a h4⟩
end
theorem merge_new:∀(more kvs:List (Key×V)),((kvs++more).map (·.1)).Nodup->mergeK kvs more=kvs++more
 | [],kvs,_=>by simp[mergeK]
 | kv::more,kvs,nd=>by
  have nin:¬kv.1∈kvs.map (·.1):=λz=>by
   rw[List.map_append,List.nodup_append]at nd
   exact nd.2.2 _ z _ (by simp) rfl
  have hv:valV kvs kv.1=none:=by
   cases e:valV kvs kv.1 with
   | none=>rfl
   | some v=>exact absurd (valV_in e) nin
  show mergeK (putK kvs kv.1 kv.2) more=_
  rw[putK_new _ hv,merge_new more (kvs++[(kv.1,kv.2)]) (by simpa using nd)]
  simp
theorem kvs_nodup {r:Tafl.Rules}(hw:r.wide<=13):((kvsOf (Tm.groundMarks r)).map (·.1)).Nodup:=by
 have nd:=Tm.cell_nodup hw
 unfold kvsOf
 rw[Tm.groundMarks_eq,List.map_map,List.map_map]
 exact (Tm.nodup_map_of (f:=λc:Nat=>(Sum.inl (c:Int):Key)) nd λa _ b _ z=>by have:=Sum.inl.inj z;omega) |> λh=>by rw[List.map_map]at h;exact h
def ivPairsC (H:Hp) (D:Addr) (ms:List Tm.Mk) (j:Nat) (H':Hp):Prop:=IvP H H' D ((ms.take j).map λm=>(m.2.1,m.2.2))
theorem pairs_walkC {K:PySem.W.Frag}{t:Adr}{a D:Addr}{as:List Addr}{ms:List Tm.Mk}{v0 v1 v2 v3 v4 v5:Option V}{H:Hp}{Qd:Hp->Prop}(hl:H a=some (.lst (as.map V.ref))) (hp:Paired (MarkAt t H) as ms) (few:ms.length<=1000) (hD:H D=none)
  (hq:∀H',Bar [] H H'->PairsAt H' D (ms.map λm=>(m.2.1,m.2.2))->Qd H') :
  ∃W:Nat->Nat->Hp->Prop,(∃m,W 0 m (upd H D (.lst [])))/\∀i m H,W i m H->((Itl K a).stop i H/\Qd H)\/((Itl K a).go i H/\∃Nx:Hp->Prop,(∀H',Nx H'->∃m',m'<m/\W (i+1) m' H')/\∀x H',(Itl K a).yld i H x H'->gName 5 x (wipe [v0,v1,v2,v3,v4,v5] [5]) H' λσ2 H2=>wipe σ2 [5]=wipe [v0,v1,v2,v3,v4,v5] [5]/\tYes σ2 H2 λb H3 =>
    if b=true then tTup (tCons (tF t.C_Mark "cell" (tVar 5)) (tCons (tF t.C_Mark "sign" (tVar 5)) tNil)) σ2 H3 λy H4=>∃acc,H4 D=some (.lst acc)/\acc.length<sizeLine/\Nx (upd H4 D (.lst (acc++[y]))) else Nx H3):=by
 refine lc_list (K:=K) (a:=a) (xs:=as.map V.ref) (ivPairsC H D ms) ⟨⟨[],ups,.nil⟩,.new hD⟩ ?_ ?_ ?_
 ·rintro j H' _ ⟨_,b⟩;exact SqL.of (b.same hl)
 ·rintro j x H' hx ⟨⟨bs,h1,h2⟩,b⟩
  obtain⟨c,hc,rfl⟩:=refs_at' hx
  obtain⟨m,hm,dm,hma⟩:=PAt hp hc
  have len:(bs.map V.ref).length<=1000:=by
   rw[List.length_map,Paired.length h2,List.length_map,List.length_take];omega
  refine⟨rfl,?_⟩
  simp only[tYes,if_true]
  refine⟨_,rfl,c,dm,_,_,rfl,b.same hma,mkF_cell m,_,rfl,c,dm,_,_,rfl,b.same hma,mkF_sign m,(by show 2<=sizeLine;decide),λp hp'=>?_⟩
  obtain⟨e1,J⟩:=IvP.push (f:=(m.2.1,m.2.2)) hD h1 h2 b hp'
  refine⟨_,e1,small1000 len,?_⟩
  unfold ivPairsC
  rw[take_snoc' hm,List.map_append]
  exact J
 ·rintro H' ⟨h,b⟩
  rw[List.length_map,Paired.length hp,List.take_length]at h
  exact hq H' b h
theorem marks_ne_rules {t:Adr}{H:Hp}{l ru dx:Addr}{ms:List Tm.Mk}{C:Addr}{fs:List (Str×V)}(h:MarksAt t H l ms) (r:H ru=some (.ins C dx fs)):l≠ru:=by
 obtain⟨as,q,_⟩:=h
 exact ne_of q r (by intro z;cases z)
theorem mark_ne_rules {t:Adr}{H:Hp}{a ru dx:Addr}{m:Tm.Mk}{C:Addr}{fs:List (Str×V)}{v:V}(h:MarkAt t H a m) (r:H ru=some (.ins C dx fs)) (ew:fs.lookup ("wide":Str)=some v):a≠ru:=by
 obtain⟨dm,q⟩:=h
 refine λz=>?_
 rw[z,r]at q
 have e3:=(HO.ins.inj (Option.some.inj q)).2.2
 rw[e3]at ew
 exact absurd ew (by rw[show (mkF m).lookup ("wide":Str)=none from rfl];simp)
theorem MarksAt.ru {t:Adr}{H H1:Hp}{l ru dx:Addr}{ms:List Tm.Mk}{C:Addr}{fs:List (Str×V)}{v:V}(h:MarksAt t H l ms) (r:H ru=some (.ins C dx fs)) (ew:fs.lookup ("wide":Str)=some v) (br:Bar [ru] H H1):MarksAt t H1 l ms :=
 h.bar br (by simpa using marks_ne_rules h r) λa m q=>by simpa using mark_ne_rules q r ew
theorem MarksAt.st {t:Adr}{p tx:Addr}{b:Tafl.Bytes}{n:Nat}{H0 H H1:Hp}{l ru:Addr}{ms:List Tm.Mk}{fs:List (Str×V)}{v:V}(h:MarksAt t H l ms) (S:St5 t p tx ru b H0 H n fs) (ew:fs.lookup ("wide":Str)=some v) (br:Bar [p,ru] H H1):MarksAt t H1 l ms:=by
 obtain⟨dr,r⟩:=S.rul
 exact h.bar br (by simpa using ⟨marks_ne_scan h S.scan,marks_ne_rules h r⟩) λa m q=>by simpa using ⟨mark_ne_scan q S.scan,mark_ne_rules q r ew⟩
theorem St5.here {t:Adr}{p tx:Addr}{b:Tafl.Bytes}{n:Nat}{H0 H:Hp}{ru:Addr}{fs:List (Str×V)}(S:St5 t p tx ru b H0 H n fs):St5 t p tx ru b H H n fs:=⟨S.scan,S.text,S.rul,.refl _ _,S.ne⟩
theorem St5.onto {t:Adr}{p tx:Addr}{b:Tafl.Bytes}{n n1:Nat}{H0 H H1:Hp}{ru:Addr}{fs fs1:List (Str×V)}(S:St5 t p tx ru b H0 H n fs) (S1:St5 t p tx ru b H H1 n1 fs1):St5 t p tx ru b H0 H1 n1 fs1:=⟨S1.scan,S1.text,S1.rul,S.bar.trans S1.bar,S.ne⟩
theorem bar_made2 {H H':Hp}{x dx:Addr}{o:HO}(nx:H x=none) (nd:H dx=none) (b:Bar [x] (upd (upd H dx (.own x)) x o) H'):Bar [] H H':=λc u h _ =>
 b c u (by rw[qqa (nen h nx),qqa (nen h nd)];exact h) (by simpa using nen h nx)
theorem bar_drop {H H0 H':Hp}{p ru:Addr}(b0:Bar [] H H0) (hp:H p=none) (hr:H ru=none) (b:Bar [p,ru] H0 H'):Bar [] H H':=λc u h _ =>
 b c u (b0.same h) (by simpa using ⟨nen h hp,nen h hr⟩)
theorem paired_kvs {K:PySem.W.Frag}{H:Hp}:∀ {ms:List Tm.Mk}{as:List Addr},Paired (PairAt H) as (ms.map λm=>(m.2.1,m.2.2))->Paired (λp (kv:Key×V)=>SqT K H p [kV kv.1,kv.2]) as (kvsOf ms)
 | [],_,h=>by cases h;exact .nil
 | m::ms,_,h=>by
  cases h with
  | cons a b=>exact .cons (SqT.of a) (paired_kvs b)
theorem bind_inv {α β:Type}{x:Except Nat α}{f:α->Except Nat β}{y:β}(h:x >>= f=.ok y):∃a,x=.ok a/\f a=.ok y:=by
 cases x with
 | error e=>cases h
 | ok a=>exact⟨a,rfl,h⟩
theorem first_le {c d:Tafl.Cur}{v:Nat×Nat×Nat×Nat}(h:Tm.gPieces c=.ok (v,d)):v.1<=1:=by
 unfold Tm.gPieces at h
 obtain⟨c1,_,h⟩:=bind_inv h
 obtain⟨⟨f,c2⟩,e,h⟩:=bind_inv h
 obtain⟨c3,_,h⟩:=bind_inv h
 obtain⟨⟨k1,c4⟩,_,h⟩:=bind_inv h
 obtain⟨c5,_,h⟩:=bind_inv h
 obtain⟨⟨k2,c6⟩,_,h⟩:=bind_inv h
 obtain⟨c7,_,h⟩:=bind_inv h
 obtain⟨⟨k3,c8⟩,_,h⟩:=bind_inv h
 obtain⟨c9,_,h⟩:=bind_inv h
 cases h
 exact Nat.le_of_lt_succ (Tm.word_lt e)
theorem goal_le {c d:Tafl.Cur}{v:Nat×Nat×Nat×Nat}(h:Tm.gEnds c=.ok (v,d)):v.2.1<=1:=by
 unfold Tm.gEnds at h
 obtain⟨c1,_,h⟩:=bind_inv h
 obtain⟨⟨o,c2⟩,e,h⟩:=bind_inv h
 obtain⟨c3,_,h⟩:=bind_inv h
 obtain⟨⟨k1,c4⟩,_,h⟩:=bind_inv h
 obtain⟨c5,_,h⟩:=bind_inv h
 obtain⟨⟨k2,c6⟩,_,h⟩:=bind_inv h
 obtain⟨c7,_,h⟩:=bind_inv h
 split at h
 ·cases h
  exact Nat.le_of_lt_succ (Tm.word_lt e)
 ·cases h
structure Says (d:RD) (R:Tafl.Rules):Prop where
 wide:d.wide=R.wide
 high:d.high=R.high
 gm:d.gm=Tm.groundMarks R
 sm:d.sm=Tm.startMarks R
 first:d.first=R.first
 passed:d.passed=1↔R.passed=true
 seat:d.seat=R.seat
 goal:d.goal=R.goal
 goalAt:d.goalAt=R.goalAt
 g01:R.goal=0\/R.goal=1
 f01:R.first<=1
structure RFull (t:Adr) (H:Hp) (ru:Addr) (d:RD):Prop where
 good:RG d
 ex:∃dx fs lg ls dk,H ru=some (.ins t.C_Rules dx fs)/\RuF fs d lg ls dk/\MarksAt t H lg d.gm/\MarksAt t H ls d.sm/\H dk=some (.dK (kvsOf d.gm))
theorem RFull.at_ {t:Adr}{H:Hp}{ru:Addr}{d:RD}(r:RFull t H ru d):RAt t H ru d:=by
 obtain⟨dx,fs,lg,ls,dk,h1,h2,h3,h4,h5⟩:=r.ex
 exact⟨r.good,dx,fs,lg,ls,dk,h1,h2,h3,h4,.inl h5⟩
theorem RFull.same {t:Adr}{H H':Hp}{ru:Addr}{d:RD}(r:RFull t H ru d) (b:Bar [] H H'):RFull t H' ru d:=by
 obtain⟨dx,fs,lg,ls,dk,h1,h2,h3,h4,h5⟩:=r.ex
 exact⟨r.good,dx,fs,lg,ls,dk,b.same h1,h2,h3.same b,h4.same b,b.same h5⟩
theorem RFull.lock {t:Adr}{H:Hp}{ru:Addr}{d:RD}(r:RFull t H ru d):∃dx fs lg ls dk,H ru=some (.ins t.C_Rules dx fs)/\RuF fs d lg ls dk/\H dk=some (.dK (kvsOf d.gm))/\∀od,RAt t (upd H dk (.frz od (.dK (kvsOf d.gm)))) ru d:=by
 obtain⟨dx,fs,lg,ls,dk,h1,h2,h3,h4,h5⟩:=r.ex
 refine⟨dx,fs,lg,ls,dk,h1,h2,h5,λod=>?_⟩
 have nm:∀ {l ms},MarksAt t H l ms->l≠dk:=λ{l ms} ⟨as,q,_⟩=>ne_of q h5 (by intro z;cases z)
 have nk:∀ {a m},MarkAt t H a m->a≠dk:=λ{a m} ⟨_,q⟩=>ne_of q h5 (by intro z;cases z)
 exact⟨r.good,dx,fs,lg,ls,dk,by rw[qqa (ne_of h1 h5 (by intro z;cases z))];exact h1,h2,h3.bar .one (by simpa using nm h3) (λa m q=>by simpa using nk q),h4.bar .one (by simpa using nm h4) (λa m q=>by simpa using nk q),.inr ⟨od,ups⟩⟩
def FaultAt (H:Hp) (dx:Addr) (k p:Nat):Prop:=H dx=some (.xd [("kind",.int (k:Int)),("place",.int (p:Int))])
def sp_rules_of (t:Adr):Sp:=λvs H Q E=>∃(tx:Addr) (b:Tafl.Bytes),vs=[.ref tx]/\TextAt H tx b /\
 (∀R d ru H',Tafl.judge b=.ok R->Tm.NoFault R->Says d R->Bar [] H H'->RFull t H' ru d->Q (.ref ru) H')/\∀k p dx H',Tafl.judge b=.error (k,p)->Bar [] H H'->FaultAt H' dx k p->E (.ref t.C_RulesFault) (some dx) H'
theorem sc_rules_of:qqb ["text","scan","rules","faults","fault","mark"] ["text"] (dSc s_rules_of):=by walk_at "sc9"
theorem ok_rules_of (T:Txt K mg t):FnOk P w K mg base (CX1 P w) 5 t.f_rules_of t.d_rules_of ["text"] (sp_rules_of t):=by
 refine T.rules_of.F.okX sc_rules_of (λvs H Q E h=>?_) (λcdv A outer s H vs Q E hr h=>?_)
 ·obtain⟨tx,b,rfl,_⟩:=h;rfl
 obtain⟨tx,b,rfl,ht,k1,k2⟩:=h
 have nd:=sc_rules_of.nd
 have hr3:Room 3 _:=hr.mono (by decide)
 have hr2:Room 2 _:=hr.mono (by decide)
 have hu:=hu_of hr
 have dp:(A.deeper (envOfC "rules_of" (dSc s_rules_of) s.heap.objs.size t.f_rules_of cdv)).depth+1<recursionLimit:=by have:=hr.dp;omega
 refine⟨_,psc (qqd (i:=1) nd rfl (Or.inl rfl) (eN T.Scan (ok_Scan_init T) hr2 (pac (pv 0) pan)))
  (psc (qqd (i:=2) nd rfl (Or.inl rfl) (eN0 T.Rules (ok_Rules_init T) hr2))
  (psc (ps_tryR rfl rfl qqc T.Stuck.c rfl T.Stuck.m
   (λpins Rb=>psc (qqj (eCR takes_try T.take_grounds (ok_take_grounds T) hr (pac (pv 1) (pac (pv 2) pan))))
    (psc (qqj (eCR takes_try T.take_pieces_ways (ok_take_pieces_ways T) hr3 (pac (pv 1) (pac (pv 2) pan))))
    (psc (qqj (eCR takes_try T.take_cells_ways (ok_take_cells_ways T) hr3 (pac (pv 1) (pac (pv 2) pan))))
    (pso (qqj (eCR takes_try T.take_ends (ok_take_ends T) hr3 (pac (pv 1) (pac (pv 2) pan))))))))
   (λe pn E ob vb m d z Tk=>pso (ps_raiseN rfl m d z Tk T.RulesFault dp rfl T.m_RulesFault (pac pei (pac (eF T.Scan.c T.n_Scan_place (pv 1)) pan)))))
  (psc (eS T.Rules.c T.n_Rules_length (pv 2) (pe_callB call_len_seq (by rfl) T.o_len PySem.boot_len (pac (pv 0) pan)))
  (psc (eS T.Rules.c T.n_Rules_kinds (pv 2) (pe_callTy (call_dictP rfl) (by rfl) T.o_dict boot_dict (pac (pe_lc (own:=[("mark",5)]) rfl nd (pi_list (eF T.Rules.c T.n_Rules_ground (pv 2))) (blkOk_by rfl) (λs H C cl fp=>pg_name (i:=5) nd rfl (Or.inl rfl)) (λs H C cl fp=>pts_nil) (λs H C cl fp=>pe_tup (pac (eF T.Mark.c T.n_Mark_cell (pv 5)) (pac (eF T.Mark.c T.n_Mark_sign (pv 5)) pan)))) pan)))
  (psc (qqd (i:=3) nd rfl (Or.inl rfl) (eC T.faults_of (ok_faults_of T) hr3 (pac (pv 2) pan)))
  (psc (ps_if (qqh op_gt (pe_callB call_len_seq (by rfl) T.o_len PySem.boot_len (pac (pv 3) pan)) pei (qqg _))
   (psc (qqd (i:=4) nd rfl (Or.inl rfl) (pe_callB (call_minP rfl hu) (by rfl) T.o_min PyProof.Rows.boot_min (pac (pv 3) pan)))
   (pso (ps_raise2 rfl qqc T.RulesFault dp rfl T.m_RulesFault (pac (pe_ix ix_tup (pv 4) pei (λ_ _=>rfl)) (pac (pe_ix ix_tup (pv 4) pei (λ_ _=>rfl)) pan))))) qqi)
  (pso (qqe (pv 2))))))))),?_⟩
 walk_at "rd"
 intro x dx hx hdx _
 refine⟨x,dx,tx,rfl,ups,rfl,?_⟩
 have B1:=bar_made (C:=t.C_Scan) (fs:=scF tx 0) hx hdx
 have hs:ScanAt t (upd (upd (upd H dx (.own x)) x (.ins t.C_Scan dx [])) x (.ins t.C_Scan dx (scF tx 0))) x tx 0:=⟨dx,ups⟩
 generalize upd (upd (upd H dx (.own x)) x (.ins t.C_Scan dx [])) x (.ins t.C_Scan dx (scF tx 0))=Hs at B1 hs ⊢
 intro ru dr hru hdr _
 have hruH:H ru=none:=B1.free hru (by simp)
 refine⟨ru,dr,rfl,ups,λfs0 H0 R0 len0 b0=>⟨rfl,?_⟩⟩
 have B2:Bar [] Hs H0:=bar_made2 hru hdr b0
 have ht1:TextAt Hs tx b:=B1.same ht
 have S0:St5 t x tx ru b H0 H0 0 fs0:=by
  obtain⟨ds,q⟩:=id hs
  exact⟨⟨ds,B2.same q⟩,B2.same ht1,R0,.refl _ _,nen q hru⟩
 have dropB:∀ {H'},Bar [x,ru] H0 H'->Bar [] H H':=λ{H'} z=>bar_drop (B1.trans B2) hx hruH z
 have stuck:∀ {n':Nat}{H':Hp} {fs'},Tm.gram (cur b 0)=.error n'->St5 t x tx ru b H0 H' n' fs'->∃ds,H' x=some (.ins t.C_Scan ds (scF tx n'))/\∀dx,H' dx=none->E (.ref t.C_RulesFault) (some dx) (upd H' dx (.xd [("kind",.int 1),("place",.int (n':Nat))])):=λ{n' H' fs'} e S=>by
  obtain⟨ds,q⟩:=S.scan
  exact⟨ds,q,λdx hdx=>k2 1 n' dx _ (Tm.judge_error ((Tm.gram_eq b).trans e)) ((dropB S.bar).trans (.new hdx)) ups⟩
 refine⟨x,tx,ru,b,0,fs0,rfl,S0,by omega,λv1 n1 H1 fs1 lg ls e1 S1 F1 l1=>?_,λn1 H1 fs1 e1 S1=>?_⟩
 rotate_left
 ·obtain⟨ds,q1,q2⟩:=stuck (by simp only[Tm.gram,e1,Tm.bind_error]) S1
  exact⟨rfl,rfl,_,rfl,x,rfl,ds,_,q1,_,scF_place tx n1,q2⟩
 refine⟨x,tx,ru,b,n1,fs1,rfl,S1.here,by omega,λv2 n2 H2 fs2 e2 S2 F2 K2 l2=>?_,λn2 H2 fs2 e2 S2=>?_⟩
 rotate_left
 ·obtain⟨ds,q1,q2⟩:=stuck (by simp only[Tm.gram,e1,e2,Tm.bind_ok,Tm.bind_error]) (S1.onto S2)
  exact⟨rfl,rfl,_,rfl,x,rfl,ds,_,q1,_,scF_place tx n2,q2⟩
 refine⟨x,tx,ru,b,n2,fs2,rfl,S2.here,by omega,λv3 n3 H3 fs3 e3 S3 F3 K3 l3=>?_,λn3 H3 fs3 e3 S3=>?_⟩
 rotate_left
 ·obtain⟨ds,q1,q2⟩:=stuck (by simp only[Tm.gram,e1,e2,e3,Tm.bind_ok,Tm.bind_error]) (S1.onto (S2.onto S3))
  exact⟨rfl,rfl,_,rfl,x,rfl,ds,_,q1,_,scF_place tx n3,q2⟩
 refine⟨x,tx,ru,b,n3,fs3,rfl,S3.here,by omega,λv4 n4 H4 fs4 e4 S4 F4 K4 l4=>?_,λn4 H4 fs4 e4 S4=>?_⟩
 rotate_left
 ·obtain⟨ds,q1,q2⟩:=stuck (by simp only[Tm.gram,e1,e2,e3,e4,Tm.bind_ok,Tm.bind_error]) (S1.onto (S2.onto (S3.onto S4)))
  exact⟨rfl,rfl,_,rfl,x,rfl,ds,_,q1,_,scF_place tx n4,q2⟩
 have gr:Tafl.grammar b=.ok (Tm.rulesFrom v1 v2 v3 v4):=(Tm.gram_eq b).trans (show Tm.gram (cur b 0)=_ by simp only[Tm.gram,e1,e2,e3,e4,Tm.bind_ok];rfl)
 have SS:St5 t x tx ru b H1 H4 n4 fs4:=S2.onto (S3.onto S4)
 have kp:∀f:Str,f∉(["first","slides","armed","four"]:List Str)->f∉(["passed","seat","exits"]:List Str)->f∉(["goal_place","goal","thrice","limit"]:List Str)->fs4.lookup f=fs1.lookup f:=λf a c d=>(K4 f d).trans ((K3 f c).trans (K2 f a))
 have ew4:fs4.lookup ("wide":Str)=_:=(kp _ (by decide) (by decide) (by decide)).trans F1.wide
 have gm4:=F1.gm.st S1 F1.wide SS.bar
 have sm4:=F1.sm.st S1 F1.wide SS.bar
 have ff:fs4.lookup ("first":Str)=_:=(K4 _ (by decide)).trans ((K3 _ (by decide)).trans F2)
 have fp:fs4.lookup ("passed":Str)=_:=(K4 _ (by decide)).trans F3.1
 have fse:fs4.lookup ("seat":Str)=_:=(K4 _ (by decide)).trans F3.2
 have w13:=F1.w13
 have h13:=F1.h13
 have g1:=goal_le e4
 have f1:=first_le e2
 obtain⟨dr4,r4⟩:=SS.rul
 refine⟨_,.inl (SqL.of SS.text),dr4,fs4,r4,by omega,?_⟩
 rw[List.length_map,Tm.ofBytes_length]
 have S5:=(S1.onto SS).set (f:="length") (v:=.int (b.length:Nat)) r4
 have gm5:=gm4.ru r4 ew4 (Bar.one (o:=.ins t.C_Rules dr4 (putF "length" (.int (b.length:Nat)) fs4)))
 have sm5:=sm4.ru r4 ew4 (Bar.one (o:=.ins t.C_Rules dr4 (putF "length" (.int (b.length:Nat)) fs4)))
 have r5:(upd H4 ru (.ins t.C_Rules dr4 (putF "length" (.int (b.length:Nat)) fs4))) ru=some (.ins t.C_Rules dr4 (putF "length" (.int (b.length:Nat)) fs4)):=ups
 generalize upd H4 ru (.ins t.C_Rules dr4 (putF "length" (.int (b.length:Nat)) fs4))=H5 at S5 gm5 sm5 r5 ⊢
 obtain⟨as,ha,hpa⟩:=id gm5
 let R:Tafl.Rules:=Tm.rulesFrom v1 v2 v3 v4
 have eg:Tm.rowsMarks Tm.kindNum .wall v1.2.1 v1.2.2.1 v1.2.2.2.1 v1.2.2.2.2.1 v1.2.2.1=Tm.groundMarks R:=rfl
 have es:Tm.rowsMarks Tm.pieceNum .none v1.2.1 v1.2.2.1 v1.2.2.2.2.2.1 v1.2.2.2.2.2.2 v1.2.2.1=Tm.startMarks R:=rfl
 rw[eg]at gm5 hpa
 rw[es]at sm5
 have gl:(Tm.groundMarks R).length<=169:=by rw[Tm.ground_len];exact Nat.mul_le_mul h13 w13
 have sl:(Tm.startMarks R).length<=169:=by rw[Tm.start_len];exact Nat.mul_le_mul h13 w13
 refine⟨_,rfl,ru,dr4,_,_,rfl,r5,(put_off (by decide)).trans ((kp _ (by decide) (by decide) (by decide)).trans F1.ground),lg,rfl,⟨_,SqL.of ha⟩,λD hD=>pairs_walkC ha hpa (by omega) hD λH6 b6 P6=>?_⟩
 obtain⟨as6,h6,p6⟩:=P6
 refine⟨D,rfl,as6,SqL.of h6,_,paired_kvs p6,λdk hdk=>?_⟩
 rw[merge_new _ _ (by rw[List.nil_append];exact kvs_nodup (r:=R) w13),List.nil_append]
 have r6:=b6.same r5
 have gm6:=gm5.same b6
 have sm6:=sm5.same b6
 have b7:Bar [] H6 (upd H6 dk (.dK (kvsOf (Tm.groundMarks R)))):=.new hdk
 have r7:=b7.same r6
 have gm7:=gm6.same b7
 have sm7:=sm6.same b7
 have ew7:(putF "length" (.int (b.length:Nat)) fs4).lookup ("wide":Str)=_:=(put_off (by decide)).trans ew4
 refine⟨dr4,_,r7,by have:=length_putF "length" (.int (b.length:Nat)) fs4;omega,?_⟩
 have nk:dk≠ru:=(nen r6 hdk).symm
 have k7:(upd H6 dk (.dK (kvsOf (Tm.groundMarks R)))) dk=some (.dK (kvsOf (Tm.groundMarks R))):=ups
 have b8:Bar [x,ru] H0 _:=S5.bar.trans ((b6.trans b7).more.trans (Bar.one.mono (by simp):Bar [x,ru] (upd H6 dk (.dK (kvsOf (Tm.groundMarks R)))) (upd (upd H6 dk (.dK (kvsOf (Tm.groundMarks R)))) ru (.ins t.C_Rules dr4 (putF "kinds" (.ref dk) (putF "length" (.int (b.length:Nat)) fs4))))))
 have gm8:=gm7.ru r7 ew7 (Bar.one (o:=.ins t.C_Rules dr4 (putF "kinds" (.ref dk) (putF "length" (.int (b.length:Nat)) fs4))))
 have sm8:=sm7.ru r7 ew7 (Bar.one (o:=.ins t.C_Rules dr4 (putF "kinds" (.ref dk) (putF "length" (.int (b.length:Nat)) fs4))))
 have k8:(upd (upd H6 dk (.dK (kvsOf (Tm.groundMarks R)))) ru (.ins t.C_Rules dr4 (putF "kinds" (.ref dk) (putF "length" (.int (b.length:Nat)) fs4)))) dk=some (.dK (kvsOf (Tm.groundMarks R))):=by rw[qqa nk];exact k7
 have r8:(upd (upd H6 dk (.dK (kvsOf (Tm.groundMarks R)))) ru (.ins t.C_Rules dr4 (putF "kinds" (.ref dk) (putF "length" (.int (b.length:Nat)) fs4)))) ru=some (.ins t.C_Rules dr4 (putF "kinds" (.ref dk) (putF "length" (.int (b.length:Nat)) fs4))):=ups
 generalize upd (upd H6 dk (.dK (kvsOf (Tm.groundMarks R)))) ru (.ins t.C_Rules dr4 (putF "kinds" (.ref dk) (putF "length" (.int (b.length:Nat)) fs4)))=H8 at b8 gm8 sm8 k8 r8 ⊢
 have ek:kdOf (Tm.groundMarks R)=Tm.kindN R:=funext λc=>Tm.kd_kind (r:=R) w13 c
 let d:RD:=⟨R.wide,R.high,Tm.groundMarks R,Tm.startMarks R,R.first,v3.1,R.seat,R.goal,R.goalAt,b.length⟩
 have off:∀ {f:Str}{v:V},f≠"kinds"->f≠"length"->fs4.lookup f=some v->(putF "kinds" (.ref dk) (putF "length" (.int (b.length:Nat)) fs4)).lookup f=some v:=λ{f v} a c e=>(put_off a).trans ((put_off c).trans e)
 have hR:RFull t H8 ru d:=⟨⟨⟨F1.w5,w13⟩,⟨F1.h5,h13⟩,gl,sl,λm hm=>by show kdOf (Tm.groundMarks R) _≠none;rw[ek];exact Tm.start_cells (r:=R) w13 hm⟩,dr4,_,lg,ls,dk,r8,
  ⟨off (by decide) (by decide) ew4,off (by decide) (by decide) ((kp _ (by decide) (by decide) (by decide)).trans F1.high),off (by decide) (by decide) ((kp _ (by decide) (by decide) (by decide)).trans F1.ground),off (by decide) (by decide) ((kp _ (by decide) (by decide) (by decide)).trans F1.start),put_at ..,off (by decide) (by decide) ff,off (by decide) (by decide) fp,off (by decide) (by decide) fse,off (by decide) (by decide) F4.2,off (by decide) (by decide) F4.1,(put_off (by decide)).trans (put_at ..)⟩,gm8,sm8,k8⟩
 have hp1:v3.1=1↔R.passed=true:=by show _↔(v3.1 == 1)=true;simp
 have g01:R.goal=0\/R.goal=1:=by show v4.2.1=0\/v4.2.1=1;omega
 have ef:faultsD d=(Tafl.wrongs b.length R).map λq=>(q.2,q.1):=by
  unfold faultsD
  show Tm.faultsN (Tm.groundMarks R) (Tm.startMarks R) (kdOf (Tm.groundMarks R)) R.wide R.high R.goal R.goalAt v3.1 R.seat b.length=_
  rw[ek]
  exact Tm.faults_eq (r:=R) w13 g01 hp1
 refine⟨ru,d,rfl,hR.at_,λH9 l b9 hP=>?_⟩
 rw[ef]at hP
 have hR9:=hR.same b9
 have B9:Bar [] H H9:=dropB (b8.trans b9.more)
 obtain⟨as9,h9,p9⟩:=id hP
 refine⟨l,rfl,_,.inl (SqL.of h9),?_⟩
 have l9:(as9.map V.ref).length=((Tafl.wrongs b.length R).map λq=>(q.2,q.1)).length:=by rw[List.length_map,Paired.length p9]
 cases ew:(Tafl.wrongs b.length R).map λq=>(q.2,q.1) with
 | nil =>
  rw[ew]at l9
  rw[if_neg (by rw[l9];simp)]
  obtain⟨j1,j2⟩:=Tm.judge_ok gr ew
  exact k1 R d ru H9 j1 j2 ⟨rfl,rfl,rfl,rfl,rfl,hp1,rfl,rfl,rfl,g01,f1⟩ B9 hR9
 | cons f fl =>
  rw[ew]at l9 hP
  rw[if_pos (by rw[l9];simp)]
  refine⟨l,rfl,f,fl,hP,λa ha=>⟨_,SqT.of ha,_,rfl,_,SqT.of ha,_,rfl,λdx hdx=>?_⟩⟩
  exact k2 _ _ dx _ (Tm.judge_fault gr ew) (B9.trans (.new hdx)) ups
def NatsAt (H:Hp) (l:Addr) (ns:List Nat):Prop:=H l=some (.lst ((Tm.ofNats ns).map V.int))
theorem NatsAt.same {H H':Hp}{l:Addr}{ns:List Nat}(h:NatsAt H l ns) (b:Bar [] H H'):NatsAt H' l ns:=b.same h
def poF (lh lm:Addr) (k d:Nat):List (Str×V):=[("hunters",.ref lh),("men",.ref lm),("king",.int (k:Int)),("side",.int (d:Int))]
theorem poF_hunters (lh lm:Addr) (k d:Nat):(poF lh lm k d).lookup ("hunters":Str)=some (.ref lh):=rfl
theorem poF_men (lh lm:Addr) (k d:Nat):(poF lh lm k d).lookup ("men":Str)=some (.ref lm):=rfl
theorem poF_king (lh lm:Addr) (k d:Nat):(poF lh lm k d).lookup ("king":Str)=some (.int (k:Int)):=rfl
theorem poF_side (lh lm:Addr) (k d:Nat):(poF lh lm k d).lookup ("side":Str)=some (.int (d:Int)):=rfl
def PosAt (t:Adr) (H:Hp) (p:Addr) (hs ms:List Nat) (k d:Nat):Prop:=∃dx lh lm,H p=some (.ins t.C_Position dx (poF lh lm k d))/\NatsAt H lh hs/\NatsAt H lm ms
theorem PosAt.same {t:Adr}{H H':Hp}{p:Addr}{hs ms:List Nat}{k d:Nat}(h:PosAt t H p hs ms k d) (b:Bar [] H H'):PosAt t H' p hs ms k d:=by
 obtain⟨dx,lh,lm,h1,h2,h3⟩:=h
 exact⟨dx,lh,lm,b.same h1,h2.same b,h3.same b⟩
theorem nats_of {ns':List Int}{ns:List Nat}(p:ns'.Perm (Tm.ofNats ns)):∃ms:List Nat,ns'=Tm.ofNats ms/\ms.Perm ns:=by
 refine⟨ns'.map Int.toNat,?_,?_⟩
 ·unfold Tm.ofNats
  rw[List.map_map]
  have:∀x∈ns',((λn:Nat=>(n:Int)) ∘ Int.toNat) x=x:=λx hx=>by
   obtain⟨n,_,e⟩:=List.mem_map.mp (p.mem_iff.mp hx)
   rw[<-e];rfl
  exact (List.map_id ns').symm.trans (List.map_congr_left λx hx=>(this x hx).symm)
 ·have z:=p.map Int.toNat
  unfold Tm.ofNats at z
  rw[List.map_map]at z
  have e:(Int.toNat ∘ λn:Nat=>(n:Int))=id:=rfl
  rw[e,List.map_id]at z
  exact z
theorem nats_sorted {ms:List Nat}(h:(Tm.ofNats ms).Pairwise (·<=·)):ms.Pairwise (·<=·):=by
 unfold Tm.ofNats at h
 rw[List.pairwise_map]at h
 exact h.imp λz=>by omega
theorem nats_sortedR {ms:List Nat}(h:(Tm.ofNats ms).Pairwise (λx y=>y<=x)):ms.Pairwise (λx y=>y<=x):=by
 unfold Tm.ofNats at h
 rw[List.pairwise_map]at h
 exact h.imp λz=>by omega
def sp_Position_init (t:Adr):Sp:=λvs H Q _=>∃(p dx lh lm:Addr) (k d:Nat),vs=[.ref p,.ref lh,.ref lm,.int (k:Int),.int (d:Int)]/\H p=some (.ins t.C_Position dx [])/\Q .non (upd H p (.ins t.C_Position dx (poF lh lm k d)))
theorem sc_Position_init:qqb ["self","hunters","men","king","side"] ["self","hunters","men","king","side"] (dSc s_Position_init):=by walk_at "sc9"
theorem ok_Position_init (T:Txt K mg t):FnOk P w K mg base (CX1 P w) 1 t.f_Position_init t.d_Position_init ["self","hunters","men","king","side"] (sp_Position_init t):=by
 refine T.Position.F.okX sc_Position_init (λvs H Q E h=>?_) (λcdv A outer s H vs Q E hr h=>?_)
 ·obtain⟨p,dx,lh,lm,k,d,rfl,_⟩:=h;rfl
 obtain⟨p,dx,lh,lm,kk,d,rfl,hp,k⟩:=h
 have c:=T.Position.c
 refine⟨_,psc (eS c T.n_Position_hunters (pv 0) (pv 1)) (psc (eS c T.n_Position_men (pv 0) (pv 2)) (psc (eS c T.n_Position_king (pv 0) (pv 3)) (pso (eS c T.n_Position_side (pv 0) (pv 4))))),?_⟩
 refine⟨_,rfl,_,rfl,p,dx,_,rfl,hp,(by show 0<1000;decide),_,rfl,_,rfl,p,dx,_,rfl,ups,(by show 1<1000;decide),_,rfl,_,rfl,p,dx,_,rfl,ups,(by show 2<1000;decide),_,rfl,_,rfl,p,dx,_,rfl,ups,(by show 3<1000;decide),?_⟩
 rw[upd_upd,upd_upd,upd_upd]
 exact k
def sp_cells_with (t:Adr):Sp:=λvs H Q _=>∃(l:Addr) (ms:List Tm.Mk) (k:Nat),vs=[.ref l,.int (k:Int)]/\MarksAt t H l ms/\ms.length<=1000 /\
 ∀H' l' hs,Bar [] H H'->NatsAt H' l' hs->hs.Perm (Tm.cellsSigned ms k)->hs.Pairwise (·<=·)->Q (.ref l') H'
theorem sc_cells_with:qqb ["marks","piece","mark"] ["marks","piece"] (dSc s_cells_with):=by walk_at "sc9"
def ivCW (H:Hp) (D:Addr) (ms:List Tm.Mk) (k j:Nat) (H':Hp):Prop:=H'=upd H D (.lst ((Tm.ofNats (Tm.cellsSigned (ms.take j) k)).map V.int))
theorem signed_snoc (ms:List Tm.Mk) (m:Tm.Mk) (k:Nat):Tm.cellsSigned (ms++[m]) k=Tm.cellsSigned ms k++(if m.2.2=k then [m.2.1] else []):=by
 unfold Tm.cellsSigned Tm.withSign
 rw[List.filter_append,List.map_append,List.filter_cons]
 by_cases z:m.2.2=k
 ·rw[if_pos (decide_eq_true z),if_pos z];rfl
 ·rw[if_neg (by rw[decide_eq_false z];decide),if_neg z];rfl
theorem signed_len (ms:List Tm.Mk) (k:Nat):(Tm.cellsSigned ms k).length<=ms.length:=by
 unfold Tm.cellsSigned Tm.withSign
 rw[List.length_map];exact List.length_filter_le _ _
theorem ok_cells_with (T:Txt K mg t):FnOk P w K mg base (CX1 P w) 1 t.f_cells_with t.d_cells_with ["marks","piece"] (sp_cells_with t):=by
 refine T.cells_with.F.okX sc_cells_with (λvs H Q E h=>?_) (λcdv A outer s H vs Q E hr h=>?_)
 ·obtain⟨l,ms,k,rfl,_⟩:=h;rfl
 obtain⟨l,ms,k,rfl,⟨as,hl,hp⟩,hlen,kk⟩:=h
 have nd:=sc_cells_with.nd
 have hlen2:as.length=ms.length:=Paired.length hp
 refine⟨_,pso (qqe (pe_callB call_sortedA (by rfl) T.o_sorted boot_sorted (pac (pe_lc (own:=[("mark",2)]) rfl nd (pi_list (pv 0)) (blkOk_by rfl) (λs H C cl fp=>pg_name (i:=2) nd rfl (Or.inl rfl)) (λs H C cl fp=>pts_one (qqh op_eq (eF T.Mark.c T.n_Mark_sign (pv 2)) (pv 1) (qqg _))) (λs H C cl fp=>eF T.Mark.c T.n_Mark_cell (pv 2))) pan))),?_⟩
 refine⟨_,rfl,l,rfl,⟨_,SqL.of hl⟩,λD hD=>lc_list (K:=K) (a:=l) (xs:=as.map V.ref) (ivCW H D ms k) rfl ?_ ?_ ?_⟩
 ·rintro j H3 _ rfl
  exact SqL.of (by rw[qqa (nen hl hD)];exact hl)
 ·rintro j x H3 hx rfl
  obtain⟨a,ha,rfl⟩:=refs_at' hx
  obtain⟨m,hm,dm,hma⟩:=PAt hp ha
  have hma':(upd H D (.lst ((Tm.ofNats (Tm.cellsSigned (ms.take j) k)).map V.int))) a=some (.ins t.C_Mark dm (mkF m)):=by rw[qqa (nen hma hD)];exact hma
  walk_at "rd"
  have tk:ms.take (j+1)=ms.take j++[m]:=take_snoc' hm
  have few:(Tm.cellsSigned (ms.take j) k).length<=1000:=Nat.le_trans (signed_len _ _) (Nat.le_trans (by rw[List.length_take];exact Nat.min_le_right _ _) hlen)
  refine⟨dm,_,hma',_,mkF_sign m,rfl,?_⟩
  unfold ivCW
  rw[tk,signed_snoc]
  by_cases z:m.2.2=k
  ·rw[if_pos (by rw[z]),if_pos z]
   refine⟨dm,_,hma',_,mkF_cell m,_,ups,by rw[List.length_map,Tm.ofNats_length];exact small1000 few,?_⟩
   rw[upd_upd];unfold Tm.ofNats;rw[List.map_append,List.map_append];rfl
  ·rw[if_neg (by intro y;exact z (by have:=V.int.inj y;omega)),if_neg z,List.append_nil]
 ·rintro H3 e3
  have e3:H3=upd H D (.lst ((Tm.ofNats (Tm.cellsSigned (ms.take (as.map V.ref).length) k)).map V.int)):=e3
  rw[List.length_map,hlen2,List.take_length]at e3
  subst e3
  refine⟨D,_,rfl,SqL.of ups,λns' p hp' hs' hn=>?_⟩
  obtain⟨hs,rfl,q⟩:=nats_of hp'
  exact kk _ p hs ((Bar.new hD).trans (.new hn)) ups q (nats_sorted hs')
def sp_position_of (t:Adr):Sp:=λvs H Q _=>∃(l:Addr) (ms:List Tm.Mk) (d:Nat),vs=[.ref l,.int (d:Int)]/\MarksAt t H l ms/\ms.length<=1000 /\
 ∀(H':Hp) (p:Addr) (hs mn ks:List Nat),Bar [] H H'->PosAt t H' p hs mn (ks.head?.getD 255) d->hs.Perm (Tm.cellsSigned ms 1)->hs.Pairwise (·<=·)->mn.Perm (Tm.cellsSigned ms 2)->mn.Pairwise (·<=·)->ks.Perm (Tm.cellsSigned ms 3)->Q (.ref p) H'
theorem sc_position_of:qqb ["marks","side","kings","king"] ["marks","side"] (dSc s_position_of):=by walk_at "sc9"
theorem ok_position_of (T:Txt K mg t):FnOk P w K mg base (CX1 P w) 3 t.f_position_of t.d_position_of ["marks","side"] (sp_position_of t):=by
 refine T.position_of.F.okX sc_position_of (λvs H Q E h=>?_) (λcdv A outer s H vs Q E hr h=>?_)
 ·obtain⟨l,ms,d,rfl,_⟩:=h;rfl
 obtain⟨l,ms,d,rfl,hM,hlen,kk⟩:=h
 have nd:=sc_position_of.nd
 have hr1:Room 1 _:=hr.mono (by decide)
 have CW:=ok_cells_with (P:=P) (w:=w) (base:=base) T
 refine⟨_,psc (qqd (i:=2) nd rfl (Or.inl rfl) (eC T.cells_with CW hr1 (pac (pv 0) (pac (eK T.k_KING) pan))))
  (psc (qqd (i:=3) nd rfl (Or.inl rfl) (pe_ifExp (qqh op_gt (pe_callB call_len_seq (by rfl) T.o_len PySem.boot_len (pac (pv 2) pan)) pei (qqg _)) (pe_ix ix_list (pv 2) pei (λ_ _=>rfl)) (eK T.k_TAKEN)))
  (pso (qqe (eN T.Position (ok_Position_init T) hr (pac (eC T.cells_with CW hr1 (pac (pv 0) (pac (eK T.k_HUNTER) pan))) (pac (eC T.cells_with CW hr1 (pac (pv 0) (pac (eK T.k_MAN) pan))) (pac (pv 3) (pac (pv 1) pan)))))))),?_⟩
 walk_at "rd"
 refine⟨l,ms,3,rfl,hM,hlen,λH1 l1 ks b1 n1 p1 s1=>?_⟩
 refine⟨l1,rfl,_,.inl (SqL.of n1),?_⟩
 rw[List.length_map,Tm.ofNats_length]
 have key:∀v:V,v=.int ((ks.head?.getD 255:Nat):Int)->sp_cells_with t [.ref l,.int 1] H1 (λx H3=>sp_cells_with t [.ref l,.int 2] H3 (λy H4=>∀(p dx:Addr),H4 p=none->H4 dx=none->dx≠p->sp_Position_init t [.ref p,x,y,v,.int (d:Int)] (upd (upd H4 dx (.own p)) p (.ins t.C_Position dx [])) (λu H5=>u=.non/\Q (.ref p) H5) (noX [some (.ref l),some (.int (d:Int)),some (.ref l1),some v])) (noX [some (.ref l),some (.int (d:Int)),some (.ref l1),some v])) (noX [some (.ref l),some (.int (d:Int)),some (.ref l1),some v]):=by
  rintro _ rfl
  refine⟨l,ms,1,rfl,hM.same b1,hlen,λH3 lh hs b3 n3 p3 s3=>⟨l,ms,2,rfl,hM.same (b1.trans b3),hlen,λH4 lm mn b4 n4 p4 s4 p dx hp hdx hne=>⟨p,dx,lh,lm,ks.head?.getD 255,d,rfl,ups,rfl,?_⟩⟩⟩
  have b5:=bar_made (C:=t.C_Position) (fs:=poF lh lm (ks.head?.getD 255) d) hp hdx
  exact kk _ p hs mn ks (b1.trans (b3.trans (b4.trans b5))) ⟨dx,lh,lm,ups,(n3.same b4).same b5,n4.same b5⟩ p3 s3 p4 s4 p1
 cases ks with
 | nil=>rw[if_neg (by simp)];exact key _ rfl
 | cons c ks =>
  rw[if_pos (by simp)]
  exact⟨l1,rfl,_,SqL.of n1,.int (c:Int),atI_nat (j:=0) rfl,key _ rfl⟩
def sp_start_of (t:Adr):Sp:=λvs H Q _=>∃(ru:Addr) (d:RD),vs=[.ref ru]/\RAt t H ru d /\
 ∀(H':Hp) (p:Addr) (hs mn ks:List Nat),Bar [] H H'->PosAt t H' p hs mn (ks.head?.getD 255) d.first->hs.Perm (Tm.cellsSigned d.sm 1)->hs.Pairwise (·<=·)->mn.Perm (Tm.cellsSigned d.sm 2)->mn.Pairwise (·<=·)->ks.Perm (Tm.cellsSigned d.sm 3)->Q (.ref p) H'
theorem sc_start_of:qqb ["rules"] ["rules"] (dSc s_start_of):=by walk_at "sc9"
theorem ok_start_of (T:Txt K mg t):FnOk P w K mg base (CX1 P w) 4 t.f_start_of t.d_start_of ["rules"] (sp_start_of t):=by
 refine T.start_of.F.okX sc_start_of (λvs H Q E h=>?_) (λcdv A outer s H vs Q E hr h=>?_)
 ·obtain⟨ru,d,rfl,_⟩:=h;rfl
 obtain⟨ru,d,rfl,hR,kk⟩:=h
 obtain⟨dx,fs,lg,ls,dk,hru,F,hg,hs,hk⟩:=hR.ex
 refine⟨_,pso (qqe (eC T.position_of (ok_position_of T) hr (pac (eF T.Rules.c T.n_Rules_start (pv 0)) (pac (eF T.Rules.c T.n_Rules_first (pv 0)) pan)))),?_⟩
 walk_at "rd"
 exact⟨dx,fs,hru,_,F.start,dx,fs,hru,_,F.first,ls,d.sm,d.first,rfl,hs,Nat.le_trans hR.good.sl (by decide),kk⟩
def ivCells (H:Hp) (D:Addr) (ns:List Nat) (k j:Nat) (H':Hp):Prop:=IvP H H' D ((ns.take j).map λn=>(n,k))
theorem natsI {ns:List Nat}{j:Nat}{x:V}(h:((Tm.ofNats ns).map V.int)[j]?=some x):∃n:Nat,ns[j]?=some n/\x=.int (n:Int):=by
 unfold Tm.ofNats at h
 rw[List.map_map,List.getElem?_map]at h
 obtain⟨i,h1,h2⟩:=Option.map_eq_some_iff.mp h
 exact⟨i,h1,h2.symm⟩
theorem cells_walk {K:PySem.W.Frag}{l D:Addr}{ns:List Nat}{k:Nat}{v0 v1 v2:Option V}{H:Hp}{Qd:Hp->Prop}(hl:NatsAt H l ns) (few:ns.length<sizeLine) (hD:H D=none)
  (hq:∀H',Bar [] H H'->PairsAt H' D (ns.map λn=>(n,k))->Qd H') :
  ∃W:Nat->Nat->Hp->Prop,(∃m,W 0 m (upd H D (.lst [])))/\∀i m H,W i m H->((Itl K l).stop i H/\Qd H)\/((Itl K l).go i H/\∃Nx:Hp->Prop,(∀H',Nx H'->∃m',m'<m/\W (i+1) m' H')/\∀x H',(Itl K l).yld i H x H'->gName 2 x (wipe [v0,v1,v2] [2]) H' λσ2 H2=>wipe σ2 [2]=wipe [v0,v1,v2] [2]/\tYes σ2 H2 λb H3 =>
    if b=true then tTup (tCons (tVar 2) (tCons (tC (.int (k:Int))) tNil)) σ2 H3 λy H4=>∃acc,H4 D=some (.lst acc)/\acc.length<sizeLine/\Nx (upd H4 D (.lst (acc++[y]))) else Nx H3):=by
 refine lc_list (K:=K) (a:=l) (xs:=(Tm.ofNats ns).map V.int) (ivCells H D ns k) ⟨⟨[],ups,.nil⟩,.new hD⟩ ?_ ?_ ?_
 ·rintro j H' _ ⟨_,b⟩;exact SqL.of (b.same hl)
 ·rintro j x H' hx ⟨⟨bs,h1,h2⟩,b⟩
  obtain⟨n,hn,rfl⟩:=natsI hx
  have len:(bs.map V.ref).length<sizeLine:=by
   rw[List.length_map,Paired.length h2,List.length_map,List.length_take];omega
  refine⟨rfl,?_⟩
  simp only[tYes,if_true]
  refine⟨_,rfl,(by show 2<=sizeLine;decide),λp hp'=>?_⟩
  obtain⟨e1,J⟩:=IvP.push (f:=(n,k)) hD h1 h2 b hp'
  refine⟨_,e1,len,?_⟩
  unfold ivCells
  rw[take_snoc' hn,List.map_append]
  exact J
 ·rintro H' ⟨h,b⟩
  rw[List.length_map,Tm.ofNats_length,List.take_length]at h
  exact hq H' b h
def sp_pieces_of (t:Adr):Sp:=λvs H Q _=>∃(p:Addr) (hs ms:List Nat) (k d:Nat),vs=[.ref p]/\PosAt t H p hs ms k d/\hs.length+ms.length+1<sizeLine/\∀H' l,Bar [] H H'->PairsAt H' l (Tm.pieceCells hs ms k)->Q (.ref l) H'
theorem sc_pieces_of:qqb ["position","pieces","cell"] ["position"] (dSc s_pieces_of):=by walk_at "sc9"
theorem ok_pieces_of (T:Txt K mg t):FnOk P w K mg base (CX1 P w) 1 t.f_pieces_of t.d_pieces_of ["position"] (sp_pieces_of t):=by
 refine T.pieces_of.F.okX sc_pieces_of (λvs H Q E h=>?_) (λcdv A outer s H vs Q E hr h=>?_)
 ·obtain⟨p,hs,ms,k,d,rfl,_⟩:=h;rfl
 obtain⟨p,hs,ms,k,d,rfl,⟨dx,lh,lm,hp,nh,nm⟩,hlen,kk⟩:=h
 have nd:=sc_pieces_of.nd
 have c:=T.Position.c
 refine⟨_,psc (ps_setLc (i:=1) (own:=[("cell",2)]) rfl nd rfl rfl (sw_true rfl rfl rfl rfl) (pi_list (eF c T.n_Position_hunters (pv 0))) (blkOk_by rfl) (λs H C cl fp=>pg_name (i:=2) nd rfl (Or.inl rfl)) (λs H C cl fp=>pts_nil) (λs H C cl fp=>pe_tup (pac (pv 2) (pac (eK T.k_HUNTER) pan))))
  (psc (qqj (pe_bm PySem.F.plainAttrs_list PySem.F.slot_list_extend PySem.F.type_list_extend mt_extend (pv 1) (pac (pe_lc (own:=[("cell",2)]) rfl nd (pi_list (eF c T.n_Position_men (pv 0))) (blkOk_by rfl) (λs H C cl fp=>pg_name (i:=2) nd rfl (Or.inl rfl)) (λs H C cl fp=>pts_nil) (λs H C cl fp=>pe_tup (pac (pv 2) (pac (eK T.k_MAN) pan)))) pan)))
  (psc (ps_if (qqh op_ne (eF c T.n_Position_king (pv 0)) (eK T.k_TAKEN) (qqg _)) (pso (qqj (pe_bm PySem.F.plainAttrs_list PySem.F.slot_list_append PySem.F.type_list_append mt_append (pv 1) (pac (pe_tup (pac (eF c T.n_Position_king (pv 0)) (pac (eK T.k_KING) pan))) pan)))) qqi)
  (pso (qqe (pv 1))))),?_⟩
 walk_at "rd"
 refine⟨_,rfl,p,dx,_,_,rfl,hp,poF_hunters ..,lh,rfl,⟨_,SqL.of nh⟩,λD hD=>cells_walk (k:=1) nh (by omega) hD λH2 b2 P2=>?_⟩
 obtain⟨as2,h2,hp2⟩:=id P2
 have hD0:H D=none:=hD
 refine⟨.inl ⟨rfl,_,SqL.of h2⟩,_,rfl,p,dx,_,_,rfl,b2.same hp,poF_men ..,lm,rfl,⟨_,SqL.of (nm.same b2)⟩,λD2 hD2=>cells_walk (k:=2) (nm.same b2) (by omega) hD2 λH3 b3 P3=>?_⟩
 have P2':=P2.same b3
 obtain⟨as3,h3,hp3⟩:=id P3
 obtain⟨as2',h2',hp2'⟩:=id P2'
 have B3:=b2.trans b3
 have e2:as2'.length=hs.length:=by rw[Paired.length hp2',List.length_map]
 have e3:as3.length=ms.length:=by rw[Paired.length hp3,List.length_map]
 refine⟨D,D2,_,_,rfl,rfl,h2',h3,by rw[List.length_map,List.length_map];omega,?_⟩
 have C4:=PairsAt.cat h2' hp2' hp3
 have B4:Bar [] H (upd H3 D (.lst (as2'.map V.ref++as3.map V.ref))):=λc o h _=>by rw[qqa (nen h hD0)];exact B3.same h
 generalize upd H3 D (.lst (as2'.map V.ref++as3.map V.ref))=H4 at C4 B4 ⊢
 refine⟨dx,_,B4.same hp,_,poF_king ..,rfl,?_⟩
 have ec:Tm.pieceCells hs ms k=(hs.map (λn=>(n,1))++ms.map λn=>(n,2))++(if k=255 then [] else [(k,3)]):=by unfold Tm.pieceCells;rw[List.append_assoc]
 by_cases z:k=255
 ·rw[if_neg (by rw[z];exact λq=>q rfl)]
  rw[if_pos z,List.append_nil]at ec
  exact kk _ _ B4 (by rw[ec];exact C4)
 ·rw[if_pos (λq=>z (by have:=V.int.inj q;omega))]
  rw[if_neg z]at ec
  obtain⟨as4,h4,hp4⟩:=id C4
  refine⟨.inl ⟨rfl,_,SqL.of h4⟩,dx,_,B4.same hp,_,poF_king ..,(by decide),λq hq=>?_⟩
  obtain⟨e1,J⟩:=IvP.push (f:=(k,3)) hD0 h4 hp4 B4 hq
  refine⟨D,_,_,rfl,rfl,e1,?_,kk _ _ J.bar (by rw[ec];exact J.at_)⟩
  rw[List.length_map,Paired.length hp4,List.length_append,List.length_map,List.length_map];omega
def heldOf (qs:List (Nat×Nat)):List (Key×V):=qs.map λq=>((Sum.inl (q.1:Int):Key),V.bl true)
theorem held_val (qs:List (Nat×Nat)) (c:Nat):valV (heldOf qs) (Sum.inl (c:Int):Key)=if c∈qs.map (·.1) then some (V.bl true) else none:=by
 induction qs with
 | nil=>rfl
 | cons q qs ih =>
  show valV ((Sum.inl (q.1:Int),V.bl true)::heldOf qs) _=_
  unfold valV at ih ⊢
  rw[List.find?_cons]
  by_cases z:q.1=c
  ·rw[decide_eq_true (show (Sum.inl (q.1:Int):Key)=Sum.inl (c:Int) by rw[z])]
   simp[z]
  ·rw[decide_eq_false (λy:(Sum.inl (q.1:Int):Key)=Sum.inl (c:Int)=>z (by have:=Sum.inl.inj y;omega))]
   rw[ih]
   have:c∈(q::qs).map (·.1)↔c∈qs.map (·.1):=by simp only[List.map_cons,List.mem_cons];exact⟨λh=>h.elim (λe=>absurd e.symm z) id,.inr⟩
   by_cases y:c∈qs.map (·.1)
   ·rw[if_pos y,if_pos (this.mpr y)]
   ·rw[if_neg y,if_neg (λq=>y (this.mp q))]
def sp_is_right (t:Adr):Sp:=λvs H Q _=>∃(dk p:Addr) (gm:List Tm.Mk) (hs ms:List Nat) (k d:Nat),vs=[.ref dk,.ref p]/\KindsAt H dk gm/\PosAt t H p hs ms k d/\hs.length+ms.length+1<sizeLine /\
 ∀H' r,Bar [] H H'->(r=true↔d<=1/\(∀q∈Tm.pieceCells hs ms k,Tm.mayStandN (kdOf gm q.1) q.2=true)/\((Tm.pieceCells hs ms k).map (·.1)).Nodup)->Q (.bl r) H'
theorem sc_is_right:qqb ["kinds","position","held","cell","piece"] ["kinds","position"] (dSc s_is_right):=by walk_at "sc9"
structure IvR (H0:Hp) (dk p hd:Addr) (gm:List Tm.Mk) (qs:List (Nat×Nat)) (j:Nat) (σ:St) (H:Hp):Prop where
 st:∃a b,σ=[some (.ref dk),some (.ref p),some (.ref hd),a,b]
 held:H hd=some (.dK (heldOf (qs.take j)))
 bar:Bar [hd] H0 H
 all:∀q∈qs.take j,Tm.mayStandN (kdOf gm q.1) q.2=true
 nd:((qs.take j).map (·.1)).Nodup
theorem ok_is_right (T:Txt K mg t):FnOk P w K mg base (CX1 P w) 2 t.f_is_right t.d_is_right ["kinds","position"] (sp_is_right t):=by
 refine T.is_right.F.okX sc_is_right (λvs H Q E h=>?_) (λcdv A outer s H vs Q E hr h=>?_)
 ·obtain⟨dk,p,gm,hs,ms,k,d,rfl,_⟩:=h;rfl
 obtain⟨dk,p,gm,hs,ms,k,d,rfl,hK,hP,hlen,kk⟩:=h
 have nd:=sc_is_right.nd
 have hu:=hu_of hr
 have c:=T.Position.c
 refine⟨_,psc (ps_if (qqh op_gt (eF c T.n_Position_side (pv 1)) pei (qqg _)) (pso (qqe pe_bl)) qqi)
  (psc (qqd (i:=2) nd rfl (Or.inl rfl) pe_dnewK)
  (psc (ps_for owns_fn rfl (pi_list (eC T.pieces_of (ok_pieces_of T) hr (pac (pv 1) pan))) (pg_tup (n:=2) rfl (pgs_cons (pg_name (i:=3) nd rfl (Or.inl rfl)) (pgs_cons (pg_name (i:=4) nd rfl (Or.inl rfl)) pgs_nil)))
   (psc (ps_if (PW.pt (pw_or (pt_cmp (pc_din hu (pv 3) (pv 2))) (pw_or1 (pt_not (pt_val (eC T.may_stand (ok_may_stand T) hr (pac (pv 0) (pac (pv 3) (pac (pv 4) pan))))))))) (pso (qqe pe_bl)) qqi)
    (pso (ps_dput hu (pv 2) (pv 3) pe_bl rfl))))
  (pso (qqe pe_bl)))),?_⟩
 obtain⟨dx,lh,lm,hp,nh,nm⟩:=id hP
 walk_at "rd"
 refine⟨dx,_,hp,_,poF_side ..,?_⟩
 refine⟨_,rfl,?_⟩
 by_cases hd1:1<(d:Int)
 ·rw[if_pos hd1]
  exact kk H false (.refl _ _) ⟨λz=>(by cases z),λz=>absurd z.1 (by omega)⟩
 rw[if_neg hd1]
 intro hd hh
 have b1:Bar [] H (upd H hd (.dK [])):=.new hh
 refine⟨_,rfl,p,hs,ms,k,d,rfl,hP.same b1,hlen,λH2 l b2 P2=>?_⟩
 have h1:H2 hd=some (.dK []):=b2.same ups
 have hK2:KindsAt H2 dk gm:=hK.same (b1.trans b2)
 have B2:Bar [] H H2:=b1.trans b2
 obtain⟨as,hl,hpl⟩:=id P2
 generalize hqs:Tm.pieceCells hs ms k=qs at P2 hpl kk
 have nl:l≠hd:=ne_of hl h1 (by intro z;cases z)
 have lq:qs.length<=hs.length+ms.length+1:=by
  rw[<-hqs];unfold Tm.pieceCells
  rw[List.length_append,List.length_append,List.length_map,List.length_map]
  by_cases z:k=255
  ·rw[if_pos z];simp
  ·rw[if_neg z];simp;omega
 have nk:dk≠hd:=by
  intro z
  rcases hK with q | q
  ·rw[z,hh]at q;cases q
  ·obtain⟨o,q⟩:=q;rw[z,hh]at q;cases q
 have drop:∀ {H'},Bar [hd] H2 H'->Bar [] H H':=λ{H'} b c o h _=>b c o (B2.same h) (by simpa using nen h hh)
 refine⟨l,rfl,⟨_,SqL.of hl⟩,for_list (K:=K) (a:=l) (xs:=as.map V.ref) (IvR H2 dk p hd gm qs) ⟨⟨_,_,rfl⟩,h1,.refl _ _,by simp,by simp⟩ (λj σ H' _ I=>SqL.of (I.bar _ _ hl (by simpa using nl))) ?_ ?_⟩
 ·rintro j x σ H' hx ⟨⟨a,b,rfl⟩,hh',br,al,nd'⟩
  obtain⟨c,hc,rfl⟩:=refs_at' hx
  obtain⟨q,hq,hcq⟩:=PAt hpl hc
  have hc':PairAt H' c q:=br _ _ hcq (by simpa using ne_of hcq h1 (by intro z;cases z))
  have g1:DGet H' hd (.int (q.1:Int)) (if q.1∈(qs.take j).map (·.1) then some (V.bl true) else none):=.inl ⟨_,Sum.inl (q.1:Int),.inl hh',rfl,(held_val _ _).symm⟩
  have hK':KindsAt H' dk gm:=by
   rcases hK2 with z | ⟨o,z⟩
   ·exact .inl (br _ _ z (by simpa using nk))
   ·exact .inr ⟨o,br _ _ z (by simpa using nk)⟩
  walk_at "rd"
  refine⟨_,SqT.of hc',rfl,_,_,rfl,_,_,rfl,rfl,_,g1,?_⟩
  have qin:q∈qs:=List.mem_of_getElem? hq
  have tk:qs.take (j+1)=qs.take j++[q]:=take_snoc' hq
  by_cases z:q.1∈(qs.take j).map (·.1)
  ·rw[if_pos z,if_pos (show (some (V.bl true)).isSome=true from rfl)]
   refine kk H' false (drop br) ⟨λy=>(by cases y),λy=>?_⟩
   have:=y.2.2
   rw[<-List.take_append_drop (j+1) qs,tk,List.append_assoc,List.map_append,List.nodup_append]at this
   exact absurd rfl (this.2.2 _ z _ (by simp))
  rw[if_neg z,if_neg (by simp)]
  refine⟨dk,gm,q.1,q.2,rfl,hK',_,rfl,?_⟩
  by_cases y:Tm.mayStandN (kdOf gm q.1) q.2=true
  ·rw[if_neg (by rw[y];decide)]
   have lt:(heldOf (qs.take j)).length<sizeLine:=by unfold heldOf;rw[List.length_map,List.length_take];omega
   refine⟨_,rfl,_,rfl,hd,_,rfl,DPut.k (k:=Sum.inl (q.1:Int)) hh' lt,⟨⟨_,_,rfl⟩,?_,?_,?_,?_⟩⟩
   ·rw[ups,putK_new _ (by rw[held_val,if_neg z]),tk];unfold heldOf;rw[List.map_append];rfl
   ·exact br.trans .one
   ·rw[tk];intro r hr'
    rcases List.mem_append.mp hr' with e | e
    ·exact al r e
    ·rw[List.mem_singleton.mp e];exact y
   ·rw[tk,List.map_append,List.nodup_append]
    exact⟨nd',by simp,λa ha b hb e=>z (by have:b=q.1:=(by simpa using hb);rw[<-this,<-e];exact ha)⟩
  ·rw[if_pos (by simpa using y)]
   exact kk H' false (drop br) ⟨λx=>(by cases x),λx=>absurd (x.2.1 q qin) y⟩
 ·rintro σ H' ⟨⟨a,b,rfl⟩,hh',br,al,nd'⟩
  rw[List.length_map,Paired.length hpl,List.take_length]at al nd'
  refine kk H' true (drop br) ⟨λ_=>⟨by omega,al,nd'⟩,λ_=>rfl⟩
def turnN (w h tn c:Nat):Nat:=Tafl.cellOf (Tafl.turned tn w h (c % 13) (c / 13)).2.2.1 (Tafl.turned tn w h (c % 13) (c / 13)).2.2.2
theorem turnN_eq (r:Tafl.Rules) (tn c:Nat):turnN r.wide r.high tn c=r.turnCell tn c:=rfl
theorem quarters_succ:∀(n:Nat) (s:Nat×Nat×Nat×Nat),Tafl.quarters (n+1) s=Tafl.quarter (Tafl.quarters n s)
 | 0,s=>rfl
 | n+1,s=>by
  show Tafl.quarters (n+1) (Tafl.quarter s)=_
  rw[quarters_succ n];rfl
theorem quarters_in:∀(n:Nat) (s:Nat×Nat×Nat×Nat),s.2.2.1<s.1->s.2.2.2<s.2.1->(Tafl.quarters n s).2.2.1<(Tafl.quarters n s).1/\(Tafl.quarters n s).2.2.2<(Tafl.quarters n s).2.1
 | 0,s,h1,h2=>⟨h1,h2⟩
 | n+1,s,h1,h2=>by
  rw[quarters_succ]
  have:=quarters_in n s h1 h2
  generalize Tafl.quarters n s=q at this
  unfold Tafl.quarter
  dsimp only
  omega
def sp_turned_cell (t:Adr):Sp:=λvs H Q _=>∃(ru:Addr) (d:RD) (c tn:Nat),vs=[.ref ru,.int (c:Int),.int (tn:Int)]/\RAt t H ru d/\c % 13<d.wide/\c / 13<d.high/\Q (.int ((turnN d.wide d.high tn c:Nat):Int)) H
theorem sc_turned_cell:qqb ["rules","cell","turn","x","y","wide","high","quarter","mirrored_x","other_side"] ["rules","cell","turn"] (dSc s_turned_cell):=by walk_at "sc9"
def ivTC (ru:Addr) (c tn:Nat) (s0:Nat×Nat×Nat×Nat) (H:Hp) (i:Nat) (σ:St) (H':Hp):Prop:=∃a b e:Option V,σ=[some (.ref ru),some (.int (c:Int)),some (.int (tn:Int)),some (.int ((Tafl.quarters i s0).2.2.1:Nat)),some (.int ((Tafl.quarters i s0).2.2.2:Nat)),some (.int ((Tafl.quarters i s0).1:Nat)),some (.int ((Tafl.quarters i s0).2.1:Nat)),a,b,e]/\H'=H
theorem turn_loop {ru:Addr}{w0 h0 z y c tn:Nat}{H:Hp}{D:Ends}{X:V->Hp->Prop}(hz:z<w0) (hy:y<h0)
  (q:∀σ,(∃a b e:Option V,σ=[some (.ref ru),some (.int (c:Int)),some (.int (tn:Int)),some (.int ((Tafl.quarters (tn % 4) (w0,h0,z,y)).2.2.1:Nat)),some (.int ((Tafl.quarters (tn % 4) (w0,h0,z,y)).2.2.2:Nat)),some (.int ((Tafl.quarters (tn % 4) (w0,h0,z,y)).1:Nat)),some (.int ((Tafl.quarters (tn % 4) (w0,h0,z,y)).2.1:Nat)),a,b,e])->D.nx σ H) :
  tFor (iRng1 (tCons (tOp (rI (λ_ j=>0<j) λi j=>V.int (i % j)) (tVar 2) (tC (V.int 4))) tNil)) (gName 7)
   (tSeq (tAsg (tOp (rI0 λi j=>V.int (i - j)) (tOp (rI0 λi j=>V.int (i - j)) (tVar 5) (tC (V.int 1))) (tVar 3)) (gName 8))
    (tSeq (tAsg (tVar 4) (gName 3)) (tSeq (tAsg (tVar 8) (gName 4)) (tSeq (tAsg (tVar 5) (gName 9)) (tSeq (tAsg (tVar 6) (gName 5)) (tAsg (tVar 9) (gName 6))))))) D
   [some (.ref ru),some (.int (c:Int)),some (.int (tn:Int)),some (.int (z:Nat)),some (.int (y:Nat)),some (.int (w0:Nat)),some (.int (h0:Nat)),none,none,none] H:=by
 refine⟨_,rfl,_,_,rfl,rfl,(show (0:Int)<4 by decide),((tn:Int) % 4),rfl,(by omega),(by omega),?_⟩
 have em:(((tn:Int) % 4) - 0).toNat=tn % 4:=by omega
 refine for_range (lo:=0) (ivTC ru c tn (w0,h0,z,y) H) ⟨none,none,none,rfl,rfl⟩ ?_ ?_
 ·rintro i σ H' hi ⟨a,b,e,rfl,rfl⟩
  have IN:=quarters_in i (w0,h0,z,y) hz hy
  walk_at "rd"
  unfold ivTC
  rw[quarters_succ]
  generalize Tafl.quarters i (w0,h0,z,y)=s at IN ⊢
  have e1:((Tafl.quarter s).2.2.2:Int)=(s.1:Int) - 1 - s.2.2.1:=by unfold Tafl.quarter;dsimp only;omega
  have e2:(Tafl.quarter s).2.2.1=s.2.2.2:=rfl
  have e3:(Tafl.quarter s).1=s.2.1:=rfl
  have e4:(Tafl.quarter s).2.1=s.1:=rfl
  rw[e1,e2,e3,e4]
  exact⟨_,_,_,rfl,rfl⟩
 ·rintro σ H' ⟨a,b,e,es,rfl⟩
  refine q σ ⟨a,b,e,?_⟩
  first
  | exact es
  | (rw[em]at es;exact es)
theorem ok_turned_cell (T:Txt K mg t):FnOk P w K mg base (CX1 P w) 2 t.f_turned_cell t.d_turned_cell ["rules","cell","turn"] (sp_turned_cell t):=by
 refine T.turned_cell.F.okX sc_turned_cell (λvs H Q E h=>?_) (λcdv A outer s H vs Q E hr h=>?_)
 ·obtain⟨ru,d,c,tn,rfl,_⟩:=h;rfl
 obtain⟨ru,d,c,tn,rfl,hR,hx,hy,k⟩:=h
 have nd:=sc_turned_cell.nd
 obtain⟨dx,fs,lg,ls,dk,hru,F,_⟩:=hR.ex
 have hw:=hR.good.w
 have hh:=hR.good.h
 refine⟨_,psc (qqd (i:=3) nd rfl (Or.inl rfl) (pe_op op_mod (pv 1) (eK T.k_ROW_STEP))) (psc (qqd (i:=4) nd rfl (Or.inl rfl) (pe_op op_fdiv (pv 1) (eK T.k_ROW_STEP)))
  (psc (qqd (i:=5) nd rfl (Or.inl rfl) (eF T.Rules.c T.n_Rules_wide (pv 0))) (psc (qqd (i:=6) nd rfl (Or.inl rfl) (eF T.Rules.c T.n_Rules_high (pv 0)))
  (psc (ps_if (qqh op_ge (pv 2) (eK T.k_QUARTERS) (qqg _)) (pso (qqd (i:=3) nd rfl (Or.inl rfl) (pe_op op_sub (pe_op op_sub (pv 5) pei) (pv 3)))) qqi)
  (psc (ps_for owns_fn rfl (pi_range1 (by rfl) T.o_range (pac (pe_op op_mod (pv 2) (eK T.k_QUARTERS)) pan)) (pg_name (i:=7) nd rfl (Or.inl rfl))
   (psc (qqd (i:=8) nd rfl (Or.inl rfl) (pe_op op_sub (pe_op op_sub (pv 5) pei) (pv 3))) (psc (qqd (i:=3) nd rfl (Or.inl rfl) (pv 4)) (psc (qqd (i:=4) nd rfl (Or.inl rfl) (pv 8))
   (psc (qqd (i:=9) nd rfl (Or.inl rfl) (pv 5)) (psc (qqd (i:=5) nd rfl (Or.inl rfl) (pv 6)) (pso (qqd (i:=6) nd rfl (Or.inl rfl) (pv 9)))))))))
  (pso (qqe (eC T.cell_number (ok_cell_number T) hr (pac (pv 3) (pac (pv 4) pan)))))))))),?_⟩
 walk_at "rd"
 refine⟨by decide,⟨by decide,by decide⟩,dx,fs,hru,_,F.wide,dx,fs,hru,_,F.high,?_⟩
 have fin:∀(z:Nat) (D:Ends),z=(if 4<=tn then d.wide - 1 - c % 13 else c % 13)->D.rt=Q->z<d.wide->∀σ,(∃a b e:Option V,σ=[some (.ref ru),some (.int (c:Int)),some (.int (tn:Int)),some (.int ((Tafl.quarters (tn % 4) (d.wide,d.high,z,c / 13)).2.2.1:Nat)),some (.int ((Tafl.quarters (tn % 4) (d.wide,d.high,z,c / 13)).2.2.2:Nat)),some (.int ((Tafl.quarters (tn % 4) (d.wide,d.high,z,c / 13)).1:Nat)),some (.int ((Tafl.quarters (tn % 4) (d.wide,d.high,z,c / 13)).2.1:Nat)),a,b,e])->tRet (tCallS sp_cell_number [] noX (tCons (tVar 3) (tCons (tVar 4) tNil))) D σ H:=by
  rintro z D ez eD _ _ ⟨a,b,e,rfl⟩
  refine⟨_,rfl,_,rfl,_,_,rfl,?_⟩
  rw[eD]
  have:turnN d.wide d.high tn c=13*(Tafl.quarters (tn % 4) (d.wide,d.high,z,c / 13)).2.2.2+(Tafl.quarters (tn % 4) (d.wide,d.high,z,c / 13)).2.2.1:=by
   unfold turnN Tafl.turned Tafl.cellOf
   rw[<-ez];rfl
  rw[this]at k
  have e2:((13*(Tafl.quarters (tn % 4) (d.wide,d.high,z,c / 13)).2.2.2+(Tafl.quarters (tn % 4) (d.wide,d.high,z,c / 13)).2.2.1:Nat):Int)=13*((Tafl.quarters (tn % 4) (d.wide,d.high,z,c / 13)).2.2.2:Int)+((Tafl.quarters (tn % 4) (d.wide,d.high,z,c / 13)).2.2.1:Int):=by omega
  rw[e2]at k
  exact k
 have ey:((c:Int) / 13)=((c / 13:Nat):Int):=by omega
 by_cases h4:4<=tn
 ·rw[if_pos (by omega)]
  refine⟨_,rfl,?_⟩
  have ex:(d.wide:Int) - 1 - (c:Int) % 13=((d.wide - 1 - c % 13:Nat):Int):=by omega
  rw[ex,ey]
  exact turn_loop (X:=Q) (by omega) hy (fin _ _ (by rw[if_pos h4]) rfl (by omega))
 ·rw[if_neg (by omega)]
  have ex:(c:Int) % 13=((c % 13:Nat):Int):=by omega
  rw[ex,ey]
  exact turn_loop (X:=Q) hx hy (fin _ _ (by rw[if_neg h4]) rfl hx)
def sp_keeps_size (t:Adr):Sp:=λvs H Q _=>∃(ru:Addr) (d:RD) (tn:Nat),vs=[.ref ru,.int (tn:Int)]/\RAt t H ru d/\Q (.bl (decide (d.wide=d.high\/tn % 2=0))) H
theorem sc_keeps_size:qqb ["rules","turn"] ["rules","turn"] (dSc s_keeps_size):=by walk_at "sc9"
theorem ok_keeps_size (T:Txt K mg t):FnOk P w K mg base (CX1 P w) 1 t.f_keeps_size t.d_keeps_size ["rules","turn"] (sp_keeps_size t):=by
 refine T.keeps_size.F.okX sc_keeps_size (λvs H Q E h=>?_) (λcdv A outer s H vs Q E hr h=>?_)
 ·obtain⟨ru,d,tn,rfl,_⟩:=h;rfl
 obtain⟨ru,d,tn,rfl,hR,k⟩:=h
 obtain⟨dx,fs,lg,ls,dk,hru,F,_⟩:=hR.ex
 refine⟨_,pso (qqe (pe_or (pe_cmpR op_eq (eF T.Rules.c T.n_Rules_wide (pv 0)) (eF T.Rules.c T.n_Rules_high (pv 0)) (qqg _)) (pe_one (pe_cmpR op_eq (pe_op op_mod (pv 1) pei) pei (qqg _))))),?_⟩
 walk_at "rd"
 refine⟨dx,fs,hru,_,F.wide,dx,fs,hru,_,F.high,rfl,?_⟩
 have fin:∀q:Bool,q=decide (d.wide=d.high\/tn % 2=0)->Q (.bl q) H:=λq e=>by rw[e];exact k
 by_cases z:d.wide=d.high
 ·rw[if_pos (by rw[z])];exact fin true (by simp[z])
 ·rw[if_neg (λy=>z (by have:=V.int.inj y;omega))]
  refine⟨by decide,fin _ (decide_eq_decide.mpr ?_)⟩
  constructor
  ·intro y;right;omega
  ·rintro (y | y)
   ·exact absurd y z
   ·omega
def sp_fits (t:Adr):Sp:=λvs H Q _=>∃(ru:Addr) (d:RD) (R:Tafl.Rules) (tn:Nat),vs=[.ref ru,.int (tn:Int)]/\RFull t H ru d/\Says d R/\Q (.bl (R.fits tn)) H
theorem sc_fits:qqb ["rules","turn","cell"] ["rules","turn"] (dSc s_fits):=by walk_at "sc9"
def ivFits (ru:Addr) (tn:Nat) (R:Tafl.Rules) (gm:List Tm.Mk) (HL:Hp) (i:Nat) (σ:St) (H':Hp):Prop:=(∃a,σ=[some (.ref ru),some (.int (tn:Int)),a])/\H'=HL/\∀m∈gm.take i,Tm.kindN R m.2.1=Tm.kindN R (R.turnCell tn m.2.1)
theorem ok_fits (T:Txt K mg t):FnOk P w K mg base (CX1 P w) 3 t.f_fits t.d_fits ["rules","turn"] (sp_fits t):=by
 refine T.fits.F.okX sc_fits (λvs H Q E h=>?_) (λcdv A outer s H vs Q E hr h=>?_)
 ·obtain⟨ru,d,R,tn,rfl,_⟩:=h;rfl
 obtain⟨ru,d,R,tn,rfl,hR,hS,k⟩:=h
 have nd:=sc_fits.nd
 have hu:=hu_of hr
 have hr1:Room 1 _:=hr.mono (by decide)
 have c:=T.Rules.c
 refine⟨_,psc (ps_if (pt_not (pt_val (eC T.keeps_size (ok_keeps_size T) hr1 (pac (pv 0) (pac (pv 1) pan))))) (pso (qqe pe_bl)) qqi)
  (psc (ps_lock (ps_for owns_fn rfl (pi_keys (eF c T.n_Rules_kinds (pv 0))) (pg_name (i:=2) nd rfl (Or.inl rfl))
   (pso (ps_if (qqh op_ne (pe_dget hu (eF c T.n_Rules_kinds (pv 0)) (pv 2) (λ_ _=>rfl)) (pe_dget hu (eF c T.n_Rules_kinds (pv 0)) (eC T.turned_cell (ok_turned_cell T) hr (pac (pv 0) (pac (pv 2) (pac (pv 1) pan)))) (λ_ _=>rfl)) (qqg _)) (pso (qqe pe_bl)) qqi))))
  (pso (qqe pe_bl))),?_⟩
 walk_at "rd"
 have hG:=hR.good
 have hw:R.wide<=13:=by rw[<-hS.wide];exact hG.w.2
 have hw5:0<R.wide:=by rw[<-hS.wide];exact Nat.lt_of_lt_of_le (by decide) hG.w.1
 have hh5:0<R.high:=by rw[<-hS.high];exact Nat.lt_of_lt_of_le (by decide) hG.h.1
 refine⟨ru,d,tn,rfl,hR.at_,_,rfl,?_⟩
 rw[hS.wide,hS.high]
 by_cases hk:R.wide=R.high\/tn % 2=0
 rotate_left
 ·rw[if_pos (decide_eq_false hk)]
  rw[Tm.fits_not hw5 hh5 hk]at k
  exact k
 rw[if_neg (by rw[decide_eq_true hk];decide)]
 obtain⟨dx,fs,lg,ls,dk,hru,F,hdk,hL⟩:=hR.lock
 refine⟨dk,_,hdk,trivial,λod=>?_⟩
 have hRL:=hL od
 have back:upd (upd H dk (.frz od (.dK (kvsOf d.gm)))) dk (.dK (kvsOf d.gm))=H:=by
  rw[upd_upd];funext b
  by_cases z:b=dk
  ·rw[z,ups,hdk]
  ·rw[qqa z]
 have lk:(upd H dk (.frz od (.dK (kvsOf d.gm)))) dk=some (.frz od (.dK (kvsOf d.gm))):=ups
 have hruL:(upd H dk (.frz od (.dK (kvsOf d.gm)))) ru=some (.ins t.C_Rules dx fs):=by rw[qqa (ne_of hru hdk (by intro z;cases z))];exact hru
 have hKL:KindsAt (upd H dk (.frz od (.dK (kvsOf d.gm)))) dk d.gm:=.inr ⟨od,lk⟩
 generalize upd H dk (.frz od (.dK (kvsOf d.gm)))=HL at hRL back lk hruL hKL ⊢
 have ek:∀c,kdOf d.gm c=Tm.kindN R c:=λc=>by rw[hS.gm];exact Tm.kd_kind hw c
 refine⟨_,rfl,ru,dx,fs,_,rfl,hruL,F.kinds,dk,od,rfl,.inl ⟨_,lk,?_⟩⟩
 have le:(kvsOf d.gm).length=d.gm.length:=by unfold kvsOf;rw[List.length_map]
 refine for_gen (n:=(kvsOf d.gm).length) (ivFits ru tn R d.gm HL) ⟨⟨_,rfl⟩,rfl,by simp⟩ ?_ ?_ ?_ ?_
 ·rintro i σ H' hi ⟨_,rfl,_⟩;exact⟨lk,hi⟩
 ·rintro σ H' ⟨_,rfl,_⟩;exact⟨lk,Nat.le_refl _⟩
 ·rintro i σ H' x H'' hi ⟨⟨a,rfl⟩,rfl,al⟩ ⟨rfl,key,v,hkv,rfl⟩
  unfold kvsOf at hkv
  rw[List.getElem?_map]at hkv
  obtain⟨m,hm,e⟩:=Option.map_eq_some_iff.mp hkv
  cases e
  have mem:m∈Tm.groundMarks R:=by rw[<-hS.gm];exact List.mem_of_getElem? hm
  obtain⟨p,hp,ec⟩:=Tm.ground_mem mem
  have hp':=Tm.mem_asWritten.mp hp
  have k1:=Tm.cell_kind hw hp
  have k2:=Tm.turn_kind hw hp hk
  rw[<-ec]at k1 k2
  have g1:=hKL.get m.2.1
  have g2:=hKL.get (R.turnCell tn m.2.1)
  rw[ek,k1]at g1
  rw[ek,k2]at g2
  have m13:m.2.1 % 13=p.1:=by rw[ec];exact Tm.cell_mod (by omega)
  have d13:m.2.1 / 13=p.2:=by rw[ec];exact Tm.cell_div (by omega)
  walk_at "rd"
  refine⟨dx,fs,hruL,_,F.kinds,dk,rfl,_,g1,dx,fs,hruL,_,F.kinds,ru,d,m.2.1,tn,rfl,hRL,by rw[m13,hS.wide];exact hp'.1,by rw[d13,hS.high];exact hp'.2,?_⟩
  rw[hS.wide,hS.high,turnN_eq]
  refine⟨dk,rfl,_,g2,rfl,?_⟩
  by_cases z:Tm.kindNum (R.kind p.1 p.2)=Tm.kindNum (R.kind (Tafl.turned tn R.wide R.high p.1 p.2).2.2.1 (Tafl.turned tn R.wide R.high p.1 p.2).2.2.2)
  ·rw[if_neg (by rw[z];exact λq=>q rfl)]
   refine⟨⟨_,rfl⟩,rfl,λn hn=>?_⟩
   rw[take_snoc' hm]at hn
   rcases List.mem_append.mp hn with q | q
   ·exact al n q
   ·rw[List.mem_singleton.mp q,k1,k2,z]
  ·rw[if_pos (λq=>z (by have:=V.int.inj q;omega))]
   refine⟨lk,?_⟩
   rw[back]
   have:R.fits tn=false:=by
    cases e:R.fits tn with
    | false=>rfl
    | true=>exact absurd (by rw[(Tm.fits_iff hk).mp e p hp]) z
   rw[this]at k
   exact k
 ·rintro σ H' ⟨⟨a,rfl⟩,rfl,al⟩
  rw[le,List.take_length]at al
  refine⟨lk,?_⟩
  rw[back]
  have:R.fits tn=true:=by
   rw[Tm.fits_iff hk]
   intro p hp
   obtain⟨m,hm,ec⟩:=Tm.mem_ground hp
   have q:=al m (by rw[hS.gm];exact hm)
   rw[ec,Tm.cell_kind hw hp,Tm.turn_kind hw hp hk]at q
   exact (Tm.kindNum_inj.mp (Option.some.inj q)).symm
  rw[this]at k
  exact k
def sp_fitting_turns (t:Adr):Sp:=λvs H Q _=>∃(ru:Addr) (d:RD) (R:Tafl.Rules),vs=[.ref ru]/\RFull t H ru d/\Says d R/\∀H' l,Bar [] H H'->NatsAt H' l R.turns->Q (.ref l) H'
theorem sc_fitting_turns:qqb ["rules","turn"] ["rules"] (dSc s_fitting_turns):=by walk_at "sc9"
def ivFT (H:Hp) (D:Addr) (R:Tafl.Rules) (i:Nat) (H':Hp):Prop:=H'=upd H D (.lst ((Tm.ofNats ((List.range i).filter R.fits)).map V.int))
theorem ok_fitting_turns (T:Txt K mg t):FnOk P w K mg base (CX1 P w) 4 t.f_fitting_turns t.d_fitting_turns ["rules"] (sp_fitting_turns t):=by
 refine T.fitting_turns.F.okX sc_fitting_turns (λvs H Q E h=>?_) (λcdv A outer s H vs Q E hr h=>?_)
 ·obtain⟨ru,d,R,rfl,_⟩:=h;rfl
 obtain⟨ru,d,R,rfl,hR,hS,k⟩:=h
 have nd:=sc_fitting_turns.nd
 refine⟨_,pso (qqe (pe_lc (own:=[("turn",1)]) rfl nd (pi_range1 (by rfl) T.o_range (pac (eK T.k_TURNS) pan)) (blkOk_by rfl) (λs H C cl fp=>pg_name (i:=1) nd rfl (Or.inl rfl)) (λs H C cl fp=>pts_one (pt_val (eC T.fits (ok_fits T) hr (pac (pv 0) (pac (pv 1) pan))))) (λs H C cl fp=>pv 1))),?_⟩
 walk_at "rd"
 refine⟨8,rfl,(by omega),(by omega),λD hD=>lc_gen (n:=8) (ivFT H D R) rfl ?_ ?_ ?_ ?_⟩
 ·rintro i H' hi _;exact hi
 ·rintro H' _;exact Nat.le_refl _
 ·rintro i H' x H'' hi e1 ⟨rfl,rfl⟩
  have e1:H''=upd H D (.lst ((Tm.ofNats ((List.range i).filter R.fits)).map V.int)):=e1
  have b:Bar [] H H'':=by rw[e1];exact .new hD
  have hd:H'' D=some (.lst ((Tm.ofNats ((List.range i).filter R.fits)).map V.int)):=by rw[e1];exact ups
  have few:((List.range i).filter R.fits).length<=1000:=Nat.le_trans (List.length_filter_le _ _) (by rw[List.length_range];omega)
  walk_at "rd"
  have ei:(0:Int)+(i:Nat)=((i:Nat):Int):=by omega
  refine⟨ru,d,R,i,by rw[ei],hR.same b,hS,?_⟩
  unfold ivFT
  rw[List.range_succ,List.filter_append,List.filter_cons]
  refine⟨_,rfl,?_⟩
  by_cases z:R.fits i=true
  ·rw[if_pos z,if_pos z]
   refine⟨_,hd,by rw[List.length_map,Tm.ofNats_length];exact small1000 few,?_⟩
   rw[e1,upd_upd];unfold Tm.ofNats;rw[List.map_append,List.map_append,ei];rfl
  ·rw[if_neg z,if_neg z,e1];simp
 ·rintro H' e1
  have e1:H'=upd H D (.lst ((Tm.ofNats ((List.range 8).filter R.fits)).map V.int)):=e1
  subst e1
  exact k _ D (.new hD) ups
def sp_turned_cells (t:Adr):Sp:=λvs H Q _=>∃(ru l:Addr) (d:RD) (ns:List Nat) (tn:Nat),vs=[.ref ru,.ref l,.int (tn:Int)]/\RAt t H ru d/\NatsAt H l ns/\ns.length<sizeLine/\(∀c∈ns,c % 13<d.wide/\c / 13<d.high) /\
 ∀H' l' hs,Bar [] H H'->NatsAt H' l' hs->hs.Perm (ns.map (turnN d.wide d.high tn))->hs.Pairwise (·<=·)->Q (.ref l') H'
theorem sc_turned_cells:qqb ["rules","cells","turn","cell"] ["rules","cells","turn"] (dSc s_turned_cells):=by walk_at "sc9"
def ivTCs (H:Hp) (D:Addr) (ns:List Nat) (d:RD) (tn j:Nat) (H':Hp):Prop:=H'=upd H D (.lst ((Tm.ofNats ((ns.take j).map (turnN d.wide d.high tn))).map V.int))
theorem ok_turned_cells (T:Txt K mg t):FnOk P w K mg base (CX1 P w) 3 t.f_turned_cells t.d_turned_cells ["rules","cells","turn"] (sp_turned_cells t):=by
 refine T.turned_cells.F.okX sc_turned_cells (λvs H Q E h=>?_) (λcdv A outer s H vs Q E hr h=>?_)
 ·obtain⟨ru,l,d,ns,tn,rfl,_⟩:=h;rfl
 obtain⟨ru,l,d,ns,tn,rfl,hR,hl,hlen,hc,kk⟩:=h
 have nd:=sc_turned_cells.nd
 refine⟨_,pso (qqe (pe_callB call_sortedA (by rfl) T.o_sorted boot_sorted (pac (pe_lc (own:=[("cell",3)]) rfl nd (pi_list (pv 1)) (blkOk_by rfl) (λs H C cl fp=>pg_name (i:=3) nd rfl (Or.inl rfl)) (λs H C cl fp=>pts_nil) (λs H C cl fp=>eC T.turned_cell (ok_turned_cell T) hr (pac (pv 0) (pac (pv 3) (pac (pv 2) pan))))) pan))),?_⟩
 refine⟨_,rfl,l,rfl,⟨_,SqL.of hl⟩,λD hD=>lc_list (K:=K) (a:=l) (xs:=(Tm.ofNats ns).map V.int) (ivTCs H D ns d tn) rfl ?_ ?_ ?_⟩
 ·rintro j H3 _ rfl
  exact SqL.of (by rw[qqa (nen hl hD)];exact hl)
 ·rintro j x H3 hx e3
  obtain⟨n,hn,rfl⟩:=natsI hx
  have e3:H3=upd H D (.lst ((Tm.ofNats ((ns.take j).map (turnN d.wide d.high tn))).map V.int)):=e3
  have b:Bar [] H H3:=by rw[e3];exact .new hD
  have hd:H3 D=some (.lst ((Tm.ofNats ((ns.take j).map (turnN d.wide d.high tn))).map V.int)):=by rw[e3];exact ups
  have hcn:=hc n (List.mem_of_getElem? hn)
  walk_at "rd"
  refine⟨ru,d,n,tn,rfl,hR.same b,hcn.1,hcn.2,_,hd,?_,?_⟩
  ·rw[List.length_map,Tm.ofNats_length,List.length_map,List.length_take];omega
  ·unfold ivTCs
   rw[take_snoc' hn,List.map_append,e3,upd_upd];unfold Tm.ofNats;rw[List.map_append,List.map_append];rfl
 ·rintro H3 e3
  have e3:H3=upd H D (.lst ((Tm.ofNats ((ns.take ((Tm.ofNats ns).map V.int).length).map (turnN d.wide d.high tn))).map V.int)):=e3
  rw[List.length_map,Tm.ofNats_length,List.take_length]at e3
  subst e3
  refine⟨D,_,rfl,SqL.of ups,λns' p hp' hs' hn=>?_⟩
  obtain⟨hs,rfl,q⟩:=nats_of hp'
  exact kk _ p hs ((Bar.new hD).trans (.new hn)) ups q (nats_sorted hs')
def kingN (w h tn k:Nat):Nat:=if k=255 then 255 else turnN w h tn k
def sp_turned (t:Adr):Sp:=λvs H Q _=>∃(ru p:Addr) (d:RD) (hs ms:List Nat) (k sd tn:Nat),vs=[.ref ru,.ref p,.int (tn:Int)]/\RAt t H ru d/\PosAt t H p hs ms k sd/\hs.length+ms.length<sizeLine/\(∀c∈hs++ms,c % 13<d.wide/\c / 13<d.high)/\(k≠255->k % 13<d.wide/\k / 13<d.high) /\
 ∀H' p' hs' ms',Bar [] H H'->PosAt t H' p' hs' ms' (kingN d.wide d.high tn k) sd->hs'.Perm (hs.map (turnN d.wide d.high tn))->hs'.Pairwise (·<=·)->ms'.Perm (ms.map (turnN d.wide d.high tn))->ms'.Pairwise (·<=·)->Q (.ref p') H'
theorem sc_turned:qqb ["rules","position","turn","hunters","men","king"] ["rules","position","turn"] (dSc s_turned):=by walk_at "sc9"
theorem ok_turned (T:Txt K mg t):FnOk P w K mg base (CX1 P w) 4 t.f_turned t.d_turned ["rules","position","turn"] (sp_turned t):=by
 refine T.turned.F.okX sc_turned (λvs H Q E h=>?_) (λcdv A outer s H vs Q E hr h=>?_)
 ·obtain⟨ru,p,d,hs,ms,k,sd,tn,rfl,_⟩:=h;rfl
 obtain⟨ru,p,d,hs,ms,k,sd,tn,rfl,hR,hP,hlen,hc,hk,kk⟩:=h
 have nd:=sc_turned.nd
 have c:=T.Position.c
 have hr2:Room 2 _:=hr.mono (by decide)
 have TC:=ok_turned_cells (P:=P) (w:=w) (base:=base) T
 obtain⟨dx,lh,lm,hp,nh,nm⟩:=id hP
 refine⟨_,psc (qqd (i:=3) nd rfl (Or.inl rfl) (eC T.turned_cells TC hr (pac (pv 0) (pac (eF c T.n_Position_hunters (pv 1)) (pac (pv 2) pan)))))
  (psc (qqd (i:=4) nd rfl (Or.inl rfl) (eC T.turned_cells TC hr (pac (pv 0) (pac (eF c T.n_Position_men (pv 1)) (pac (pv 2) pan)))))
  (psc (qqd (i:=5) nd rfl (Or.inl rfl) (eF c T.n_Position_king (pv 1)))
  (psc (ps_if (qqh op_ne (pv 5) (eK T.k_TAKEN) (qqg _)) (pso (qqd (i:=5) nd rfl (Or.inl rfl) (eC T.turned_cell (ok_turned_cell T) hr2 (pac (pv 0) (pac (pv 5) (pac (pv 2) pan)))))) qqi)
  (pso (qqe (eN T.Position (ok_Position_init T) hr2 (pac (pv 3) (pac (pv 4) (pac (pv 5) (pac (eF c T.n_Position_side (pv 1)) pan)))))))))),?_⟩
 walk_at "rd"
 refine⟨dx,_,hp,_,poF_hunters ..,ru,lh,d,hs,tn,rfl,hR,nh,by omega,λx hx=>hc x (by simp[hx]),λH1 l1 hs' b1 n1 p1 s1=>?_⟩
 refine⟨dx,_,b1.same hp,_,poF_men ..,ru,lm,d,ms,tn,rfl,hR.same b1,nm.same b1,by omega,λx hx=>hc x (by simp[hx]),λH2 l2 ms' b2 n2 p2 s2=>?_⟩
 have B2:=b1.trans b2
 refine⟨dx,_,B2.same hp,_,poF_king ..,?_⟩
 have key:∀(kn:Nat),kn=kingN d.wide d.high tn k->∃x x_1,H2 p=some (HO.ins t.C_Position x x_1)/\∃x,List.lookup ("side":Str) x_1=some x/\∀(x_2 dx:Addr),H2 x_2=none->H2 dx=none->dx≠x_2 ->
   sp_Position_init t [V.ref x_2,V.ref l1,V.ref l2,V.int (kn:Nat),x] (upd (upd H2 dx (HO.own x_2)) x_2 (HO.ins t.C_Position dx [])) (λv H2=>v=V.non/\Q (V.ref x_2) H2) λx x_3 x_4=>False:=by
  rintro _ rfl
  refine⟨dx,_,B2.same hp,_,poF_side ..,λq dq hq hdq _=>⟨q,dq,l1,l2,_,sd,rfl,ups,rfl,?_⟩⟩
  have b5:=bar_made (C:=t.C_Position) (fs:=poF l1 l2 (kingN d.wide d.high tn k) sd) hq hdq
  exact kk _ q hs' ms' (B2.trans b5) ⟨dq,l1,l2,ups,(n1.same b2).same b5,n2.same b5⟩ p1 s1 p2 s2
 refine⟨rfl,?_⟩
 by_cases z:k=255
 ·rw[if_neg (by rw[z];exact λq=>q rfl)]
  exact key k (by unfold kingN;rw[if_pos z,z])
 ·rw[if_pos (λq=>z (by have:=V.int.inj q;omega))]
  exact⟨ru,d,k,tn,rfl,hR.same B2,(hk z).1,(hk z).2,key _ (by unfold kingN;rw[if_neg z])⟩
def SB (s:Str) (b:Tafl.Bytes):Prop:=s.cps.toList=b.map UInt8.toNat
theorem SB.app {s u:Str}{a b:Tafl.Bytes}(h1:SB s a) (h2:SB u b):SB (s++u) (a++b):=by
 have e:(s++u).cps.toList=s.cps.toList++u.cps.toList:=TL.tl_append s u
 unfold SB;rw[e,h1,h2,List.map_append]
theorem SB.len {s:Str}{a:Tafl.Bytes}(h:SB s a):s.length=a.length:=by
 have e:s.length=s.cps.toList.length:=TL.len_tl s
 rw[e,h,List.length_map]
theorem gap_small:∀n:Nat,n<=13->0<n->SB (Str.ofString (toString ((n:Nat):Int))) (Tm.gapText n)/\(Tm.gapText n).length<=2:=by
 intro n h0 h1
 have:n=1\/n=2\/n=3\/n=4\/n=5\/n=6\/n=7\/n=8\/n=9\/n=10\/n=11\/n=12\/n=13:=by omega
 rcases this with rfl | rfl | rfl | rfl | rfl | rfl | rfl | rfl | rfl | rfl | rfl | rfl | rfl <;> (unfold SB;decide +kernel)
theorem gap_len {n:Nat}(h:n<=13):(Tm.gapText n).length<=2:=by
 by_cases z:n=0
 ·subst z;decide
 ·exact (gap_small n h (by omega)).2
def sp_gap_text:Sp:=λvs H Q _=>∃n:Nat,vs=[.int (n:Int)]/\n<=13/\∀s,SB s (Tm.gapText n)->Q (.str s) H
theorem sc_gap_text:qqb ["gap"] ["gap"] (dSc s_gap_text):=by walk_at "sc9"
theorem ok_gap_text (T:Txt K mg t):FnOk P w K mg base (CX1 P w) 1 t.f_gap_text t.d_gap_text ["gap"] sp_gap_text:=by
 refine T.gap_text.F.okX sc_gap_text (λvs H Q E h=>?_) (λcdv A outer s H vs Q E hr h=>?_)
 ·obtain⟨n,rfl,_⟩:=h;rfl
 obtain⟨n,rfl,h13,k⟩:=h
 refine⟨_,pso (qqe (pe_ifExp (qqh op_gt (pv 0) pei (qqg _)) (pe_callTy call_str_int (by rfl) T.o_str boot_str (pac (pv 0) pan)) pe_str)),?_⟩
 walk_at "rd"
 by_cases z:0<n
 ·rw[if_pos (by omega)]
  refine⟨?_,k _ (gap_small n h13 z).1⟩
  exact Nat.lt_of_le_of_lt (Nat.log2_le_self _) (by omega)
 ·rw[if_neg (by omega)]
  have:n=0:=by omega
  subst this
  exact k _ (by unfold SB;decide)
def sp_row_text (t:Adr):Sp:=λvs H Q _=>∃(ru dp:Addr) (d:RD) (y:Nat) (kvs:List (Key×V)) (f:Nat->Tafl.Piece),vs=[.ref ru,.ref dp,.int (y:Int)]/\RAt t H ru d/\H dp=some (.dK kvs) /\
 (∀x,x<d.wide->(valV kvs (Sum.inl (13*(y:Int)+(x:Int)):Key)).getD (.int 0)=.int (Tm.pieceNum (f x):Nat))/\∀s,SB s (Tafl.rowLine 0 ((List.range d.wide).map f))->(Tafl.rowLine 0 ((List.range d.wide).map f)).length<=50->Q (.str s) H
theorem sc_row_text:qqb ["rules","pieces","y","text","gap","x","piece"] ["rules","pieces","y"] (dSc s_row_text):=by walk_at "sc9"
structure IvRT (H:Hp) (ru dp:Addr) (y wd:Nat) (f:Nat->Tafl.Piece) (i:Nat) (σ:St) (H':Hp):Prop where
 ex:∃(s:Str) (tx:Tafl.Bytes) (g:Nat) (a b:Option V),σ=[some (.ref ru),some (.ref dp),some (.int (y:Int)),some (.str s),some (.int (g:Int)),a,b]/\SB s tx/\g<=i/\tx.length<=3*i /\
  Tafl.rowLine 0 ((List.range wd).map f)=tx++Tafl.rowLine g (((List.range wd).map f).drop i)
 hp:H'=H
theorem ok_row_text (T:Txt K mg t):FnOk P w K mg base (CX1 P w) 2 t.f_row_text t.d_row_text ["rules","pieces","y"] (sp_row_text t):=by
 refine T.row_text.F.okX sc_row_text (λvs H Q E h=>?_) (λcdv A outer s H vs Q E hr h=>?_)
 ·obtain⟨ru,dp,d,y,kvs,f,rfl,_⟩:=h;rfl
 obtain⟨ru,dp,d,y,kvs,f,rfl,hR,hdp,hf,k⟩:=h
 have nd:=sc_row_text.nd
 have hu:=hu_of hr
 obtain⟨dx,fs,lg,ls,dk,hru,F,_⟩:=hR.ex
 have w13:=hR.good.w.2
 have GT:=ok_gap_text (P:=P) (w:=w) (base:=base) T
 refine⟨_,psc (qqd (i:=3) nd rfl (Or.inl rfl) pe_str) (psc (qqd (i:=4) nd rfl (Or.inl rfl) pei)
  (psc (ps_for owns_fn rfl (pi_range1 (by rfl) T.o_range (pac (eF T.Rules.c T.n_Rules_wide (pv 0)) pan)) (pg_name (i:=5) nd rfl (Or.inl rfl))
   (psc (qqd (i:=6) nd rfl (Or.inl rfl) (pe_dget2 hu (pv 1) (eC T.cell_number (ok_cell_number T) hr (pac (pv 5) (pac (pv 2) pan))) (eK T.k_NOBODY) ⟨rfl,rfl,rfl,rfl⟩))
   (pso (ps_if (qqh op_eq (pv 6) (eK T.k_NOBODY) (qqg _)) (pso (qqd (i:=4) nd rfl (Or.inl rfl) (pe_op op_add (pv 4) pei)))
    (psc (qqd (i:=3) nd rfl (Or.inl rfl) (pe_op op_add_str (pe_op op_add_str (pv 3) (eC T.gap_text GT hr (pac (pv 4) pan))) (pe_ix (ix_tupK K) (eKt T.k_PIECE_SIGNS) (pv 6) (λ_ _=>rfl))))
    (pso (qqd (i:=4) nd rfl (Or.inl rfl) pei)))))))
  (pso (qqe (pe_op op_add_str (pv 3) (eC T.gap_text GT hr (pac (pv 4) pan))))))),?_⟩
 walk_at "rd"
 refine⟨_,rfl,ru,dx,fs,_,rfl,hru,F.wide,(d.wide:Int),rfl,(by omega),(by omega),for_range (lo:=0) (IvRT H ru dp y d.wide f) ⟨⟨_,[],0,none,none,rfl,by unfold SB;decide,Nat.le_refl _,by simp,by simp⟩,rfl⟩ ?_ ?_⟩
 ·rintro i σ H' hi ⟨⟨s,tx,g,a,b,rfl,hs,hg,hl,e⟩,rfl⟩
  have hi':i<d.wide:=by omega
  have ei:(0:Int)+(i:Nat)=(i:Nat):=by omega
  have dr:((List.range d.wide).map f).drop i=f i::((List.range d.wide).map f).drop (i+1):=by
   rw[List.drop_eq_getElem_cons (by simpa using hi')];simp
  walk_at "rd"
  have g1:DGet H' dp (.int (13*(y:Int)+(0+(i:Nat)))) (valV kvs (Sum.inl (13*(y:Int)+(i:Nat)):Key)):=.inl ⟨kvs,Sum.inl (13*(y:Int)+(i:Nat)),.inl hdp,by rw[ei];rfl,rfl⟩
  refine⟨.inl ⟨kvs,.inl hdp⟩,_,_,rfl,_,g1,?_⟩
  rw[hf i hi']
  refine⟨rfl,?_⟩
  by_cases z:f i=.none
  ·rw[if_pos (by rw[z];rfl)]
   refine⟨⟨s,tx,g+1,_,_,rfl,hs,by omega,by omega,?_⟩,rfl⟩
   rw[e,dr,z,Tm.rowLine_gap]
  ·have hn:∃u:Str,atI [V.str ".",V.str "h",V.str "m",V.str "K"] ((Tm.pieceNum (f i):Nat):Int)=some (.str u)/\SB u [Tafl.pieceByte (f i)]/\¬V.int ((Tm.pieceNum (f i):Nat):Int)=V.int 0:=by
    cases q:f i with
    | none=>exact absurd q z
    | hunter=>exact⟨"h",rfl,by unfold SB;decide,by decide⟩
    | man=>exact⟨"m",rfl,by unfold SB;decide,by decide⟩
    | king=>exact⟨"K",rfl,by unfold SB;decide,by decide⟩
   obtain⟨u,hu1,hu2,hu3⟩:=hn
   rw[if_neg hu3]
   have gl:=gap_len (n:=g) (by omega)
   refine⟨g,rfl,by omega,λv hv=>⟨v,rfl,?_,_,_,rfl,T.k_PIECE_SIGNS.s _,_,hu1,u,rfl,?_,⟨⟨_,tx++Tm.gapText g++[Tafl.pieceByte (f i)],0,_,_,rfl,(hs.app hv).app hu2,Nat.zero_le _,?_,?_⟩,rfl⟩⟩⟩
   ·rw[hs.len,hv.len,sizeLine_eq];omega
   ·rw[(hs.app hv).len,hu2.len,List.length_append,sizeLine_eq]
    show _+1<=_
    omega
   ·rw[List.length_append,List.length_append]
    show _+1<=_
    omega
   ·rw[e,dr,Tm.rowLine_piece _ _ z];simp
 ·rintro σ H' ⟨⟨s,tx,g,a,b,rfl,hs,hg,hl,e⟩,rfl⟩
  have ew:((d.wide:Int)).toNat=d.wide:=by omega
  rw[ew]at hg hl e
  rw[List.drop_eq_nil_of_le (by simp),Tm.rowLine_nil]at e
  have gl:=gap_len (n:=g) (by omega)
  walk_at "rd"
  refine⟨g,rfl,by omega,λu hu'=>⟨u,rfl,?_,k _ ?_ ?_⟩⟩
  ·rw[hs.len,hu'.len,sizeLine_eq];omega
  ·rw[e];exact hs.app hu'
  ·rw[e,List.length_append];omega
def pcKvs (qs:List (Nat×Nat)):List (Key×V):=qs.map λq=>((Sum.inl (q.1:Int):Key),V.int (q.2:Int))
theorem pc_val (qs:List (Nat×Nat)) (c:Nat):valV (pcKvs qs) (Sum.inl (c:Int):Key)=(qs.lookup c).map λn=>V.int (n:Int):=by
 induction qs with
 | nil=>rfl
 | cons q qs ih =>
  show valV ((Sum.inl (q.1:Int),V.int (q.2:Int))::pcKvs qs) _=_
  obtain⟨a,b⟩:=q
  unfold valV at ih ⊢
  rw[List.find?_cons]
  by_cases z:a=c
  ·rw[decide_eq_true (show (Sum.inl (a:Int):Key)=Sum.inl (c:Int) by rw[z])]
   rw[z,List.lookup_cons]
   simp
  ·rw[decide_eq_false (λy:(Sum.inl (a:Int):Key)=Sum.inl (c:Int)=>z (by have:=Sum.inl.inj y;omega))]
   rw[List.lookup_cons,show (c == a)=false from beq_false_of_ne (λe=>z e.symm)]
   exact ih
theorem paired_pc {K:PySem.W.Frag}{H:Hp}:∀ {qs:List (Nat×Nat)}{as:List Addr},Paired (PairAt H) as qs->Paired (λp (kv:Key×V)=>SqT K H p [kV kv.1,kv.2]) as (pcKvs qs)
 | [],_,h=>by cases h;exact .nil
 | q::qs,_,h=>by
  cases h with
  | cons a b=>exact .cons (SqT.of a) (paired_pc b)
theorem pc_nodup {qs:List (Nat×Nat)}(h:(qs.map (·.1)).Nodup):((pcKvs qs).map (·.1)).Nodup:=by
 unfold pcKvs
 rw[List.map_map]
 exact (Tm.nodup_map_of (f:=λc:Nat=>(Sum.inl (c:Int):Key)) h λa _ b _ z=>by have:=Sum.inl.inj z;omega) |> λh=>by rw[List.map_map]at h;exact h
theorem join_strokes:∀bs:List Tafl.Bytes,TL.joinL [47] (bs.map λb=>b.map UInt8.toNat)=(Tm.strokes bs).map UInt8.toNat
 | []=>rfl
 | [a]=>rfl
 | a::b::l=>by
  show a.map UInt8.toNat++([47]++TL.joinL [47] ((b::l).map λb=>b.map UInt8.toNat))=_
  rw[join_strokes (b::l)]
  show _=(a++(47::Tm.strokes (b::l))).map UInt8.toNat
  rw[List.map_append];rfl
theorem tls_of:∀ {ss:List Str}{bs:List Tafl.Bytes},Paired SB ss bs->ss.map (λs:Str=>s.cps.toList)=bs.map λb=>b.map UInt8.toNat
 | _,_,.nil=>rfl
 | _,_,.cons a b=>by rw[List.map_cons,List.map_cons,tls_of b,a]
theorem sb_join {ss:List Str}{bs:List Tafl.Bytes}(h:Paired SB ss bs):SB (PySem.Txt.join "/" ss) (Tm.strokes bs):=by
 unfold SB
 rw[TL.join_eq]
 have e:=TL.tl_join "/" ss
 have e2:ss.map TL.tl=bs.map λb=>b.map UInt8.toNat:=tls_of h
 rw[e2]at e
 exact e.trans (join_strokes bs)
theorem sum_le {bs:List Tafl.Bytes}:∀ {ss:List Str},Paired SB ss bs->(∀b∈bs,b.length<=50)->(ss.map (·.length)).sum<=50*bs.length:=by
 induction bs with
 | nil=>intro ss h _;cases h;simp
 | cons b bs ih =>
  intro ss h hb
  cases h with
  | cons a c =>
   have z:=ih c λx hx=>hb x (by simp[hx])
   have y:=hb b (by simp)
   rw[List.map_cons,List.sum_cons,a.len,List.length_cons]
   omega
theorem strokes_len:∀bs:List Tafl.Bytes,(∀b∈bs,b.length<=50)->(Tm.strokes bs).length<=51*bs.length
 | [],_=>by simp[Tm.strokes]
 | [a],h=>by have:=h a (by simp);simp[Tm.strokes];omega
 | a::b::l,h=>by
  have:=h a (by simp)
  have:=strokes_len (b::l) λx hx=>h x (by simp[hx])
  show (a++(47::Tm.strokes (b::l))).length<=_
  rw[List.length_append,List.length_cons,List.length_cons (a:=a)]
  omega
theorem side_sign {sd:Nat}(h:sd<=1):∃u:Str,atI [V.str "h",V.str "k"] ((sd:Nat):Int)=some (.str u)/\SB u [Tm.sideByte sd]:=by
 have:sd=0\/sd=1:=by omega
 rcases this with rfl | rfl
 ·exact⟨"h",rfl,by unfold SB;decide⟩
 ·exact⟨"k",rfl,by unfold SB;decide⟩
def ivOrd (H:Hp) (D:Addr) (b:Tafl.Bytes) (i:Nat) (H':Hp):Prop:=H'=upd H D (.lst ((Tm.ofBytes (b.take i)).map V.int))
def sp_line_of (t:Adr):Sp:=λvs H Q _=>∃(ru p:Addr) (d:RD) (R:Tafl.Rules) (pos:Tafl.Pos) (hs ms:List Nat),vs=[.ref ru,.ref p]/\RAt t H ru d/\Says d R/\PosAt t H p hs ms pos.king pos.side/\Tm.PosIs pos hs ms/\Tm.rightN R hs ms pos.king pos.side/\hs.length+ms.length+1<sizeLine /\
 ∀H' l,Bar [] H H'->TextAt H' l (R.line pos)->Q (.ref l) H'
theorem sc_line_of:qqb ["rules","position","pieces","rows","text","y","sign"] ["rules","position"] (dSc s_line_of):=by walk_at "sc9"
def rowB (R:Tafl.Rules) (pos:Tafl.Pos) (i:Nat):Tafl.Bytes:=Tafl.rowLine 0 (R.rowOf pos (R.high - 1 - i))
def ivLO (H:Hp) (D:Addr) (R:Tafl.Rules) (pos:Tafl.Pos) (i:Nat) (H':Hp):Prop:=∃ss:List Str,H'=upd H D (.lst (ss.map V.str))/\Paired SB ss ((List.range i).map (rowB R pos))/\∀b∈(List.range i).map (rowB R pos),b.length<=50
theorem ok_line_of (T:Txt K mg t):FnOk P w K mg base (CX1 P w) 3 t.f_line_of t.d_line_of ["rules","position"] (sp_line_of t):=by
 refine T.line_of.F.okX sc_line_of (λvs H Q E h=>?_) (λcdv A outer s H vs Q E hr h=>?_)
 ·obtain⟨ru,p,d,R,pos,hs,ms,rfl,_⟩:=h;rfl
 obtain⟨ru,p,d,R,pos,hs,ms,rfl,hR,hS,hP,PI,rt,hlen,k⟩:=h
 have nd:=sc_line_of.nd
 have hr1:Room 1 _:=hr.mono (by decide)
 obtain⟨dx,fs,lg,ls,dk,hru,F,_⟩:=hR.ex
 obtain⟨dp,lh,lm,hp,nh,nm⟩:=id hP
 have w13:=hR.good.w.2
 have h13:=hR.good.h
 refine⟨_,psc (qqd (i:=2) nd rfl (Or.inr rfl) (pe_callTy (call_dictP rfl) (by rfl) T.o_dict boot_dict (pac (eC T.pieces_of (ok_pieces_of T) hr1 (pac (pv 1) pan)) pan)))
  (psc (ps_setLc (i:=3) (own:=[("y",5)]) rfl nd rfl rfl (sw_true rfl rfl rfl rfl) (pi_range3 (by rfl) T.o_range (pac (pe_op op_sub (eF T.Rules.c T.n_Rules_high (pv 0)) pei) (pac (pe_un un_neg pei) (pac (pe_un un_neg pei) pan)))) (blkOk_by rfl) (λs H C cl fp=>pg_name (i:=5) nd rfl (Or.inl rfl)) (λs H C cl fp=>pts_nil) (λs H C cl fp=>eC T.row_text (ok_row_text T) hr (pac (pv 0) (pac (pv 2) (pac (pv 5) pan)))))
  (psc (qqd (i:=4) nd rfl (Or.inl rfl) (pe_op op_add_str (pe_op op_add_str (pe_join pe_str (pv 3)) pe_str) (pe_ix (ix_tupK K) (eKt T.k_SIDE_SIGNS) (eF T.Position.c T.n_Position_side (pv 1)) (λ_ _=>rfl))))
  (pso (qqe (pe_lc (own:=[("sign",6)]) rfl nd (pi_str (pv 4)) (blkOk_by rfl) (λs H C cl fp=>pg_name (i:=6) nd rfl (Or.inl rfl)) (λs H C cl fp=>pts_nil) (λs H C cl fp=>pe_callB call_ord (by rfl) T.o_ord bootS_ord (pac (pv 6) pan))))))),?_⟩
 walk_at "rd"
 refine⟨p,hs,ms,pos.king,pos.side,rfl,hP,hlen,λH1 l1 b1 P1=>?_⟩
 obtain⟨as,h1,p1⟩:=id P1
 refine⟨l1,rfl,as,SqL.of h1,_,paired_pc p1,λdd hdd=>?_⟩
 rw[merge_new _ _ (by rw[List.nil_append];exact pc_nodup rt.2.2),List.nil_append]
 have b2:Bar [] H1 (upd H1 dd (.dK (pcKvs (Tm.pieceCells hs ms pos.king)))):=.new hdd
 have hd2:(upd H1 dd (.dK (pcKvs (Tm.pieceCells hs ms pos.king)))) dd=some (.dK (pcKvs (Tm.pieceCells hs ms pos.king))):=ups
 generalize upd H1 dd (.dK (pcKvs (Tm.pieceCells hs ms pos.king)))=H2 at b2 hd2 ⊢
 have B2:=b1.trans b2
 have hh:d.high=R.high:=hS.high
 refine⟨_,rfl,ru,dx,fs,_,rfl,B2.same hru,F.high,_,_,rfl,rfl,_,rfl,_,rfl,_,_,_,_,rfl,RgC.neg (i:=(d.high:Int) - 1) (j:=-1) (by omega) (by omega) (by decide) (by decide),λD hD=>lc_gen (n:=((d.high:Int) - 1 - (-1)).toNat) (ivLO H2 D R pos) ⟨[],rfl,.nil,by simp⟩ ?_ ?_ ?_ ?_⟩
 ·rintro i H' hi _;exact hi
 ·rintro H' _;exact Nat.le_refl _
 ·rintro i H' x H'' hi ⟨ss,e1,pr,sm⟩ ⟨rfl,rfl⟩
  have hi':i<R.high:=by omega
  have ey:(d.high:Int) - 1+(i:Nat)*-1=((R.high - 1 - i:Nat):Int):=by omega
  have b3:Bar [] H2 H'':=by rw[e1];exact .new hD
  have hD3:H'' D=some (.lst (ss.map V.str)):=by rw[e1];exact ups
  walk_at "rd"
  refine⟨ru,dd,d,R.high - 1 - i,_,λx=>pos.on (Tafl.cellOf x (R.high - 1 - i)),by rw[ey],hR.same (B2.trans b3),b3.same hd2,λx hx=>?_,λu hu hl=>⟨_,hD3,?_,ss++[u],?_,?_,?_⟩⟩
  ·have ec:13*((R.high - 1 - i:Nat):Int)+(x:Int)=((Tafl.cellOf x (R.high - 1 - i):Nat):Int):=by unfold Tafl.cellOf Tafl.STRIDE;omega
   rw[ec,pc_val]
   have z:=Tm.on_lookup PI rt.2.2 (c:=Tafl.cellOf x (R.high - 1 - i)) (by unfold Tafl.cellOf Tafl.STRIDE;omega)
   rw[<-z]
   cases (Tm.pieceCells hs ms pos.king).lookup (Tafl.cellOf x (R.high - 1 - i)) with
   | none=>rfl
   | some n=>rfl
  ·rw[List.length_map,Paired.length pr,List.length_map,List.length_range,sizeLine_eq];omega
  ·rw[e1,upd_upd,List.map_append];rfl
  ·rw[List.range_succ,List.map_append]
   refine PSnoc ?_ pr
   rw[hS.wide]at hu
   exact hu
  ·rw[List.range_succ,List.map_append]
   intro b hb
   rcases List.mem_append.mp hb with q | q
   ·exact sm b q
   ·rw[List.mem_singleton.mp q]
    rw[hS.wide]at hl
    exact hl
 ·rintro H3 ⟨ss,e1,pr,sm⟩
  have en:((d.high:Int) - 1 - (-1)).toNat=R.high:=by omega
  rw[en]at pr sm
  have b3:Bar [] H2 H3:=by rw[e1];exact .new hD
  have hD3:H3 D=some (.lst (ss.map V.str)):=by rw[e1];exact ups
  have B3:=B2.trans b3
  have s1:=sum_le pr sm
  have s2:=strokes_len _ sm
  rw[List.length_map,List.length_range]at s1 s2
  have ls':ss.length=R.high:=by rw[Paired.length pr,List.length_map,List.length_range]
  obtain⟨u,hu1,hu2⟩:=side_sign rt.1
  have hj:=sb_join pr
  have hX:SB (PySem.Txt.join "/" ss++" "++u) (R.line pos):=by
   rw[Tm.line_eq]
   have:=(hj.app (show SB (" ":Str) [32] by unfold SB;decide)).app hu2
   rw[List.append_assoc]at this
   exact this
  have lX:(R.line pos).length<=1000:=by
   rw[Tm.line_eq,List.length_append]
   show (Tm.strokes ((List.range R.high).map (rowB R pos))).length+2<=1000
   omega
  have l1:(PySem.Txt.join "/" ss).length<=1000:=by rw[hj.len];omega
  refine⟨⟨_,rfl⟩,_,rfl,_,rfl,D,rfl,ss,.inl (SqL.of hD3),?_,_,rfl,?_,dp,_,B3.same hp,_,poF_side ..,_,_,rfl,T.k_SIDE_SIGNS.s _,_,hu1,u,rfl,?_,?_⟩
  ·rw[ls'];show _+R.high*1<=_;omega
  ·rw[sizeLine_eq];show _+1<=_;omega
  ·rw[(hj.app (show SB (" ":Str) [32] by unfold SB;decide)).len,hu2.len,List.length_append,sizeLine_eq]
   rw[hj.len]at l1
   show _+1+1<=_
   omega
  ·generalize PySem.Txt.join "/" ss++" "++u=X at hX ⊢
   have sz:X.cps.size=(R.line pos).length:=by rw[<-Array.length_toList,hX,List.length_map]
   refine⟨_,rfl,X,rfl,λD2 hD2=>lc_gen (n:=X.cps.size) (ivOrd H3 D2 (R.line pos)) rfl ?_ ?_ ?_ ?_⟩
   ·rintro i H' hi _;exact hi
   ·rintro H' _;exact Nat.le_refl _
   ·rintro i H' x H'' hi e4 ⟨rfl,c,hc,rfl⟩
    have e4:H''=upd H3 D2 (.lst ((Tm.ofBytes ((R.line pos).take i)).map V.int)):=e4
    have hD4:H'' D2=some (.lst ((Tm.ofBytes ((R.line pos).take i)).map V.int)):=by rw[e4];exact ups
    rw[<-Array.getElem?_toList,hX,List.getElem?_map]at hc
    obtain⟨b,hb,rfl⟩:=Option.map_eq_some_iff.mp hc
    walk_at "rd"
    refine⟨rfl,_,hD4,?_,?_⟩
    ·rw[List.length_map,Tm.ofBytes_length,List.length_take,sizeLine_eq];omega
    ·unfold ivOrd
     rw[take_snoc' hb,e4,upd_upd];unfold Tm.ofBytes;rw[List.map_append,List.map_append];rfl
   ·rintro H4 e4
    have e4:H4=upd H3 D2 (.lst ((Tm.ofBytes ((R.line pos).take X.cps.size)).map V.int)):=e4
    rw[sz,List.take_length]at e4
    subst e4
    exact k _ D2 (B3.trans (.new hD2)) ups
theorem SqL.bar {K:PySem.W.Frag}{H H':Hp}{a:Addr}{xs:List V}{ps:List Addr}(h:SqL K H a xs) (b:Bar ps H H') (n:a∉ps):SqL K H' a xs:=by
 rcases h with h | h
 ·rcases h with h | ⟨o,h⟩
  ·exact .inl (.inl (b _ _ h n))
  ·exact .inl (.inr ⟨o,b _ _ h n⟩)
 ·exact .inr h
theorem SqL.same {K:PySem.W.Frag}{H H':Hp}{a:Addr}{xs:List V}(h:SqL K H a xs) (b:Bar [] H H'):SqL K H' a xs:=h.bar b (by simp)
def feF (c:Addr) (n:Nat):List (Str×V):=[("calls",.ref c),("used",.int (n:Int))]
theorem feF_calls (c:Addr) (n:Nat):(feF c n).lookup ("calls":Str)=some (.ref c):=rfl
theorem feF_used (c:Addr) (n:Nat):(feF c n).lookup ("used":Str)=some (.int (n:Int)):=rfl
theorem feF_put (c:Addr) (n m:Nat):putF "used" (.int (m:Int)) (feF c n)=feF c m:=rfl
def FeedAt (t:Adr) (H:Hp) (p c:Addr) (n:Nat):Prop:=∃dx,H p=some (.ins t.C_Feed dx (feF c n))
theorem ints_at {l:List Int}{n:Nat}{z:Int}(h:l[n]?=some z):(l.map V.int)[n]?=some (.int z):=by rw[List.getElem?_map,h];rfl
def sp_Hall_init (t:Adr):Sp:=λvs H Q _=>∃(p dx:Addr),vs=[.ref p]/\H p=some (.ins t.C_Hall dx [])/\Q .non (upd H p (.ins t.C_Hall dx [("rules",.non)]))
theorem sc_Hall_init:qqb ["self"] ["self"] (dSc s_Hall_init):=by walk_at "sc9"
theorem ok_Hall_init (T:Txt K mg t):FnOk P w K mg base (CX1 P w) 1 t.f_Hall_init t.d_Hall_init ["self"] (sp_Hall_init t):=by
 refine T.Hall.F.okX sc_Hall_init (λvs H Q E h=>?_) (λcdv A outer s H vs Q E hr h=>?_)
 ·obtain⟨p,dx,rfl,_⟩:=h;rfl
 obtain⟨p,dx,rfl,hp,k⟩:=h
 refine⟨_,pso (eS T.Hall.c T.n_Hall_rules (pv 0) pe_non),?_⟩
 exact⟨_,rfl,p,dx,_,rfl,hp,(by show 0<1000;decide),k⟩
def sp_Feed_init (t:Adr):Sp:=λvs H Q _=>∃(p dx c:Addr),vs=[.ref p,.ref c]/\H p=some (.ins t.C_Feed dx [])/\Q .non (upd H p (.ins t.C_Feed dx (feF c 0)))
theorem sc_Feed_init:qqb ["self","calls"] ["self","calls"] (dSc s_Feed_init):=by walk_at "sc9"
theorem ok_Feed_init (T:Txt K mg t):FnOk P w K mg base (CX1 P w) 1 t.f_Feed_init t.d_Feed_init ["self","calls"] (sp_Feed_init t):=by
 refine T.Feed.F.okX sc_Feed_init (λvs H Q E h=>?_) (λcdv A outer s H vs Q E hr h=>?_)
 ·obtain⟨p,dx,c,rfl,_⟩:=h;rfl
 obtain⟨p,dx,c,rfl,hp,k⟩:=h
 refine⟨_,psc (eS T.Feed.c T.n_Feed_calls (pv 0) (pv 1)) (pso (eS T.Feed.c T.n_Feed_used (pv 0) pei)),?_⟩
 refine⟨_,rfl,_,rfl,p,dx,_,rfl,hp,(by show 0<1000;decide),_,rfl,p,dx,_,rfl,ups,(by show 1<1000;decide),?_⟩
 rw[upd_upd];exact k
def sp_Feed_has_more (K:PySem.W.Frag) (t:Adr):Sp:=λvs H Q _=>∃(p c:Addr) (n:Nat) (l:List Int),vs=[.ref p]/\FeedAt t H p c n/\SqL K H c (l.map V.int)/\Q (.bl (decide (n<l.length))) H
theorem sc_Feed_has_more:qqb ["self"] ["self"] (dSc s_Feed_has_more):=by walk_at "sc9"
theorem ok_Feed_has_more (T:Txt K mg t):FnOk P w K mg base (CX1 P w) 1 t.f_Feed_has_more t.d_Feed_has_more ["self"] (sp_Feed_has_more K t):=by
 refine T.Feed_has_more.F.okX sc_Feed_has_more (λvs H Q E h=>?_) (λcdv A outer s H vs Q E hr h=>?_)
 ·obtain⟨p,c,n,l,rfl,_⟩:=h;rfl
 obtain⟨p,c,n,l,rfl,⟨dx,hp⟩,hc,k⟩:=h
 refine⟨_,pso (qqe (pe_cmpR op_lt (eF T.Feed.c T.n_Feed_used (pv 0)) (pe_callB call_len_seq (by rfl) T.o_len PySem.boot_len (pac (eF T.Feed.c T.n_Feed_calls (pv 0)) pan)) (qqg _))),?_⟩
 walk_at "rd"
 refine⟨dx,_,hp,_,feF_used ..,dx,_,hp,_,feF_calls ..,c,rfl,_,.inl hc,?_⟩
 refine⟨_,rfl,?_⟩
 have e:decide ((n:Int)<((l.map V.int).length:Int))=decide (n<l.length):=decide_eq_decide.mpr (by rw[List.length_map];omega)
 rw[e];exact k
def sp_Feed_take_number (K:PySem.W.Frag) (t:Adr):Sp:=λvs H Q _=>∃(p c:Addr) (n:Nat) (l:List Int) (z:Int),vs=[.ref p]/\FeedAt t H p c n/\SqL K H c (l.map V.int)/\l[n]?=some z/\∀H',Bar [p] H H'->FeedAt t H' p c (n+1)->Q (.int z) H'
theorem sc_Feed_take_number:qqb ["self","number"] ["self"] (dSc s_Feed_take_number):=by walk_at "sc9"
theorem ok_Feed_take_number (T:Txt K mg t):FnOk P w K mg base (CX1 P w) 1 t.f_Feed_take_number t.d_Feed_take_number ["self"] (sp_Feed_take_number K t):=by
 refine T.Feed_take_number.F.okX sc_Feed_take_number (λvs H Q E h=>?_) (λcdv A outer s H vs Q E hr h=>?_)
 ·obtain⟨p,c,n,l,z,rfl,_⟩:=h;rfl
 obtain⟨p,c,n,l,z,rfl,⟨dx,hp⟩,hc,hz,k⟩:=h
 have nd:=sc_Feed_take_number.nd
 refine⟨_,psc (qqd (i:=1) nd rfl (Or.inl rfl) (pe_ix (ix_listK K) (eF T.Feed.c T.n_Feed_calls (pv 0)) (eF T.Feed.c T.n_Feed_used (pv 0)) (λ_ _=>rfl)))
  (psc (eS T.Feed.c T.n_Feed_used (pv 0) (pe_op op_add (eF T.Feed.c T.n_Feed_used (pv 0)) pei)) (pso (qqe (pv 1)))),?_⟩
 walk_at "rd"
 refine⟨dx,_,hp,_,feF_calls ..,dx,_,hp,_,feF_used ..,c,rfl,_,_,rfl,hc,_,atI_nat (ints_at hz),dx,_,hp,_,feF_used ..,_,rfl,dx,_,hp,(by show 2<1000;decide),?_⟩
 have e:(n:Int)+1=((n+1:Nat):Int):=by omega
 rw[e,feF_put]
 exact k _ .one ⟨dx,ups⟩
def sp_Feed_take_numbers (K:PySem.W.Frag) (t:Adr):Sp:=λvs H Q _=>∃(p c:Addr) (n m:Nat) (l:List Int),vs=[.ref p,.int (m:Int)]/\FeedAt t H p c n/\SqL K H c (l.map V.int)/\n+m<=l.length/\∀H' q,Bar [p] H H'->FeedAt t H' p c (n+m)->H' q=some (.lst (((l.drop n).take m).map V.int))->H q=none->Q (.ref q) H'
theorem sc_Feed_take_numbers:qqb ["self","many","numbers"] ["self","many"] (dSc s_Feed_take_numbers):=by walk_at "sc9"
theorem cut2 {xs:List V}{n m:Nat}(h:n+m<=xs.length):cutV xs (some (n:Int)) (some ((n:Int)+(m:Int)))=(xs.drop n).take m:=by
 unfold cutV
 have e:(n:Int)+(m:Int)=((n+m:Nat):Int):=by omega
 rw[e,HT.sIx_nat,HT.sIx_nat,Nat.min_eq_left (by omega),Nat.min_eq_left (by omega),Nat.add_sub_cancel_left]
theorem ok_Feed_take_numbers (T:Txt K mg t):FnOk P w K mg base (CX1 P w) 1 t.f_Feed_take_numbers t.d_Feed_take_numbers ["self","many"] (sp_Feed_take_numbers K t):=by
 refine T.Feed_take_numbers.F.okX sc_Feed_take_numbers (λvs H Q E h=>?_) (λcdv A outer s H vs Q E hr h=>?_)
 ·obtain⟨p,c,n,m,l,rfl,_⟩:=h;rfl
 obtain⟨p,c,n,m,l,rfl,⟨dx,hp⟩,hc,hz,k⟩:=h
 have nd:=sc_Feed_take_numbers.nd
 refine⟨_,psc (qqd (i:=2) nd rfl (Or.inl rfl) (pe_slice sl_list (eF T.Feed.c T.n_Feed_calls (pv 0)) (po_some (eF T.Feed.c T.n_Feed_used (pv 0))) (po_some (pe_op op_add (eF T.Feed.c T.n_Feed_used (pv 0)) (pv 1)))))
  (psc (eS T.Feed.c T.n_Feed_used (pv 0) (pe_op op_add (eF T.Feed.c T.n_Feed_used (pv 0)) (pv 1))) (pso (qqe (pv 2)))),?_⟩
 walk_at "rd"
 refine⟨dx,_,hp,_,feF_calls ..,dx,_,hp,_,feF_used ..,_,rfl,dx,_,hp,_,feF_used ..,_,rfl,c,_,rfl,hc,λq hq=>?_⟩
 rw[cut2 (by rw[List.length_map];exact hz)]
 have nq:q≠p:=λz=>by rw[z,hp]at hq;cases hq
 have hp':(upd H q (.lst (((l.map V.int).drop n).take m))) p=some (.ins t.C_Feed dx (feF c n)):=by rw[qqa nq.symm];exact hp
 refine⟨dx,_,hp',_,feF_used ..,_,rfl,dx,_,hp',(by show 2<1000;decide),?_⟩
 have e:(n:Int)+m=((n+m:Nat):Int):=by omega
 rw[e,feF_put]
 refine k _ q ((Bar.new hq).trans .one) ⟨dx,ups⟩ ?_ hq
 rw[qqa nq,ups,List.map_take,List.map_drop]
theorem SqL.feed {t:Adr}{H H':Hp}{p c d:Addr}{n:Nat}{xs:List V}(h:SqL K H c xs) (f:FeedAt t H p d n) (b:Bar [p] H H'):SqL K H' c xs:=by
 obtain⟨dx,hp⟩:=f
 rcases h with h | h
 ·rcases h with h | ⟨o,h⟩
  ·exact .inl (.inl (b _ _ h (by simpa using ne_of h hp (by intro z;cases z))))
  ·exact .inl (.inr ⟨o,b _ _ h (by simpa using ne_of h hp (by intro z;cases z))⟩)
 ·exact .inr h
def RowsAt (H:Hp) (l:Addr) (rows:List (List Int)):Prop:=∃as:List Addr,H l=some (.lst (as.map V.ref))/\Paired (λa r=>H a=some (.lst (List.map V.int r))) as rows
inductive RowsFrom (l:List Int):Nat->List (List Int)->Nat->Prop
 | nil (n:Nat):RowsFrom l n [] n
 | cons {n e:Nat}{r:List Int}{rs:List (List Int)}:l[n]?=some (r.length:Int)->(l.drop (n+1)).take r.length=r->n+1+r.length<=l.length->RowsFrom l (n+1+r.length) rs e->RowsFrom l n (r::rs) e
def sp_Feed_take_rows (K:PySem.W.Frag) (t:Adr):Sp:=λvs H Q _=>∃(p c:Addr) (n e:Nat) (l:List Int) (rows:List (List Int)),vs=[.ref p,.int (rows.length:Int)]/\FeedAt t H p c n/\SqL K H c (l.map V.int)/\RowsFrom l n rows e/\rows.length<=10 /\
 ∀H' q,Bar [p] H H'->FeedAt t H' p c e->RowsAt H' q rows->Q (.ref q) H'
theorem sc_Feed_take_rows:qqb ["self","many","rows","length"] ["self","many"] (dSc s_Feed_take_rows):=by walk_at "sc9"
structure IvTR (t:Adr) (H0:Hp) (p c q:Addr) (l:List Int) (rows:List (List Int)) (e m:Nat) (σ:St) (H:Hp):Prop where
 st:∃a,σ=[some (.ref p),some (.int (rows.length:Int)),some (.ref q),a]
 ex:∃(n:Nat) (got left:List (List Int)),rows=got++left/\RowsFrom l n left e/\m=left.length/\FeedAt t H p c n/\∃as:List Addr,H q=some (.lst (as.map V.ref))/\Paired (λa r=>H a=some (.lst (List.map V.int r))) as got/\q∉as
 bar:Bar [p] H0 H
theorem ok_Feed_take_rows (T:Txt K mg t):FnOk P w K mg base (CX1 P w) 2 t.f_Feed_take_rows t.d_Feed_take_rows ["self","many"] (sp_Feed_take_rows K t):=by
 refine T.Feed_take_rows.F.okX sc_Feed_take_rows (λvs H Q E h=>?_) (λcdv A outer s H vs Q E hr h=>?_)
 ·obtain⟨p,c,n,e,l,rows,rfl,_⟩:=h;rfl
 obtain⟨p,c,n,e,l,rows,rfl,hF,hc,hRF,h10,k⟩:=h
 have nd:=sc_Feed_take_rows.nd
 refine⟨_,psc (qqd (i:=2) nd rfl (Or.inl rfl) (pe_lst pan))
  (psc (ps_while owns_fn (qqh op_lt (pe_callB call_len_seq (by rfl) T.o_len PySem.boot_len (pac (pv 2) pan)) (pv 1) (qqg _))
   (psc (qqd (i:=3) nd rfl (Or.inl rfl) (eM0 T.Feed.c T.Feed_take_number (ok_Feed_take_number T) hr (pv 0)))
   (pso (qqj (pe_bm PySem.F.plainAttrs_list PySem.F.slot_list_append PySem.F.type_list_append mt_append (pv 2) (pac (eM T.Feed.c T.Feed_take_numbers (ok_Feed_take_numbers T) hr (pv 0) (pac (pv 3) pan)) pan))))))
  (pso (qqe (pv 2)))),?_⟩
 walk_at "rd"
 refine⟨Nat.zero_le _,λq hq=>?_⟩
 obtain⟨dx,hp⟩:=id hF
 have npq:p≠q:=nen hp hq
 refine⟨IvTR t H p c q l rows e,⟨rows.length,⟨none,rfl⟩,⟨n,[],rows,rfl,hRF,rfl,⟨dx,by rw[qqa npq];exact hp⟩,[],ups,.nil,by simp⟩,.new hq⟩,?_⟩
 rintro m σ H' ⟨⟨a,rfl⟩,⟨n',got,left,er,RF,em,hF',as,hq',hpr,nq⟩,br⟩
 have lg:as.length=got.length:=Paired.length hpr
 have lr:rows.length=got.length+left.length:=by rw[er,List.length_append]
 walk_at "rd"
 refine⟨_,.inl (SqL.of hq'),?_⟩
 rw[List.length_map,lg]
 cases RF with
 | nil =>
  rw[if_neg (by rw[lr];simp)]
  have eg:rows=got:=by rw[er,List.append_nil]
  exact k H' q br hF' ⟨as,hq',by rw[eg];exact hpr⟩
 | @cons _ _ r rs h1 h2 h3 h4 =>
  rw[List.length_cons]at lr
  rw[if_pos (by omega)]
  obtain⟨dx',hp'⟩:=id hF'
  have hc':=hc.feed hF br
  refine⟨λσ' H'=>IvTR t H p c q l rows e rs.length σ' H',λσ' H2 h=>⟨rs.length,by rw[em,List.length_cons];exact Nat.lt_succ_self _,h⟩,dx',_,hp',rfl,p,c,n',l,_,rfl,hF',hc',h1,λH1 b1 f1=>?_⟩
  have hq1:H1 q=some (.lst (as.map V.ref)):=b1 _ _ hq' (by simpa using npq.symm)
  obtain⟨dx1,hp1⟩:=id f1
  refine⟨.inl ⟨rfl,_,SqL.of hq1⟩,dx1,_,hp1,rfl,p,c,n'+1,r.length,l,rfl,f1,hc'.feed hF' b1,h3,λH2 u b2 f2 hu hn=>?_⟩
  rw[h2]at hu
  have hq2:H2 q=some (.lst (as.map V.ref)):=b2 _ _ hq1 (by simpa using npq.symm)
  have nu:u≠q:=λz=>by rw[z,hq1]at hn;cases hn
  have rows2:∀ {x:Addr}{y:List Int},H' x=some (.lst (y.map V.int))->H2 x=some (.lst (y.map V.int)):=λ{x y} hx=>by
   have n1:x≠p:=ne_of hx hp' (by intro z;cases z)
   exact b2 _ _ (b1 _ _ hx (by simpa using n1)) (by simpa using n1)
  refine⟨q,_,_,rfl,rfl,hq2,by rw[List.length_map,lg,sizeLine_eq];omega,⟨⟨_,rfl⟩,⟨n'+1+r.length,got++[r],rs,by rw[er];simp,h4,rfl,?_,as++[u],?_,?_,?_⟩,?_⟩⟩
  ·obtain⟨dx2,hp2⟩:=f2
   exact⟨dx2,by rw[qqa npq];exact hp2⟩
  ·rw[ups,List.map_append];rfl
  ·refine PSnoc ?_ (PImp hpr λx y hx h=>?_)
   ·rw[qqa nu];exact hu
   ·rw[qqa (show x≠q from λz=>nq (z▸hx))];exact rows2 h
  ·simp only[List.mem_append,List.mem_singleton,not_or]
   exact⟨nq,λz=>nu z.symm⟩
  ·intro b o hb hn'
   rw[qqa (nen hb hq)]
   exact (br.trans (b1.trans b2)) b o hb hn'
def sp_with_length (t:Adr):Sp:=λvs H Q _=>∃(l:Addr) (xs:List Int),vs=[.ref l]/\H l=some (.lst (xs.map V.int))/\xs.length+1<=sizeLine/\∀H' p,Bar [] H H'->H' p=some (.lst (((xs.length:Int)::xs).map V.int))->Q (.ref p) H'
theorem sc_with_length:qqb ["row"] ["row"] (dSc s_with_length):=by walk_at "sc9"
theorem ok_with_length (T:Txt K mg t):FnOk P w K mg base (CX1 P w) 1 t.f_with_length t.d_with_length ["row"] (sp_with_length t):=by
 refine T.with_length.F.okX sc_with_length (λvs H Q E h=>?_) (λcdv A outer s H vs Q E hr h=>?_)
 ·obtain⟨l,xs,rfl,_⟩:=h;rfl
 obtain⟨l,xs,rfl,hl,hn,k⟩:=h
 refine⟨_,pso (qqe (pe_op op_cat (pe_lst (pac (pe_callB call_len_seq (by rfl) T.o_len PySem.boot_len (pac (pv 0) pan)) pan)) (pv 0))),?_⟩
 walk_at "rd"
 refine⟨_,.inl (SqL.of hl),(by decide),λq hq=>⟨q,l,_,_,rfl,rfl,ups,by rw[qqa (nen hl hq)];exact hl,?_,λp hp=>?_⟩⟩
 ·rw[List.length_map,List.length_cons,List.length_nil];omega
 ·refine k _ p ((Bar.new hq).trans (.new hp)) ?_
  rw[ups,List.length_map];rfl
def sp_is_rising (t:Adr):Sp:=λvs H Q _=>∃(l:Addr) (ns:List Nat),vs=[.ref l]/\NatsAt H l ns/\ns.length<=sizeLine/\Q (.bl (Tm.rising (Tm.ofNats ns))) H
theorem sc_is_rising:qqb ["cells","index"] ["cells"] (dSc s_is_rising):=by walk_at "sc9"
def ivRis (l:Addr) (xs:List Int) (H:Hp) (i:Nat) (σ:St) (H':Hp):Prop:=(∃a,σ=[some (.ref l),a])/\H'=H/\∀j a b,j<i->xs[j]?=some a->xs[j+1]?=some b->a<b
theorem rising_at:∀xs:List Int,Tm.rising xs=true↔∀j a b,xs[j]?=some a->xs[j+1]?=some b->a<b
 | []=>⟨λ_ j a b h=>by simp at h,λ_=>rfl⟩
 | [x]=>⟨λ_ j a b _ h=>by simp at h,λ_=>rfl⟩
 | x::y::l=>by
  show (decide (x<y)&&Tm.rising (y::l))=true↔_
  rw[Bool.and_eq_true,decide_eq_true_eq,rising_at (y::l)]
  constructor
  ·rintro⟨h1,h2⟩ j a b ha hb
   cases j with
   | zero =>
    simp only[List.getElem?_cons_zero,Option.some.injEq,Nat.zero_add,List.getElem?_cons_succ]at ha hb
    rw[<-ha,<-hb];exact h1
   | succ j=>exact h2 j a b (by simpa using ha) (by simpa using hb)
  ·intro h
   exact⟨h 0 x y rfl rfl,λj a b ha hb=>h (j+1) a b (by simpa using ha) (by simpa using hb)⟩
theorem ok_is_rising (T:Txt K mg t):FnOk P w K mg base (CX1 P w) 1 t.f_is_rising t.d_is_rising ["cells"] (sp_is_rising t):=by
 refine T.is_rising.F.okX sc_is_rising (λvs H Q E h=>?_) (λcdv A outer s H vs Q E hr h=>?_)
 ·obtain⟨l,ns,rfl,_⟩:=h;rfl
 obtain⟨l,ns,rfl,hl,hn,k⟩:=h
 have nd:=sc_is_rising.nd
 refine⟨_,psc (ps_for owns_fn rfl (pi_range2 (by rfl) T.o_range (pac pei (pac (pe_callB call_len_seq (by rfl) T.o_len PySem.boot_len (pac (pv 0) pan)) pan))) (pg_name (i:=1) nd rfl (Or.inl rfl))
   (pso (ps_if (qqh op_ge (pe_ix (ix_listK K) (pv 0) (pe_op op_sub (pv 1) pei) (λ_ _=>rfl)) (pe_ix (ix_listK K) (pv 0) (pv 1) (λ_ _=>rfl)) (qqg _)) (pso (qqe pe_bl)) qqi)))
  (pso (qqe pe_bl)),?_⟩
 generalize hxs:Tm.ofNats ns=xs at k
 have hl:H l=some (.lst (xs.map V.int)):=by rw[<-hxs];exact hl
 have hn':xs.length<=sizeLine:=by rw[<-hxs,Tm.ofNats_length];exact hn
 rw[sizeLine_eq]at hn'
 refine⟨_,rfl,l,_,rfl,.inl (SqL.of hl),1,_,rfl,⟨by decide,by decide,by omega,by rw[List.length_map];omega⟩,for_range (lo:=1) (ivRis l xs H) ⟨⟨_,rfl⟩,rfl,λj a b h=>absurd h (Nat.not_lt_zero _)⟩ ?_ ?_⟩
 ·rintro i σ H' hi ⟨⟨a,rfl⟩,rfl,al⟩
  rw[List.length_map]at hi
  have h1:i<xs.length:=by omega
  have h2:i+1<xs.length:=by omega
  have e1:xs[i]?=some xs[i]:=List.getElem?_eq_getElem h1
  have e2:xs[i+1]?=some xs[i+1]:=List.getElem?_eq_getElem h2
  walk_at "rd"
  have a1:atI (xs.map V.int) (1+(i:Int) - 1)=some (.int xs[i]):=by
   have e:(1+(i:Int) - 1)=((i:Nat):Int):=by omega
   rw[e];exact atI_nat (ints_at e1)
  have a2:atI (xs.map V.int) (1+(i:Int))=some (.int xs[i+1]):=by
   have e:(1+(i:Int))=((i+1:Nat):Int):=by omega
   rw[e];exact atI_nat (ints_at e2)
  refine⟨_,SqL.of hl,_,a1,_,SqL.of hl,_,a2,_,rfl,_,rfl,?_⟩
  by_cases z:xs[i+1]<=xs[i]
  ·rw[if_pos z]
   have:Tm.rising xs=false:=by
    cases q:Tm.rising xs with
    | false=>rfl
    | true=>exact absurd ((rising_at xs).mp q i _ _ e1 e2) (by omega)
   rw[this]at k
   exact k
  ·rw[if_neg z]
   refine⟨⟨_,rfl⟩,rfl,λj a b hj ha hb=>?_⟩
   by_cases y:j<i
   ·exact al j a b y ha hb
   ·have:j=i:=by omega
    subst this
    rw[e1]at ha;rw[e2]at hb
    cases ha;cases hb
    omega
 ·rintro σ H' ⟨⟨a,rfl⟩,rfl,al⟩
  have:Tm.rising xs=true:=(rising_at xs).mpr λj a b ha hb=>al j a b (by
   have:=(List.getElem?_eq_some_iff.mp hb).1
   rw[List.length_map];omega) ha hb
  rw[this]at k
  exact k
def sp_highest_first:Sp:=λvs H Q _=>∃(l:Addr) (ns:List Nat),vs=[.ref l]/\NatsAt H l ns/\∀H' l' hs,Bar [] H H'->NatsAt H' l' hs->hs.Perm ns->hs.Pairwise (λx y=>y<=x)->Q (.ref l') H'
theorem sc_highest_first:qqb ["cells"] ["cells"] (dSc s_highest_first):=by walk_at "sc9"
theorem ok_highest_first (T:Txt K mg t):FnOk P w K mg base (CX1 P w) 1 t.f_highest_first t.d_highest_first ["cells"] sp_highest_first:=by
 refine T.highest_first.F.okX sc_highest_first (λvs H Q E h=>?_) (λcdv A outer s H vs Q E hr h=>?_)
 ·obtain⟨l,ns,rfl,_⟩:=h;rfl
 obtain⟨l,ns,rfl,hl,k⟩:=h
 refine⟨_,pso (qqe (eSortR T.o_sorted (pv 0))),?_⟩
 refine⟨_,rfl,l,_,rfl,SqL.of hl,λns' q hp hs hq=>?_⟩
 obtain⟨ms,rfl,pm⟩:=nats_of hp
 exact k _ q ms (.new hq) ups pm (nats_sortedR hs)
def RankAt (H:Hp) (a:Addr) (hs ms:List Nat) (k d:Nat):Prop:=∃lh lm,H a=some (.tup [.ref lh,.ref lm,.int (k:Int),.int (d:Int)])/\NatsAt H lh hs/\NatsAt H lm ms
theorem RankAt.same {H H':Hp}{a:Addr}{hs ms:List Nat}{k d:Nat}(h:RankAt H a hs ms k d) (b:Bar [] H H'):RankAt H' a hs ms k d:=by
 obtain⟨lh,lm,h1,h2,h3⟩:=h
 exact⟨lh,lm,b.same h1,h2.same b,h3.same b⟩
def sp_rank (t:Adr):Sp:=λvs H Q _=>∃(p:Addr) (hs ms:List Nat) (k d:Nat),vs=[.ref p]/\PosAt t H p hs ms k d/\∀H' a hs' ms',Bar [] H H'->RankAt H' a hs' ms' k d->hs'.Perm hs->hs'.Pairwise (λx y=>y<=x)->ms'.Perm ms->ms'.Pairwise (λx y=>y<=x)->Q (.ref a) H'
theorem sc_rank:qqb ["position"] ["position"] (dSc s_rank):=by walk_at "sc9"
theorem ok_rank (T:Txt K mg t):FnOk P w K mg base (CX1 P w) 2 t.f_rank t.d_rank ["position"] (sp_rank t):=by
 refine T.rank.F.okX sc_rank (λvs H Q E h=>?_) (λcdv A outer s H vs Q E hr h=>?_)
 ·obtain⟨p,hs,ms,k,d,rfl,_⟩:=h;rfl
 obtain⟨p,hs,ms,kk,d,rfl,⟨dx,lh,lm,hp,nh,nm⟩,k⟩:=h
 have c:=T.Position.c
 have HF:=ok_highest_first (P:=P) (w:=w) (base:=base) T
 refine⟨_,pso (qqe (pe_tup (pac (eC T.highest_first HF hr (pac (eF c T.n_Position_hunters (pv 0)) pan)) (pac (eC T.highest_first HF hr (pac (eF c T.n_Position_men (pv 0)) pan)) (pac (eF c T.n_Position_king (pv 0)) (pac (eF c T.n_Position_side (pv 0)) pan)))))),?_⟩
 walk_at "rd"
 refine⟨dx,_,hp,_,poF_hunters ..,lh,hs,rfl,nh,λH1 l1 hs' b1 n1 p1 s1=>⟨dx,_,b1.same hp,_,poF_men ..,lm,ms,rfl,nm.same b1,λH2 l2 ms' b2 n2 p2 s2=>?_⟩⟩
 have B2:=b1.trans b2
 refine⟨dx,_,B2.same hp,_,poF_king ..,dx,_,B2.same hp,_,poF_side ..,(by decide),λa ha=>?_⟩
 have b3:Bar [] H2 (upd H2 a (.tup [.ref l1,.ref l2,.int (kk:Int),.int (d:Int)])):=.new ha
 exact k _ a hs' ms' (B2.trans b3) ⟨l1,l2,ups,(n1.same b2).same b3,n2.same b3⟩ p1 s1 p2 s2
section
theorem enum_tup {prog:Program}{w:World}{A:Around}{E:Value->Shared->Prop}{s:Shared}{a:Addr}{xs:Array Value}{Q:Value->Shared->Prop}(hT:s.heap.IsTuple a xs)
  (kx:∀h',IsEnum h' (s.heap.objs.size+1) s.heap.objs.size 0 .none->h'.IsTupleIter s.heap.objs.size a 0->(∀b o,s.heap.get? b=some o->h'.get? b=some o)->Q (.ref (s.heap.objs.size+1)) { s with heap:=h' }) :
  wpAny (model prog w) A (call (.type "enumerate") [.ref a]) Q E s:=by
 obtain⟨⟨c,dct,dt,sl⟩,ha,hc,nn,hd⟩:=hT
 replace hc:c=.type "tuple":=hc
 replace hd:dt=.seq xs nn:=hd
 subst hc hd
 refine callType_new PySem.F.called_enumerate (by decide) (PySem.F.typeCall_enumerate_1 _) (PySem.F.newCall_enumerate_1 _) (λobj=>PySem.F.args_object_init_2 obj _) PySem.F.entry_enumerate_new (enumNew_tup a xs nn dct sl) ⟨ha,?_⟩
 have hz:(s.heap.push { cls:=.type "tuple_iterator",data:=.fields #[.ref a,.int 0 0] }).objs.size=s.heap.objs.size+1:=Heap.size_push ..
 show _/\_
 rw[hz]
 have he:IsEnum ((s.heap.push { cls:=.type "tuple_iterator",data:=.fields #[.ref a,.int 0 0] }).push { cls:=.type "enumerate",data:=.fields #[.none,.bool false,.ref s.heap.objs.size,rawInt 0,.none,.none] }) (s.heap.objs.size+1) s.heap.objs.size 0 .none:=by
  have:=Heap.get?_push_size (s.heap.push { cls:=.type "tuple_iterator",data:=.fields #[.ref a,.int 0 0] }) (o:={ cls:=.type "enumerate",data:=.fields #[.none,.bool false,.ref s.heap.objs.size,rawInt 0,.none,.none] }) rfl
  rw[hz]at this;exact this
 exact⟨⟨_,he,rfl⟩,kx _ he ⟨_,Heap.get?_push_of_some _ (Heap.get?_push_size _ rfl),rfl,rfl⟩ λb o q=>Heap.get?_push_of_some _ (Heap.get?_push_of_some _ q)⟩
def Itet (K:PySem.W.Frag) (a:Addr):It :=
 ⟨λi H=>∃(xs:List V) (x:V),SqT K H a xs/\xs[i]?=some x,λi H v H'=>∃T x,v=.ref T/\H T=none/\H'=upd H T (.tup [.int (i:Nat),x])/\∀xs,SqT K H a xs->xs[i]?=some x,λi H=>∃xs:List V,SqT K H a xs/\xs.length=i⟩
theorem turn_enumT {P:Program}{w:World}{K:PySem.W.Frag}{elts:List Expr}{kk:Nat}{tpos:Pos}(a e it:Addr) :
  Turn P w K (.Tuple elts kk tpos) (Itet K a) [e,it] e (λi h=>(∃old,IsEnum h e it ((i:Nat):Int) old)/\h.IsTupleIter it a i/\e≠it) where
 mem:=by simp
 obj:=λi h z b hb=>by
  obtain⟨⟨old,he⟩,⟨o,ho,hc,hd⟩,_⟩:=z
  rcases (show b=e\/b=it by simpa using hb) with y | y
  ·rw[y];exact⟨_,he,λv q=>nomatch q⟩
  ·rw[y];exact⟨o,ho,λv q=>by rw[hd]at q;cases q⟩
 keep:=λi h h' z k=>let ⟨⟨old,he⟩,hi,hne⟩:=z;⟨⟨old,k e (by simp) _ he⟩,hi.at λo q=>k it (by simp) o q,hne⟩
 item:=by
  intro X hP hw hK hc i pins s σ H E I hf z hg
  subst hP hw hK
  obtain⟨⟨old,he⟩,hit,hne⟩:=z
  obtain⟨xs,x,hq,hx⟩:=hg
  obtain⟨its,rv,p,hz⟩:=I.tuple hq
  obtain⟨u,hu,ru⟩:=rv.get hx
  have hT:s.heap.IsTuple a its.toArray:=p
  have hel:e<s.heap.objs.size:=Heap.lt_size he
  have hil:it<s.heap.objs.size:=by obtain⟨_,q,_⟩:=hit;exact Heap.lt_size q
  have nai:a≠it:=by
   intro y
   obtain⟨o1,q1,c1,_⟩:=hit
   obtain⟨o2,q2,c2,_⟩:=hT
   rw[y,q1]at q2
   cases q2
   rw[c1]at c2
   exact absurd c2 (by decide)
  have nae:e∉[it,a]:=by
   intro y
   rcases (show e=it\/e=a by simpa using y) with y | y
   ·exact hne y
   ·obtain⟨o2,q2,c2,_⟩:=hT
    rw[<-y]at q2
    have:=he.symm.trans q2
    cases this
    have c3:Value.type "enumerate"=Value.type "tuple":=c2
    exact absurd c3 (by decide)
  have lt:i<its.toArray.size:=by
   have:=(List.getElem?_eq_some_iff.mp hu).1
   simpa using this
  refine wpAny_pyNext_enum_itemD (tup_draws (Ar:=X.A.in1) (I.ok.hd hc) it a nai its.toArray) he ⟨hit,hT⟩ lt hne nae λy h' tk hy ho hit' hT' hsz hk=>?_
  have ey:y=u:=by
   have h1:its[i]?=some y:=by simpa using hy
   rw[hu]at h1;exact (Option.some.inj h1).symm
  subst ey
  refine⟨_,rfl,wpAny_letOwnedTupleGo_enum (s:={ s with heap:=h',toks:=tk+1 }) ho λh2 he2 sb=>?_⟩
  have hT2:h2.get? s.heap.objs.size=some { cls:=.type "tuple",data:=.seq #[.int i tk,y] }:=(sb.2 _ (Nat.ne_of_gt hel)).trans hT'
  have new:ObjOk X.prog X.w (upd H s.heap.objs.size (.tup [.int (i:Nat),x])) h2 s.heap.objs.size (.tup [.int (i:Nat),x]):=⟨by show 2<=sizeLine;decide,[.int i tk,y],.cons ⟨_,rfl⟩ (.cons ru .nil),⟨_,hT2,rfl,_,rfl⟩⟩
  have I1:Inv X pins σ (upd H s.heap.objs.size (.tup [.int (i:Nat),x])) { s with heap:=h2,toks:=tk+1 } :=
   I.turnedNew (ch:=[e,it]) (λb ob hb q=>(sb.2 b (λv=>hb (by simp[v]))).trans (hk b ob (λv=>hb (by simp[v])) (λv=>hb (by simp[v])) q)) hf (Nat.le_refl _) new
  refine⟨.ref s.heap.objs.size,_,I1,rfl,⟨_,x,rfl,I.hok.fresh (Nat.le_refl _),rfl,λys hy=>by rw[I.tuple_inj hy hq];exact hx⟩,⟨⟨y,?_⟩,hit'.1.at λo q=>(sb.2 it (Ne.symm hne)).trans q,hne⟩,λb hb=>?_⟩
  ·have e1:((i+1:Nat):Int)=(i:Int)+1:=by omega
   rw[e1];exact he2
  ·have hb':b<s.heap.objs.size:=by
    rcases (show b=e\/b=it by simpa using hb) with v | v
    ·rw[v];exact hel
    ·rw[v];exact hil
   rw[qqa (Nat.ne_of_lt hb')]
   exact (hf b hb).1
 done:=by
  intro X hP hw hK hc i pins s σ H E I hf z hg
  subst hP hw hK
  obtain⟨⟨old,he⟩,hit,hne⟩:=z
  obtain⟨xs,hq,hx⟩:=hg
  obtain⟨its,rv,p,hz⟩:=I.tuple hq
  have hT:s.heap.IsTuple a its.toArray:=p
  have nai:a≠it:=by
   intro y
   obtain⟨o1,q1,c1,_⟩:=hit
   obtain⟨o2,q2,c2,_⟩:=hT
   rw[y,q1]at q2
   cases q2
   rw[c1]at c2
   exact absurd c2 (by decide)
  obtain⟨f0,f1,f2,f3,f4,f5⟩:=hf it (by simp)
  have hl:=rv.length
  have ei:i=its.toArray.size:=by simp;omega
  subst ei
  exact wpAny_pyNext_enum_endD (tup_draws (Ar:=X.A.in1) (I.ok.hd hc) it a nai its.toArray) he ⟨hit,hT⟩ λh' eb=>⟨rfl,I.turned (t':=s.toks) (λb o hb q=>eb b o hb q) f0 f1 f3 f4 f5⟩
 self:=λA i s Q E z h=>let ⟨⟨_,he⟩,_⟩:=z;wpAny_pyIter_enum he h
def iEnumT (K:PySem.W.Frag) (ta:TA):TI:=λσ H R=>ta σ H λvs H1=>∃a xs,vs=[.ref a]/\SqT K H1 a xs/\R (Itet K a) H1
theorem pi_enumT {X:Cx}{e:Expr}{ta:TA}{p pos tpos:Pos}{elts:List Expr}{kk:Nat}(hg:Gl X "enumerate") (hm:X.mg "enumerate"=none) (ha:PA X [e] ta) (hs:starEach [e] X.env=[(false,eval e X.env)]:=by rfl) :
  PI X (.Tuple elts kk tpos) (.Call (.Name "enumerate" p) [e] [] pos) (iEnumT X.K ta):=by
 intro pins s σ H R I h
 refine Call_ (ld_blt I hg hm boot_enumerate (PyProof.Rows.callWith_type1 (thn (ha pos pins s σ H _ I h) λus s1 ⟨vs,H1,I1,r1,q1⟩=>?_) hs rfl))
 obtain⟨a,xs,ex,hq,q⟩:=q1
 subst ex
 cases r1 with
 | cons r rr =>
  cases rr
  cases r
  obtain⟨its,rv,p',hz⟩:=I1.tuple hq
  refine enum_tup (show s1.heap.IsTuple a its.toArray from p') λh' he hit hk=>wpAny_pyIter_enum he ?_
  have I2:Inv X pins σ H1 { s1 with heap:=h' }:=I1.kept (t':=s1.toks) hk
  refine⟨s1.heap.objs.size+1,[s1.heap.objs.size+1,s1.heap.objs.size],_,_,H1,rfl,I2,turn_enumT a (s1.heap.objs.size+1) s1.heap.objs.size,⟨⟨.none,he⟩,hit,Nat.succ_ne_self _⟩,λb hb=>?_,q⟩
  have hle:s1.heap.objs.size<=b:=by
   rcases (show b=s1.heap.objs.size+1\/b=s1.heap.objs.size by simpa using hb) with y | y
   ·rw[y];exact Nat.le_add_right _ _
   ·rw[y];exact Nat.le_refl _
  exact I1.fpOk hle (I1.hok.fresh hle)
end
def codeOf:Nat->Int
 | 0=>46
 | 1=>104
 | 2=>109
 | _=>75
def pcAt (z:Int):Nat:=if z=104 then 1 else if z=109 then 2 else if z=75 then 3 else 0
theorem signs_at {i:Nat}{x:V}(h:([V.str ".",V.str "h",V.str "m",V.str "K"]:List V)[i]?=some x):∃u:Str,x=.str u/\u.length=1/\((u.cps.getD 0 0:Nat):Int)=codeOf i:=by
 match i with
 | 0=>cases h;exact⟨".",rfl,rfl,rfl⟩
 | 1=>cases h;exact⟨"h",rfl,rfl,rfl⟩
 | 2=>cases h;exact⟨"m",rfl,rfl,rfl⟩
 | 3=>cases h;exact⟨"K",rfl,rfl,rfl⟩
 | n+4=>simp at h
def sp_piece_ahead (t:Adr):Sp:=λvs H Q _=>∃(p tx:Addr) (b:Tafl.Bytes) (n:Nat),vs=[.ref p]/\ScanAt t H p tx n/\TextAt H tx b/\∀H',Bar [] H H'->Q (.int ((pcAt (ahd b n):Nat):Int)) H'
theorem sc_piece_ahead:qqb ["scan","piece","sign"] ["scan"] (dSc s_piece_ahead):=by walk_at "sc9"
structure IvPA (H0:Hp) (p:Addr) (z:Int) (i:Nat) (σ:St) (H:Hp):Prop where
 st:∃a b,σ=[some (.ref p),a,b]
 bar:Bar [] H0 H
 no:∀j,0<j->j<i->codeOf j≠z
theorem ok_piece_ahead (T:Txt K mg t):FnOk P w K mg base (CX1 P w) 2 t.f_piece_ahead t.d_piece_ahead ["scan"] (sp_piece_ahead t):=by
 refine T.piece_ahead.F.okX sc_piece_ahead (λvs H Q E h=>?_) (λcdv A outer s H vs Q E hr h=>?_)
 ·obtain⟨p,tx,b,n,rfl,_⟩:=h;rfl
 obtain⟨p,tx,b,n,rfl,hs,ht,k⟩:=h
 have nd:=sc_piece_ahead.nd
 refine⟨_,psc (ps_for owns_fn rfl (pi_enumT (by rfl) T.o_enumerate (pac (eKt T.k_PIECE_SIGNS) pan)) (pg_tup (n:=2) rfl (pgs_cons (pg_name (i:=1) nd rfl (Or.inl rfl)) (pgs_cons (pg_name (i:=2) nd rfl (Or.inl rfl)) pgs_nil)))
   (pso (ps_if (PW.pt (pw_and (qqh op_ne (pv 1) (eK T.k_NOBODY) (qqg _)) (pw_and1 (qqh op_eq (pe_callB call_ord (by rfl) T.o_ord bootS_ord (pac (pv 2) pan)) (eM0 T.Scan.c T.Scan_ahead (ok_Scan_ahead T) hr (pv 0)) (qqg _))))) (pso (qqe (pv 1))) qqi)))
  (pso (qqe (eK T.k_NOBODY))),?_⟩
 have sq:=T.k_PIECE_SIGNS.s
 refine⟨_,_,rfl,sq H,for_gen (n:=4) (IvPA H p (ahd b n)) ⟨⟨_,_,rfl⟩,.refl _ _,λj h1 h2=>absurd h2 (Nat.not_lt_zero _)⟩ ?_ ?_ ?_ ?_⟩
 ·rintro i σ H' hi _
  have hi:i<4:=hi
  rcases (show i=0\/i=1\/i=2\/i=3 by omega) with rfl | rfl | rfl | rfl
  ·exact⟨_,_,sq H',rfl⟩
  ·exact⟨_,_,sq H',rfl⟩
  ·exact⟨_,_,sq H',rfl⟩
  ·exact⟨_,_,sq H',rfl⟩
 ·rintro σ H' _;exact⟨_,sq H',rfl⟩
 ·rintro i σ H' x H'' hi ⟨⟨a,c,rfl⟩,br,no⟩ ⟨Tp,y,rfl,hn,rfl,hy⟩
  obtain⟨u,rfl,u1,u2⟩:=signs_at (hy _ (sq H'))
  have b2:Bar [] H' (upd H' Tp (.tup [.int (i:Nat),.str u])):=.new hn
  have B:=br.trans b2
  have hT:(upd H' Tp (.tup [.int (i:Nat),.str u])) Tp=some (.tup [.int (i:Nat),.str u]):=ups
  generalize upd H' Tp (.tup [.int (i:Nat),.str u])=H2 at b2 B hT ⊢
  obtain⟨ds,hsc⟩:=id hs
  walk_at "rd"
  refine⟨_,SqT.of hT,rfl,_,_,rfl,_,_,rfl,rfl,rfl,?_⟩
  by_cases z0:i=0
  ·rw[if_neg (by rw[z0];exact λq=>q rfl)]
   exact⟨⟨_,_,rfl⟩,B,λj h1 h2=>absurd h2 (by omega)⟩
  rw[if_pos (λq=>z0 (by have:=V.int.inj q;omega))]
  refine⟨u,rfl,u1,ds,_,B.same hsc,rfl,p,tx,b,n,rfl,⟨ds,B.same hsc⟩,B.same ht,?_⟩
  rw[u2]
  refine⟨rfl,?_⟩
  by_cases z:codeOf i=ahd b n
  ·rw[if_pos (by rw[z])]
   have e:pcAt (ahd b n)=i:=by
    rw[<-z]
    have hi:i<4:=hi
    rcases (show i=1\/i=2\/i=3 by omega) with rfl | rfl | rfl
    ·rfl
    ·rfl
    ·rfl
   have:=k H2 B
   rw[e]at this
   exact this
  ·rw[if_neg (λq=>z (V.int.inj q))]
   refine⟨⟨_,_,rfl⟩,B,λj h1 h2=>?_⟩
   by_cases y:j<i
   ·exact no j h1 y
   ·have:j=i:=by omega
    rw[this];exact z
 ·rintro σ H' ⟨⟨a,c,rfl⟩,br,no⟩
  have e:pcAt (ahd b n)=0:=by
   unfold pcAt
   have n1:=no 1 (by decide) (by decide)
   have n2:=no 2 (by decide) (by decide)
   have n3:=no 3 (by decide) (by decide)
   rw[if_neg (λz=>n1 z.symm),if_neg (λz=>n2 z.symm),if_neg (λz=>n3 z.symm)]
  have:=k H' br
  rw[e]at this
  exact this
def sp_has_king (t:Adr):Sp:=λvs H Q _=>∃(l:Addr) (ms:List Tm.Mk),vs=[.ref l]/\MarksAt t H l ms/\ms.length<=1000/\∀H',Bar [] H H'->Q (.bl (ms.any λm=>decide (m.2.2=3))) H'
theorem sc_has_king:qqb ["marks","mark"] ["marks"] (dSc s_has_king):=by walk_at "sc9"
theorem with_any (ms:List Tm.Mk) (k:Nat):decide (0<(Tm.withSign ms k).length)=ms.any λm=>decide (m.2.2=k):=by
 unfold Tm.withSign
 rw[Bool.eq_iff_iff,decide_eq_true_eq,List.any_eq_true]
 constructor
 ·intro h
  obtain⟨m,hm⟩:=List.exists_mem_of_length_pos h
  exact⟨m,(List.mem_filter.mp hm).1,(List.mem_filter.mp hm).2⟩
 ·rintro⟨m,h1,h2⟩
  exact List.length_pos_of_mem (List.mem_filter.mpr ⟨h1,h2⟩)
theorem ok_has_king (T:Txt K mg t):FnOk P w K mg base (CX1 P w) 1 t.f_has_king t.d_has_king ["marks"] (sp_has_king t):=by
 refine T.has_king.F.okX sc_has_king (λvs H Q E h=>?_) (λcdv A outer s H vs Q E hr h=>?_)
 ·obtain⟨l,ms,rfl,_⟩:=h;rfl
 obtain⟨l,ms,rfl,⟨as,hl,hp⟩,hlen,kk⟩:=h
 have nd:=sc_has_king.nd
 have hlen2:as.length=ms.length:=Paired.length hp
 refine⟨_,pso (qqe (pe_cmpR op_gt (pe_callB call_len_seq (by rfl) T.o_len PySem.boot_len (pac (pe_lc (own:=[("mark",1)]) rfl nd (pi_list (pv 0)) (blkOk_by rfl) (λs H C cl fp=>pg_name (i:=1) nd rfl (Or.inl rfl)) (λs H C cl fp=>pts_one (qqh op_eq (eF T.Mark.c T.n_Mark_sign (pv 1)) (eK T.k_KING) (qqg _))) (λs H C cl fp=>pv 1)) pan)) pei (qqg _))),?_⟩
 refine⟨_,rfl,l,rfl,⟨_,SqL.of hl⟩,λD hD=>lc_list (K:=K) (a:=l) (xs:=as.map V.ref) (ivMW t H D as ms 3) ⟨[],rfl,.nil⟩ ?_ ?_ ?_⟩
 ·rintro j H3 _ ⟨bs,rfl,_⟩
  exact SqL.of (by rw[qqa (nen hl hD)];exact hl)
 ·rintro j x H3 hx ⟨bs,rfl,hb⟩
  obtain⟨a,ha,rfl⟩:=refs_at' hx
  obtain⟨m,hm,dm,hma⟩:=PAt hp ha
  have hma':(upd H D (.lst (bs.map V.ref))) a=some (.ins t.C_Mark dm (mkF m)):=by rw[qqa (nen hma hD)];exact hma
  walk_at "rd"
  have tk:ms.take (j+1)=ms.take j++[m]:=take_snoc' hm
  have few:bs.length<=1000:=by
   rw[Paired.length hb]
   exact Nat.le_trans (List.length_filter_le _ _) (Nat.le_trans (by rw[List.length_take];exact Nat.min_le_right _ _) hlen)
  refine⟨dm,_,hma',_,mkF_sign m,rfl,?_⟩
  by_cases z:m.2.2=3
  ·rw[if_pos (by rw[z];rfl)]
   refine⟨_,ups,by rw[List.length_map];exact small1000 few,bs++[a],?_,?_⟩
   ·rw[upd_upd,List.map_append];rfl
   ·rw[tk];unfold Tm.withSign;rw[List.filter_append,List.filter_cons,if_pos (decide_eq_true z)]
    exact PSnoc ⟨dm,hma⟩ hb
  ·rw[if_neg (by intro y;exact z (by have:=V.int.inj y;omega))]
   refine⟨bs,rfl,?_⟩
   rw[tk];unfold Tm.withSign;rw[List.filter_append,List.filter_cons,if_neg (by rw[decide_eq_false z];decide)]
   simpa[Tm.withSign] using hb
 ·rintro H3 ⟨bs,rfl,hb⟩
  rw[List.length_map,hlen2,List.take_length]at hb
  have lb:bs.length=(Tm.withSign ms 3).length:=Paired.length hb
  walk_at "rd"
  refine⟨_,.inl (SqL.of ups),?_⟩
  have:=kk _ (Bar.new (o:=.lst (bs.map V.ref)) hD)
  rw[<-with_any,<-lb]at this
  have e:decide ((0:Int)<((bs.map V.ref).length:Int))=decide (0<bs.length):=decide_eq_decide.mpr (by rw[List.length_map];omega)
  rw[e]
  exact this
def mkOf (g:Tm.Got):Tm.Mk:=(g.2.2,g.2.1,Tm.pieceNum g.1)
abbrev LineErr (wd hg:Nat) (c0:Tafl.Cur) (p:Nat):Prop:=Tafl.readRows wd 1024 wd (hg - 1) false false [] c0=.error p
def sp_take_row (t:Adr):Sp:=λvs H Q E=>∃(p tx lm:Addr) (b:Tafl.Bytes) (n wd hg y:Nat) (c0:Tafl.Cur) (l:List Tm.Got),vs=[.ref p,.int (wd:Int),.int (y:Int),.ref lm]/\ScanAt t H p tx n/\TextAt H tx b/\MarksAt t H lm (l.map mkOf)/\l.length<=500/\Tm.BoardAt wd hg c0 l 0 y false (cur b n)/\lm≠tx /\
 (∀(l':List Tm.Got) (n':Nat) (was:Bool) (H':Hp),Tm.BoardAt wd hg c0 l' wd y was (cur b n')->ScanAt t H' p tx n'->MarksAt t H' lm (l'.map mkOf)->Bar [p,lm] H H'->l'.length<=l.length+wd->Q .non H') /\
 ∀(n':Nat) (H':Hp),LineErr wd hg c0 n'->ScanAt t H' p tx n'->Bar [p,lm] H H'->E (.ref t.C_Stuck) none H'
theorem sc_take_row:qqb ["scan","wide","y","marks","x","behind_number","piece"] ["scan","wide","y","marks"] (dSc s_take_row):=by walk_at "sc9"
structure IvRow (t:Adr) (H0:Hp) (p tx lm:Addr) (b:Tafl.Bytes) (wd hg y:Nat) (c0:Tafl.Cur) (l0:List Tm.Got) (m:Nat) (σ:St) (H:Hp):Prop where
 ex:∃(l:List Tm.Got) (x n:Nat) (was:Bool) (a:Option V),σ=[some (.ref p),some (.int (wd:Int)),some (.int (y:Int)),some (.ref lm),some (.int (x:Int)),some (.bl was),a]/\m=wd - x/\Tm.BoardAt wd hg c0 l x y was (cur b n)/\ScanAt t H p tx n/\TextAt H tx b/\MarksAt t H lm (l.map mkOf)/\l.length<=l0.length+x
 bar:Bar [p,lm] H0 H
theorem ok_take_row (T:Txt K mg t):FnOk P w K mg base (CX1 P w) 3 t.f_take_row t.d_take_row ["scan","wide","y","marks"] (sp_take_row t):=by
 refine T.take_row.F.okX sc_take_row (λvs H Q E h=>?_) (λcdv A outer s H vs Q E hr h=>?_)
 ·obtain⟨p,tx,lm,b,n,wd,hg,y,c0,l,rfl,_⟩:=h;rfl
 obtain⟨p,tx,lm,b,n,wd,hg,y,c0,l0,rfl,hs,ht,hm,hl,BA,ntx,k1,k2⟩:=h
 have nd:=sc_take_row.nd
 have hr1:Room 1 _:=hr.mono (by decide)
 refine⟨_,psc (qqd (i:=4) nd rfl (Or.inl rfl) pei) (psc (qqd (i:=5) nd rfl (Or.inl rfl) pe_bl)
  (pso (ps_while owns_fn (qqh op_lt (pv 4) (pv 1) (qqg _))
   (psc (qqd (i:=6) nd rfl (Or.inl rfl) (eC T.piece_ahead (ok_piece_ahead T) hr (pac (pv 0) pan)))
   (pso (ps_if (qqh op_ne (pv 6) (eK T.k_NOBODY) (qqg _))
    (psc (ps_if (PW.pt (pw_and (qqh op_eq (pv 6) (eK T.k_KING) (qqg _)) (pw_and1 (pt_val (eC T.has_king (ok_has_king T) hr1 (pac (pv 3) pan)))))) (pso (ps_raise0 rfl qqc T.Stuck.c T.Stuck.i T.Stuck.kp rfl T.Stuck.m)) qqi)
    (psc (qqj (pe_bm PySem.F.plainAttrs_list PySem.F.slot_list_append PySem.F.type_list_append mt_append (pv 3) (pac (eN T.Mark (ok_Mark_init T) hr (pac (eF T.Scan.c T.n_Scan_place (pv 0)) (pac (eC T.cell_number (ok_cell_number T) hr1 (pac (pv 4) (pac (pv 2) pan))) (pac (pv 6) pan)))) pan)))
    (psc (qqj (eM0 T.Scan.c T.Scan_go_on (ok_Scan_go_on T) hr1 (pv 0)))
    (psc (qqd (i:=4) nd rfl (Or.inl rfl) (pe_op op_add (pv 4) pei)) (pso (qqd (i:=5) nd rfl (Or.inl rfl) pe_bl))))))
    (psc (ps_if (pt_val (pv 5)) (pso (ps_raise0 rfl qqc T.Stuck.c T.Stuck.i T.Stuck.kp rfl T.Stuck.m)) qqi)
    (psc (qqd (i:=4) nd rfl (Or.inl rfl) (pe_op op_add (pv 4) (eMR qqc T.Scan.c T.Scan_take_number (ok_Scan_take_number T) hr (pv 0) (pac pei (pac (pe_op op_sub (pv 1) (pv 4)) pan)))))
    (pso (qqd (i:=5) nd rfl (Or.inl rfl) pe_bl)))))))))),?_⟩
 walk_at "rd"
 refine⟨IvRow t H p tx lm b wd hg y c0 l0,⟨wd,⟨l0,0,n,false,none,rfl,rfl,BA,hs,ht,hm,by omega⟩,.refl _ _⟩,?_⟩
 rintro m σ H' ⟨⟨l,x,n',was,a,rfl,em,BA',hs',ht',hm',hl'⟩,br⟩
 walk_at "rd"
 have b1k:∀ {H1:Hp},Bar [] H' H1->Bar [p,lm] H H1:=λz=>br.trans z.more
 by_cases hx:x<wd
 rotate_left
 ·rw[if_neg (by omega)]
  have ex:x=wd:=Nat.le_antisymm BA'.xle (by omega)
  subst ex
  exact k1 l n' was H' BA' hs' hm' br hl'
 rw[if_pos (by omega)]
 refine⟨λσ2 H2=>∃m',m'<m/\IvRow t H p tx lm b wd hg y c0 l0 m' σ2 H2,λ_ _ h=>h,p,tx,b,n',rfl,hs',ht',λH1 b1=>⟨rfl,?_⟩⟩
 have hs1:ScanAt t H1 p tx n':=by
  obtain⟨ds,q⟩:=hs'
  exact⟨ds,b1.same q⟩
 have ht1:TextAt H1 tx b:=b1.same ht'
 have hm1:=hm'.same b1
 have B1:=b1k b1
 obtain⟨ds,hp1⟩:=id hs1
 have w13:=BA'.w13
 by_cases h0:pcAt (ahd b n')=0
 ·rw[if_neg (by rw[h0];exact λq=>q rfl)]
  have hn:Tm.noPiece (l.any λg=>decide (g.1=.king)) (cur b n'):=by
   intro z hz
   rw[cur_next]at hz
   have ea:=ahd_eq.mpr hz
   unfold pcAt at h0
   refine⟨λe=>?_,λe=>?_,λe=>?_⟩
   ·rw[e]at ea;rw[if_pos (by rw[ea];rfl)]at h0;cases h0
   ·rw[e]at ea;rw[if_neg (by rw[ea];decide),if_pos (by rw[ea];rfl)]at h0;cases h0
   ·rw[e.1]at ea;rw[if_neg (by rw[ea];decide),if_neg (by rw[ea];decide),if_pos (by rw[ea];rfl)]at h0;cases h0
  cases was with
  | true =>
   rw[if_pos rfl]
   exact k2 n' H1 (BA'.was_ hx hn) hs1 B1
  | false =>
   rw[if_neg (by decide)]
   have ew:(wd:Int) - (x:Int)=((wd - x:Nat):Int):=by omega
   refine⟨ds,_,hp1,rfl,p,tx,b,n',1,wd - x,by rw[ew];rfl,by decide,by omega,hs1,ht1,λv n2 H2 e s2 b2=>?_,λn2 H2 e s2 b2=>?_⟩
   ·have vb:=Tm.number_within (by omega) e
    have lp:lm≠p:=marks_ne_scan hm1 hs1
    refine⟨_,rfl,wd - (x+v),by omega,⟨⟨l,x+v,n2,true,some (V.int ((pcAt (ahd b n'):Nat):Int)),?_,rfl,BA'.num hx hn e,s2,ht1.bar hs1 b2,hm1.scan hs1 b2,by omega⟩,B1.trans (b2.mono (by simp))⟩⟩
    have e3:(x:Int)+(v:Int)=((x+v:Nat):Int):=by omega
    rw[e3]
   ·exact k2 n2 H2 (BA'.numE hx hn e) s2 (B1.trans (b2.mono (by simp)))
 ·have hpc:∃(pc:Tafl.Piece) (z:UInt8),pcAt (ahd b n')=Tm.pieceNum pc/\b[n']?=some z/\(pc=.hunter/\z=104\/pc=.man/\z=109\/pc=.king/\z=75):=by
   by_cases c1:ahd b n'=((104:UInt8).toNat:Int)
   ·exact⟨.hunter,104,by rw[c1];rfl,ahd_eq.mp c1,.inl ⟨rfl,rfl⟩⟩
   by_cases c2:ahd b n'=((109:UInt8).toNat:Int)
   ·exact⟨.man,109,by rw[c2];rfl,ahd_eq.mp c2,.inr (.inl ⟨rfl,rfl⟩)⟩
   by_cases c3:ahd b n'=((75:UInt8).toNat:Int)
   ·exact⟨.king,75,by rw[c3];rfl,ahd_eq.mp c3,.inr (.inr ⟨rfl,rfl⟩)⟩
   exfalso
   apply h0
   unfold pcAt
   rw[if_neg (show ¬ahd b n'=104 from c1),if_neg (show ¬ahd b n'=109 from c2),if_neg (show ¬ahd b n'=75 from c3)]
  obtain⟨pc,z,epc,hz,hpz⟩:=hpc
  rw[if_pos (λq=>h0 (by have:=V.int.inj q;omega))]
  have hlen:(l.map mkOf).length<=1000:=by rw[List.length_map];omega
  have ek:((l.map mkOf).any λm=>decide (m.2.2=3))=l.any λg=>decide (g.1=.king):=by
   rw[List.any_map]
   congr 1
   funext g
   obtain⟨g1,g2,g3⟩:=g
   cases g1 <;> rfl
  refine⟨rfl,?_⟩
  by_cases zk:pc=.king
  ·rw[if_pos (by rw[epc,zk];rfl)]
   refine⟨lm,_,rfl,hm1,hlen,λH2 b2=>⟨_,rfl,?_⟩⟩
   rw[ek]
   have hs2:ScanAt t H2 p tx n':=⟨ds,b2.same hp1⟩
   have ht2:TextAt H2 tx b:=b2.same ht1
   have hm2:=hm1.same b2
   have B2:Bar [p,lm] H H2:=B1.trans b2.more
   by_cases any:(l.any λg=>decide (g.1=.king))=true
   ·rw[if_pos any]
    have z75:z=75:=by
     rcases hpz with e | e | e
     ·rw[zk]at e;exact nomatch e.1
     ·rw[zk]at e;exact nomatch e.1
     ·exact e.2
    have nx:(cur b n').next=some 75:=by rw[cur_next,hz,z75]
    have hn:Tm.noPiece (l.any λg=>decide (g.1=.king)) (cur b n'):=by
     intro v hv
     rw[nx]at hv
     cases hv
     exact⟨by decide,by decide,λe=>by rw[any]at e;exact nomatch e.2⟩
    have num:Tafl.number 1 (wd - x) (cur b n')=.error n':=by
     rw[(Tm.NumAt.start 1 (wd - x) (cur b n')).fin (by unfold Tm.goesOn Tm.digit?;rw[nx];rfl)]
     rw[if_neg (by omega)]
     rfl
    cases was with
    | true=>exact k2 n' H2 (BA'.was_ hx hn) hs2 B2
    | false=>exact k2 n' H2 (BA'.numE hx hn num) hs2 B2
   ·rw[if_neg any]
    obtain⟨as,hl1,hpr⟩:=id hm2
    obtain⟨dsx,hpx⟩:=id hs2
    have lp:lm≠p:=marks_ne_scan hm2 hs2
    have la:as.length=l.length:=by rw[Paired.length hpr,List.length_map]
    refine⟨.inl ⟨rfl,_,SqL.of hl1⟩,dsx,_,hpx,_,scF_place ..,(x:Int),(y:Int),rfl,λq dq hq hdq _=>⟨q,dq,mkOf (pc,Tafl.cellOf x y,n'),?_,ups,rfl,?_⟩⟩
    ·have e1:13*(y:Int)+(x:Int)=((Tafl.cellOf x y:Nat):Int):=by unfold Tafl.cellOf Tafl.STRIDE;omega
     rw[e1,epc];rfl
    ·have b3:=bar_made (C:=t.C_Mark) (fs:=mkF (mkOf (pc,Tafl.cellOf x y,n'))) hq hdq
     have hq3:(upd (upd (upd H2 dq (.own q)) q (.ins t.C_Mark dq [])) q (.ins t.C_Mark dq (mkF (mkOf (pc,Tafl.cellOf x y,n'))))) q=some (.ins t.C_Mark dq (mkF (mkOf (pc,Tafl.cellOf x y,n')))):=ups
     generalize upd (upd (upd H2 dq (.own q)) q (.ins t.C_Mark dq [])) q (.ins t.C_Mark dq (mkF (mkOf (pc,Tafl.cellOf x y,n'))))=H3 at b3 hq3 ⊢
     have hpr3:=PImp hpr λa m _ (z:MarkAt t _ a m)=>(show MarkAt t H3 a m from let ⟨dz,z⟩:=z;⟨dz,b3.same z⟩)
     have M4:=MarksAt.push (b3.same hl1) hpr3 hq3
     have hp4:(upd H3 lm (.lst (as.map V.ref++[.ref q]))) p=some (.ins t.C_Scan dsx (scF tx n')):=by rw[qqa lp.symm];exact b3.same hpx
     have ht4:TextAt (upd H3 lm (.lst (as.map V.ref++[.ref q]))) tx b:=by unfold TextAt;rw[qqa ntx.symm];exact b3.same ht2
     have b4:Bar [p,lm] H2 (upd H3 lm (.lst (as.map V.ref++[.ref q]))):=b3.more.trans (Bar.one.mono (by simp))
     refine⟨lm,_,_,rfl,rfl,b3.same hl1,by rw[List.length_map,la,sizeLine_eq];omega,?_⟩
     generalize upd H3 lm (.lst (as.map V.ref++[.ref q]))=H4 at M4 hp4 ht4 b4 ⊢
     refine⟨dsx,_,hp4,rfl,p,dsx,tx,n',rfl,hp4,wd - (x+1),by omega,⟨⟨l++[(pc,Tafl.cellOf x y,n')],x+1,n'+1,false,some (V.int ((pcAt (ahd b n'):Nat):Int)),?_,rfl,?_,⟨dsx,ups⟩,?_,?_,?_⟩,?_⟩⟩
     ·have e3:(x:Int)+1=((x+1:Nat):Int):=by omega
      rw[e3]
     ·rw[<-cur_on];exact BA'.piece hx (by rw[cur_next];exact hz) (hpz.elim .inl λe=>e.elim (λe=>.inr (.inl e)) λe=>.inr (.inr ⟨e.1,e.2,Bool.eq_false_iff.mpr any⟩))
     ·exact ht4.bar ⟨dsx,hp4⟩ .one
     ·rw[List.map_append];exact M4.scan ⟨dsx,hp4⟩ .one
     ·rw[List.length_append];show _+1<=_;omega
     ·exact (B2.trans b4).trans (Bar.one.mono (by simp))
  ·rw[if_neg (by rw[epc];intro q;apply zk;revert q;cases pc <;> first | decide | (intro _;rfl))]
   obtain⟨as,hl1,hpr⟩:=id hm1
   obtain⟨dsx,hpx⟩:=id hs1
   have lp:lm≠p:=marks_ne_scan hm1 hs1
   have la:as.length=l.length:=by rw[Paired.length hpr,List.length_map]
   refine⟨.inl ⟨rfl,_,SqL.of hl1⟩,dsx,_,hpx,_,scF_place ..,(x:Int),(y:Int),rfl,λq dq hq hdq _=>⟨q,dq,mkOf (pc,Tafl.cellOf x y,n'),?_,ups,rfl,?_⟩⟩
   ·have e1:13*(y:Int)+(x:Int)=((Tafl.cellOf x y:Nat):Int):=by unfold Tafl.cellOf Tafl.STRIDE;omega
    rw[e1,epc];rfl
   ·have b3:=bar_made (C:=t.C_Mark) (fs:=mkF (mkOf (pc,Tafl.cellOf x y,n'))) hq hdq
    have hq3:(upd (upd (upd H1 dq (.own q)) q (.ins t.C_Mark dq [])) q (.ins t.C_Mark dq (mkF (mkOf (pc,Tafl.cellOf x y,n'))))) q=some (.ins t.C_Mark dq (mkF (mkOf (pc,Tafl.cellOf x y,n')))):=ups
    generalize upd (upd (upd H1 dq (.own q)) q (.ins t.C_Mark dq [])) q (.ins t.C_Mark dq (mkF (mkOf (pc,Tafl.cellOf x y,n'))))=H3 at b3 hq3 ⊢
    have hpr3:=PImp hpr λa m _ (z:MarkAt t _ a m)=>(show MarkAt t H3 a m from let ⟨dz,z⟩:=z;⟨dz,b3.same z⟩)
    have M4:=MarksAt.push (b3.same hl1) hpr3 hq3
    have hp4:(upd H3 lm (.lst (as.map V.ref++[.ref q]))) p=some (.ins t.C_Scan dsx (scF tx n')):=by rw[qqa lp.symm];exact b3.same hpx
    have ht4:TextAt (upd H3 lm (.lst (as.map V.ref++[.ref q]))) tx b:=by unfold TextAt;rw[qqa ntx.symm];exact b3.same ht1
    have b4:Bar [p,lm] H1 (upd H3 lm (.lst (as.map V.ref++[.ref q]))):=b3.more.trans (Bar.one.mono (by simp))
    refine⟨lm,_,_,rfl,rfl,b3.same hl1,by rw[List.length_map,la,sizeLine_eq];omega,?_⟩
    generalize upd H3 lm (.lst (as.map V.ref++[.ref q]))=H4 at M4 hp4 ht4 b4 ⊢
    refine⟨dsx,_,hp4,rfl,p,dsx,tx,n',rfl,hp4,wd - (x+1),by omega,⟨⟨l++[(pc,Tafl.cellOf x y,n')],x+1,n'+1,false,some (V.int ((pcAt (ahd b n'):Nat):Int)),?_,rfl,?_,⟨dsx,ups⟩,?_,?_,?_⟩,?_⟩⟩
    ·have e3:(x:Int)+1=((x+1:Nat):Int):=by omega
     rw[e3]
    ·rw[<-cur_on];exact BA'.piece hx (by rw[cur_next];exact hz) (hpz.elim .inl λe=>e.elim (λe=>.inr (.inl e)) λe=>absurd e.1 zk)
    ·exact ht4.bar ⟨dsx,hp4⟩ .one
    ·rw[List.map_append];exact M4.scan ⟨dsx,hp4⟩ .one
    ·rw[List.length_append];show _+1<=_;omega
    ·exact (B1.trans b4).trans (Bar.one.mono (by simp))
def sp_take_board (t:Adr):Sp:=λvs H Q E=>∃(p tx ru:Addr) (b:Tafl.Bytes) (n wd hg:Nat) (fs:List (Str×V)),vs=[.ref p,.ref ru]/\ScanAt t H p tx n/\TextAt H tx b/\RuWH t H ru fs wd hg/\wd<=13/\0<hg/\hg<=13 /\
 (∀(l:List Tm.Got) (n':Nat) (was:Bool) (H':Hp) (lm:Addr),Tm.BoardAt wd hg (cur b n) l wd 0 was (cur b n')->ScanAt t H' p tx n'->MarksAt t H' lm (l.map mkOf)->Bar [p] H H'->l.length<=169->Q (.ref lm) H') /\
 ∀(n':Nat) (H':Hp),LineErr wd hg (cur b n) n'->ScanAt t H' p tx n'->Bar [p] H H'->E (.ref t.C_Stuck) none H'
theorem sc_take_board:qqb ["scan","rules","marks","y"] ["scan","rules"] (dSc s_take_board):=by walk_at "sc9"
structure IvTB (t:Adr) (H0:Hp) (p tx ru lm:Addr) (b:Tafl.Bytes) (n wd hg i:Nat) (σ:St) (H:Hp):Prop where
 st:∃a,σ=[some (.ref p),some (.ref ru),some (.ref lm),a]
 ex:∃(l:List Tm.Got) (n':Nat),ScanAt t H p tx n'/\MarksAt t H lm (l.map mkOf)/\l.length<=13*i/\(i<hg/\Tm.BoardAt wd hg (cur b n) l 0 (hg - 1 - i) false (cur b n')\/i=hg/\∃was,Tm.BoardAt wd hg (cur b n) l wd 0 was (cur b n'))
 bar:Bar [p] H0 H
theorem ok_take_board (T:Txt K mg t):FnOk P w K mg base (CX1 P w) 4 t.f_take_board t.d_take_board ["scan","rules"] (sp_take_board t):=by
 refine T.take_board.F.okX sc_take_board (λvs H Q E h=>?_) (λcdv A outer s H vs Q E hr h=>?_)
 ·obtain⟨p,tx,ru,b,n,wd,hg,fs,rfl,_⟩:=h;rfl
 obtain⟨p,tx,ru,b,n,wd,hg,fs,rfl,hs,ht,hru,w13,h0,h13,k1,k2⟩:=h
 have nd:=sc_take_board.nd
 have hr2:Room 2 _:=hr.mono (by decide)
 refine⟨_,psc (qqd (i:=2) nd rfl (Or.inl rfl) (pe_lst pan))
  (psc (ps_for owns_fn rfl (pi_range3 (by rfl) T.o_range (pac (pe_op op_sub (eF T.Rules.c T.n_Rules_high (pv 1)) pei) (pac (pe_un un_neg pei) (pac (pe_un un_neg pei) pan)))) (pg_name (i:=3) nd rfl (Or.inl rfl))
   (psc (qqj (eCR qqc T.take_row (ok_take_row T) hr (pac (pv 0) (pac (eF T.Rules.c T.n_Rules_wide (pv 1)) (pac (pv 3) (pac (pv 2) pan))))))
   (pso (ps_if (qqh op_gt (pv 3) pei (qqg _)) (pso (qqj (eMR qqc T.Scan.c T.Scan_take (ok_Scan_take T) hr2 (pv 0) (pac pe_str pan)))) qqi))))
  (pso (qqe (pv 2)))),?_⟩
 walk_at "rd"
 refine⟨Nat.zero_le _,λlm hlm=>?_⟩
 obtain⟨dr,hru'⟩:=id hru.at_
 have ru_lm:(upd H lm (.lst [])) ru=some (.ins t.C_Rules dr fs):=by rw[qqa (nen hru' hlm)];exact hru'
 have nlt:lm≠tx:=λz=>by rw[z]at hlm;rw[ht]at hlm;cases hlm
 have dropL:∀ {H1 H2:Hp},Bar [p] H H1->Bar [p,lm] H1 H2->Bar [p] H H2:=λ{H1 H2} b1 b2 c o h hn=>b2 c o (b1 c o h hn) (by
  have:=nen h hlm
  simp only[List.mem_cons,List.not_mem_nil,or_false,not_or]at hn ⊢
  exact⟨hn,this⟩)
 refine⟨_,rfl,ru,dr,fs,_,rfl,ru_lm,hru.high,_,_,rfl,rfl,_,rfl,_,rfl,_,_,_,_,rfl,RgC.neg (i:=(hg:Int) - 1) (j:=-1) (by omega) (by omega) (by decide) (by decide),for_rangeC (IvTB t H p tx ru lm b n wd hg) ?_ ?_ ?_⟩
 ·exact⟨⟨_,rfl⟩,⟨[],n,hs.new hlm,⟨[],ups,.nil⟩,by simp,.inl ⟨h0,Tm.BoardAt.start w13 h0 h13⟩⟩,.new hlm⟩
 ·rintro i σ H' hi ⟨⟨a,rfl⟩,⟨l,n',hs',hm',hl',BA⟩,br⟩
  have hi':i<hg:=by omega
  have BA:Tm.BoardAt wd hg (cur b n) l 0 (hg - 1 - i) false (cur b n'):=by
   rcases BA with z | z
   ·exact z.2
   ·omega
  have ht':=ht.bar hs br
  have hru1:=hru.bar hs br
  obtain⟨dr1,hr1'⟩:=id hru1.at_
  have ey:(hg:Int) - 1+(i:Nat)*-1=((hg - 1 - i:Nat):Int):=by omega
  walk_at "rd"
  rw[ey]
  refine⟨dr1,fs,hr1',_,hru1.wide,p,tx,lm,b,n',wd,hg,hg - 1 - i,cur b n,l,rfl,hs',ht',hm',by omega,BA,nlt,λl2 n2 was H2 BA2 s2 m2 b2 q2=>?_,λn2 H2 e s2 b2=>k2 n2 H2 e s2 (dropL br b2)⟩
  have B2:=dropL br b2
  dsimp only
  by_cases y0:0<hg - 1 - i
  ·rw[if_pos (by omega)]
   obtain⟨d2,hp2⟩:=id s2
   refine⟨d2,_,hp2,rfl,p,tx,b,n2,_,[47],rfl,by decide +kernel,s2,ht.bar hs B2,λ_ n3 H3 e s3 b3=>?_,λn3 H3 e s3 b3=>?_⟩
   ·have:=BA2.next y0 (lit_ok e)
    exact⟨⟨_,rfl⟩,⟨l2,n3,s3,m2.scan s2 b3,by omega,.inl ⟨by omega,by rw[show hg - 1 - (i+1)=hg - 1 - i - 1 by omega];exact this⟩⟩,B2.trans b3⟩
   ·exact k2 n3 H3 (BA2.nextE y0 (lit_err e)) s3 (B2.trans b3)
  ·rw[if_neg (by omega)]
   have e0:hg - 1 - i=0:=by omega
   rw[e0]at BA2
   exact⟨⟨_,rfl⟩,⟨l2,n2,s2,m2,by omega,.inr ⟨by omega,was,BA2⟩⟩,B2⟩
 ·rintro σ H' ⟨⟨a,rfl⟩,⟨l,n',hs',hm',hl',BA⟩,br⟩
  rcases BA with z | ⟨_,was,z⟩
  ·omega
  ·exact⟨_,rfl,k1 l n' was H' lm z hs' hm' br (by omega)⟩
theorem bar_drop1 {H H0 H':Hp}{p:Addr}(b0:Bar [] H H0) (hp:H p=none) (b:Bar [p] H0 H'):Bar [] H H':=λc u h _=>b c u (b0.same h) (by simpa using nen h hp)
structure PosGood (t:Adr) (H:Hp) (p:Addr) (R:Tafl.Rules) (pos:Tafl.Pos):Prop where
 ex:∃hs ms,PosAt t H p hs ms pos.king pos.side/\Tm.PosIs pos hs ms/\Tm.rightN R hs ms pos.king pos.side
theorem PosGood.same {t:Adr}{H H':Hp}{p:Addr}{R:Tafl.Rules}{pos:Tafl.Pos}(g:PosGood t H p R pos) (b:Bar [] H H'):PosGood t H' p R pos:=by
 obtain⟨hs,ms,h1,h2,h3⟩:=g.ex
 exact⟨hs,ms,h1.same b,h2,h3⟩
theorem wa_side:WordsAre ["h","k"] (["h","k"].map Tafl.ascii):=.cons (by decide +kernel) (.cons (by decide +kernel) .nil)
def sp_read_line (t:Adr):Sp:=λvs H Q E=>∃(ru tx:Addr) (d:RD) (R:Tafl.Rules) (b:Tafl.Bytes),vs=[.ref ru,.ref tx]/\RAt t H ru d/\Says d R/\TextAt H tx b /\
 (∀(pos:Tafl.Pos) (p:Addr) (H':Hp),R.readLine b=.ok pos->PosGood t H' p R pos->Bar [] H H'->Q (.ref p) H') /\
 ∀(k p:Nat) (dx:Addr) (H':Hp),R.readLine b=.error (k,p)->Bar [] H H'->FaultAt H' dx k p->E (.ref t.C_LineFault) (some dx) H'
theorem sc_read_line:qqb ["rules","text","scan","marks","side","mark"] ["rules","text"] (dSc s_read_line):=by walk_at "sc9"
structure IvRL (R:Tafl.Rules) (H0:Hp) (ru tx x lm:Addr) (sd:Nat) (l:List Tm.Got) (i:Nat) (σ:St) (H:Hp):Prop where
 st:∃a,σ=[some (.ref ru),some (.ref tx),some (.ref x),some (.ref lm),some (.int (sd:Int)),a]
 hp:H=H0
 all:∀g∈l.take i,Tafl.mayStand g.1 (R.kindAt g.2.1)=true
theorem ok_read_line (T:Txt K mg t):FnOk P w K mg base (CX1 P w) 5 t.f_read_line t.d_read_line ["rules","text"] (sp_read_line t):=by
 refine T.read_line.F.okX sc_read_line (λvs H Q E h=>?_) (λcdv A outer s H vs Q E hr h=>?_)
 ·obtain⟨ru,tx,d,R,b,rfl,_⟩:=h;rfl
 obtain⟨ru,tx,d,R,b,rfl,hR,hS,ht,k1,k2⟩:=h
 have nd:=sc_read_line.nd
 have hr3:Room 3 _:=hr.mono (by decide)
 have hr2:Room 2 _:=hr.mono (by decide)
 have hr1:Room 1 _:=hr.mono (by decide)
 have dp:(A.deeper (envOfC "read_line" (dSc s_read_line) s.heap.objs.size t.f_read_line cdv)).depth+1<recursionLimit:=by have:=hr.dp;omega
 refine⟨_,psc (qqd (i:=2) nd rfl (Or.inl rfl) (eN T.Scan (ok_Scan_init T) hr2 (pac (pv 1) pan)))
  (psc (ps_tryR rfl rfl qqc T.Stuck.c rfl T.Stuck.m
   (λpins Rb=>psc (qqd (i:=3) nd rfl (Or.inl rfl) (eCR takes_try T.take_board (ok_take_board T) hr (pac (pv 2) (pac (pv 0) pan))))
    (psc (qqj (eMR takes_try T.Scan.c T.Scan_take (ok_Scan_take T) hr2 (pv 2) (pac pe_str pan)))
    (psc (qqd (i:=4) nd rfl (Or.inl rfl) (eMR takes_try T.Scan.c T.Scan_take_one_of (ok_Scan_take_one_of T) hr2 (pv 2) (pac (eKt T.k_SIDE_SIGNS) pan)))
    (pso (qqj (eMR0 takes_try T.Scan.c T.Scan_take_end (ok_Scan_take_end T) hr2 (pv 2)))))))
   (λe pn E ob vb m d z Tk=>pso (ps_raiseN rfl m d z Tk T.LineFault dp rfl T.m_LineFault (pac pei (pac (eF T.Scan.c T.n_Scan_place (pv 2)) pan)))))
  (psc (ps_for owns_fn rfl (pi_list (pv 3)) (pg_name (i:=5) nd rfl (Or.inl rfl))
   (pso (ps_if (pt_not (pt_val (eC T.may_stand (ok_may_stand T) hr1 (pac (eF T.Rules.c T.n_Rules_kinds (pv 0)) (pac (eF T.Mark.c T.n_Mark_cell (pv 5)) (pac (eF T.Mark.c T.n_Mark_sign (pv 5)) pan))))))
    (pso (ps_raise2 rfl qqc T.LineFault dp rfl T.m_LineFault (pac pei (pac (eF T.Mark.c T.n_Mark_place (pv 5)) pan)))) qqi)))
  (pso (qqe (eC T.position_of (ok_position_of T) hr3 (pac (pv 3) (pac (pv 4) pan))))))),?_⟩
 walk_at "rd"
 intro x dx hx hdx _
 refine⟨x,dx,tx,rfl,ups,rfl,?_⟩
 have B1:=bar_made (C:=t.C_Scan) (fs:=scF tx 0) hx hdx
 have hs:ScanAt t (upd (upd (upd H dx (.own x)) x (.ins t.C_Scan dx [])) x (.ins t.C_Scan dx (scF tx 0))) x tx 0:=⟨dx,ups⟩
 generalize upd (upd (upd H dx (.own x)) x (.ins t.C_Scan dx [])) x (.ins t.C_Scan dx (scF tx 0))=Hs at B1 hs ⊢
 have ht1:TextAt Hs tx b:=B1.same ht
 have w13:R.wide<=13:=by rw[<-hS.wide];exact hR.good.w.2
 have h13:R.high<=13:=by rw[<-hS.high];exact hR.good.h.2
 have h5:0<R.high:=by rw[<-hS.high];have:=hR.good.h.1;omega
 have R1:=hR.same B1
 obtain⟨dr,fs,lg,ls,dk,r1,F1,_,_,_⟩:=id R1.ex
 have rw1:RuWH t Hs ru fs R.wide R.high:=⟨⟨dr,r1⟩,by rw[<-hS.wide];exact F1.wide,by rw[<-hS.high];exact F1.high⟩
 have stuck:∀ {n':Nat}{H':Hp},R.readLine b=.error (1,n')->ScanAt t H' x tx n'->Bar [x] Hs H'->∃ds,H' x=some (.ins t.C_Scan ds (scF tx n'))/\∀dx,H' dx=none->E (.ref t.C_LineFault) (some dx) (upd H' dx (.xd [("kind",.int 1),("place",.int (n':Nat))])):=λ{n' H'} e S br=>by
  obtain⟨ds,q⟩:=S
  exact⟨ds,q,λdx hdx=>k2 1 n' dx _ e ((bar_drop1 B1 hx br).trans (.new hdx)) ups⟩
 refine⟨x,tx,ru,b,0,R.wide,R.high,fs,rfl,hs,ht1,rw1,w13,h5,h13,λl n1 was H1 lm BA s1 m1 b1 l169=>?_,λn1 H1 e1 s1 b1=>?_⟩
 rotate_left
 ·obtain⟨ds,q1,q2⟩:=stuck (Tm.readLine_error e1) s1 b1
  exact⟨rfl,rfl,_,rfl,x,rfl,ds,_,q1,_,scF_place tx n1,q2⟩
 have ht2:=ht1.bar hs b1
 obtain⟨d1,hp1⟩:=id s1
 refine⟨d1,_,hp1,rfl,x,tx,b,n1,_,[32],rfl,by decide +kernel,s1,ht2,λ_ n2 H2 e2 s2 b2=>?_,λn2 H2 e2 s2 b2=>?_⟩
 rotate_left
 ·obtain⟨ds,q1,q2⟩:=stuck (Tm.readLine_error (BA.lastE (lit_err e2))) s2 (b1.trans b2)
  exact⟨rfl,rfl,_,rfl,x,rfl,ds,_,q1,_,scF_place tx n2,q2⟩
 have B2:=b1.trans b2
 have ht3:=ht1.bar hs B2
 obtain⟨d2,hp2⟩:=id s2
 refine⟨d2,_,hp2,rfl,x,tx,t.a_SIDE_SIGNS,b,n2,["h","k"],["h","k"],rfl,T.k_SIDE_SIGNS.s,wa_side,by decide,by decide,s2,ht3,λsd n3 H3 e3 s3 b3=>?_,λn3 H3 e3 s3 b3=>?_⟩
 rotate_left
 ·obtain⟨z1,z2,z3⟩:=Tm.side_err e3
  obtain⟨ds,q1,q2⟩:=stuck (Tm.readLine_error (by rw[z3];exact BA.sideE (lit_ok e2) z1 z2)) s3 (B2.trans b3)
  exact⟨rfl,rfl,_,rfl,x,rfl,ds,_,q1,_,scF_place tx n3,q2⟩
 have B3:=B2.trans b3
 have ht4:=ht1.bar hs B3
 obtain⟨d3,hp3⟩:=id s3
 obtain⟨hsd,hon⟩:=Tm.side_ok e3
 have rd:=BA.last (lit_ok e2) hsd
 refine⟨d3,_,hp3,rfl,x,tx,b,n3,rfl,s3,ht4,λe4=>?_,λe4=>?_⟩
 rotate_left
 ·have nn:(cur b n2).on.next≠none:=by rw[<-hon,cur_next];exact e4
  have er:=Tm.readLine_more rd nn
  rw[<-hon]at er
  obtain⟨ds,q1,q2⟩:=stuck er s3 B3
  exact⟨rfl,rfl,_,rfl,x,rfl,ds,_,q1,_,scF_place tx n3,q2⟩
 have nn:(cur b n2).on.next=none:=by rw[<-hon,cur_next];exact e4
 have sd1:sd<=1:=by rcases hsd with z | z <;> omega
 have B0:=bar_drop1 B1 hx B3
 have m3:=(m1.scan s1 b2).scan s2 b3
 have R3:=hR.same B0
 obtain⟨as,hl3,hpa⟩:=id m3
 obtain⟨dr3,fs3,lg3,ls3,dk3,r3,F3,_,_,kk3⟩:=id R3.ex
 have few:(l.map mkOf).length<=1000:=by rw[List.length_map];omega
 have np:∀g∈l,g.1≠.none:=λg hg=>(BA.cells g hg).1
 refine⟨_,rfl,lm,rfl,⟨_,SqL.of hl3⟩,for_list (K:=K) (a:=lm) (xs:=as.map V.ref) (IvRL R H3 ru tx x lm sd l) ⟨⟨none,rfl⟩,rfl,λg hg=>by simp at hg⟩ (λi σ H' _ I=>by rw[I.hp];exact SqL.of hl3) ?_ ?_⟩
 ·rintro i y σ H' hi ⟨⟨a,rfl⟩,rfl,hall⟩
  obtain⟨c,hc,rfl⟩:=refs_at' hi
  obtain⟨m,hm,dm,hma⟩:=PAt hpa hc
  rw[List.getElem?_map]at hm
  cases hg:l[i]? with
  | none=>rw[hg]at hm;cases hm
  | some g =>
   rw[hg]at hm
   have em:mkOf g=m:=Option.some.inj hm
   subst em
   walk_at "rd"
   have gin:g∈l:=List.mem_of_getElem? hg
   have em:Tm.mayStandN (kdOf d.gm g.2.1) (Tm.pieceNum g.1)=Tafl.mayStand g.1 (R.kindAt g.2.1):=by
    have ek:kdOf (Tm.groundMarks R) g.2.1=Tm.kindN R g.2.1:=Tm.kd_kind (r:=R) w13 _
    rw[hS.gm,ek,Tm.mayStand_N (np g gin)]
   refine⟨dr3,fs3,r3,_,F3.kinds,dm,_,hma,_,mkF_cell _,dm,_,hma,_,mkF_sign _,dk3,d.gm,g.2.1,Tm.pieceNum g.1,rfl,kk3,_,rfl,?_⟩
   rw[em]
   cases hms:Tafl.mayStand g.1 (R.kindAt g.2.1) with
   | false =>
    rw[if_pos rfl]
    refine⟨dm,_,hma,_,mkF_place _,λdx hdx=>?_⟩
    exact k2 2 g.2.2 dx _ (Tm.readLine_bad rd nn (Tm.bad_at hg hms hall)) (B0.trans (.new hdx)) ups
   | true =>
    rw[if_neg (by decide)]
    refine⟨⟨_,rfl⟩,rfl,λg' hg'=>?_⟩
    rw[take_snoc' hg,List.mem_append,List.mem_singleton]at hg'
    rcases hg' with z | z
    ·exact hall g' z
    ·rw[z];exact hms
 ·rintro σ H' ⟨⟨a,rfl⟩,rfl,hall⟩
  rw[List.length_map,Paired.length hpa,List.length_map,List.take_length]at hall
  walk_at "rd"
  refine⟨lm,l.map mkOf,sd,rfl,m3,few,λH4 p hs' mn ks b4 PA p1 s1' p2 s2' p3=>?_⟩
  have g1:Tm.cellsSigned (l.map mkOf) 1=Tm.cellsOfPiece l .hunter:=Tm.signed_got .hunter l
  have g2:Tm.cellsSigned (l.map mkOf) 2=Tm.cellsOfPiece l .man:=Tm.signed_got .man l
  have g3:Tm.cellsSigned (l.map mkOf) 3=Tm.cellsOfPiece l .king:=Tm.signed_got .king l
  rw[g1]at p1
  rw[g2]at p2
  rw[g3]at p3
  have ek:=Tm.king_one BA.one BA.nd p3
  have bn:=Tm.bad_none hall
  have ok:=Tm.readLine_ok rd nn bn
  obtain⟨q1,q2⟩:=Tm.read_is (r:=R) h13 sd1 np BA.nd bn p1 s1' p2 s2'
  rw[ek]at PA
  exact k1 _ p H4 ok ⟨hs',mn,PA,q1,q2⟩ (B0.trans b4)
theorem lexLt_nats:∀a b:List Nat,HT.lexLt (Tm.ofNats a) (Tm.ofNats b)=Tm.ltL a b
 | [],[]=>rfl
 | [],_::_=>rfl
 | _::_,[]=>rfl
 | x::a,y::b=>by
  show HT.lexLt ((x:Int)::Tm.ofNats a) ((y:Int)::Tm.ofNats b)=(decide (x<y)||(decide (x=y)&&Tm.ltL a b))
  rw[HT.lexLt_cons,lexLt_nats a b]
  by_cases e:x=y
  ·subst e
   rw[if_pos rfl,decide_eq_false (Nat.lt_irrefl x),decide_eq_true (rfl:x=x)]
   simp
  ·rw[if_neg (by omega),decide_eq_false e,Bool.false_and,Bool.or_false]
   by_cases q:x<y
   ·rw[decide_eq_true q,decide_eq_true (by omega)]
   ·rw[decide_eq_false q,decide_eq_false (by omega)]
theorem ltL_self:∀a:List Nat,Tm.ltL a a=false
 | []=>rfl
 | x::a=>by
  show (decide (x<x)||(decide (x=x)&&Tm.ltL a a))=false
  rw[ltL_self a,decide_eq_false (Nat.lt_irrefl x)]
  simp
theorem ofNats_inj {a b:List Nat}:Tm.ofNats a=Tm.ofNats b↔a=b:=by
 constructor
 ·intro h
  unfold Tm.ofNats at h
  exact List.map_inj_right (λx y z=>by omega) |>.mp h
 ·rintro rfl;rfl
theorem lexB_rank (hs ms hs' ms':List Nat) (k d k' d':Nat) :
  lexB [(decide (Tm.ofNats hs=Tm.ofNats hs'),HT.lexLt (Tm.ofNats hs) (Tm.ofNats hs')),(decide (Tm.ofNats ms=Tm.ofNats ms'),HT.lexLt (Tm.ofNats ms) (Tm.ofNats ms')),(((k:Int) == (k':Int)),decide ((k:Int)<(k':Int))),(((d:Int) == (d':Int)),decide ((d:Int)<(d':Int)))]
   = Tm.ltR (hs,ms,k,d) (hs',ms',k',d'):=by
 unfold Tm.ltR
 simp only[lexB,lexLt_nats,decide_eq_true_eq,ofNats_inj,beq_iff_eq]
 by_cases e1:hs=hs'
 ·subst e1
  rw[if_pos rfl,ltL_self]
  by_cases e2:ms=ms'
  ·subst e2
   rw[if_pos rfl,ltL_self]
   by_cases e3:k=k'
   ·subst e3
    rw[if_pos rfl]
    by_cases e4:d=d'
    ·subst e4;simp
    ·rw[if_neg (by omega)]
     by_cases q:d<d'
     ·simp[q]
     ·simp[q]
   ·rw[if_neg (by omega)]
    by_cases q:k<k'
    ·simp[q]
    ·simp[q,e3]
  ·rw[if_neg e2]
   simp[e2]
 ·rw[if_neg e1]
  simp[e1]
def rLtR:R2:=λx y H Q=>∃(a b:Addr) (hs ms hs' ms':List Nat) (k d k' d':Nat),x=.ref a/\y=.ref b/\RankAt H a hs ms k d/\RankAt H b hs' ms' k' d'/\Q (.bl (Tm.ltR (hs,ms,k,d) (hs',ms',k',d'))) H
theorem op_ltR {X:Cx}(hu:X.A.units+65<cLine):OpR X (compareOp .Lt) rLtR:=by
 intro pins s σ H x y v u Q I rx ry h
 obtain⟨a,b,hs,ms,hs',ms',k,d,k',d',rfl,rfl,⟨lh,lm,ha,nh,nm⟩,⟨lh',lm',hb,nh',nm'⟩,q⟩:=h
 cases rx
 cases ry
 obtain⟨its,r1,p1,_⟩:=I.tuple (SqT.of ha)
 obtain⟨its2,r2,p2,_⟩:=I.tuple (SqT.of hb)
 obtain⟨i1,v1,pl1,_⟩:=I.list (SqL.of nh)
 obtain⟨i2,v2,pl2,_⟩:=I.list (SqL.of nm)
 obtain⟨j1,w1,ql1,_⟩:=I.list (SqL.of nh')
 obtain⟨j2,w2,ql2,_⟩:=I.list (SqL.of nm')
 have hu1:X.A.in1.units+64<cLine:=by show X.A.units+1+64<_;omega
 have hu2:X.A.in1.units<cLine:=by omega
 cases r1 with
 | cons a1 r1=>cases r1 with
  | cons a2 r1=>cases r1 with
   | cons a3 r1=>cases r1 with
    | cons a4 r1=>cases r1 with
     | nil=>cases r2 with
      | cons b1 r2=>cases r2 with
       | cons b2 r2=>cases r2 with
        | cons b3 r2=>cases r2 with
         | cons b4 r2=>cases r2 with
          | nil =>
           cases a1;cases a2;cases b1;cases b2
           obtain⟨t3,rfl⟩:=a3
           obtain⟨t4,rfl⟩:=a4
           obtain⟨u3,rfl⟩:=b3
           obtain⟨u4,rfl⟩:=b4
           refine lt_tup p1 p2 (ps:=[(decide (Tm.ofNats hs=Tm.ofNats hs'),HT.lexLt (Tm.ofNats hs) (Tm.ofNats hs')),(decide (Tm.ofNats ms=Tm.ofNats ms'),HT.lexLt (Tm.ofNats ms) (Tm.ofNats ms')),(((k:Int) == (k':Int)),decide ((k:Int)<(k':Int))),(((d:Int) == (d':Int)),decide ((d:Int)<(d':Int)))])
            (.cons ⟨PySem.W.keq_ints pl1.isList (intsAre_of v1) ql1.isList (intsAre_of w1) hu1,rcLt_lists pl1.isList ql1.isList (intsAre_of v1) (intsAre_of w1) hu2⟩
            (.cons ⟨PySem.W.keq_ints pl2.isList (intsAre_of v2) ql2.isList (intsAre_of w2) hu1,rcLt_lists pl2.isList ql2.isList (intsAre_of v2) (intsAre_of w2) hu2⟩
            (.cons ⟨SeqAt.EqAt.int_int _ _ _ _,λprog w E Q h=>HT.rcLt_int _ _ _ _ _ _ prog w E Q h⟩
            (.cons ⟨SeqAt.EqAt.int_int _ _ _ _,λprog w E Q h=>HT.rcLt_int _ _ _ _ _ _ prog w E Q h⟩ .nil)))) (by omega) ⟨.bl (Tm.ltR (hs,ms,k,d) (hs',ms',k',d')),H,I,?_,q⟩
           rw[lexB_rank]
           rfl
def rEqR:R2:=λx y H Q=>∃(a b:Addr) (hs ms hs' ms':List Nat) (k d k' d':Nat),x=.ref a/\y=.ref b/\RankAt H a hs ms k d/\RankAt H b hs' ms' k' d'/\Q (.bl (decide ((hs,ms,k,d)=(hs',ms',k',d')))) H
def rkData (hs ms:List Nat) (k d:Nat):PyData:=.tuple [.list ((Tm.ofNats hs).map PyData.int),.list ((Tm.ofNats ms).map PyData.int),.int (k:Int),.int (d:Int)]
theorem dp_ints {K:PySem.W.Frag}{H:Hp}:∀ns:List Int,DpAll K H (ns.map V.int) (ns.map PyData.int)
 | []=>.nil
 | n::r=>.cons (.int n) (dp_ints r)
theorem rk_dp {K:PySem.W.Frag}{H:Hp}{a:Addr}{hs ms:List Nat}{k d:Nat}(h:RankAt H a hs ms k d):Dp K H (.ref a) (rkData hs ms k d):=by
 obtain⟨lh,lm,ha,nh,nm⟩:=h
 exact .tup (SqT.of ha) (.cons (.lst (SqL.of nh) (dp_ints _)) (.cons (.lst (SqL.of nm) (dp_ints _)) (.cons (.int _) (.cons (.int _) .nil))))
theorem rk_shaped (hs ms:List Nat) (k d:Nat):SeqAt.shaped (rkData hs ms k d)=true:=by
 have h1:=PySem.W.ke_canLayAll0 (Tm.ofNats hs)
 have h2:=PySem.W.ke_canLayAll0 (Tm.ofNats ms)
 have h3:=PySem.W.ke_depthAll (Tm.ofNats hs)
 have h4:=PySem.W.ke_depthAll (Tm.ofNats ms)
 simp[SeqAt.shaped,rkData,PyData.canLay0,PyData.canLayAll0,PyData.depth,PyData.depthAll,h1,h2,h3,h4]
theorem rk_eqv (hs ms hs' ms':List Nat) (k d k' d':Nat):PyData.eqv (rkData hs ms k d) (rkData hs' ms' k' d')=decide ((hs,ms,k,d)=(hs',ms',k',d')):=by
 unfold rkData
 simp only[PyData.eqv,PyData.eqvAll,PySem.W.ked_eqvAll,ofNats_inj,Bool.and_true]
 rw[Bool.eq_iff_iff]
 simp[Prod.ext_iff]
 intro _ _
 constructor
 ·rintro⟨a,b⟩;exact⟨by omega,by omega⟩
 ·rintro⟨a,b⟩;exact⟨by omega,by omega⟩
theorem op_eqR {X:Cx}(hu:X.A.units+64<cLine):OpR X (compareOp .Eq) rEqR:=by
 intro pins s σ H x y v u Q I rx ry h
 obtain⟨a,b,hs,ms,hs',ms',k,d,k',d',rfl,rfl,ha,hb,q⟩:=h
 refine op_eqD hu pins s σ H _ _ v u Q I rx ry ⟨rkData hs ms k d,rkData hs' ms' k' d',rk_dp ha,rk_dp hb,rk_shaped ..,rk_shaped ..,?_⟩
 rw[rk_eqv]
 exact q
theorem cells_in {R:Tafl.Rules}{hs ms:List Nat}{k s:Nat}(rt:Tm.rightN R hs ms k s):(∀c∈hs++ms,c % 13<R.wide/\c / 13<R.high)/\(k≠255->k % 13<R.wide/\k / 13<R.high):=by
 have q:=Tm.all_pieceCells.mp rt.2.1
 have g:∀ {c n:Nat},Tm.mayStandN (Tm.kindN R c) n=true->c % 13<R.wide/\c / 13<R.high:=λh=>Tm.isCell_iff.mp (Tm.kindN_isCell (Tm.mayStandN_cell h))
 refine⟨λc hc=>?_,λz=>g (q.2.2 z)⟩
 rcases List.mem_append.mp hc with h | h
 ·exact g (q.1 c h)
 ·exact g (q.2.1 c h)
theorem small400 {n:Nat}(h:n<=400):n+1<sizeLine:=Nat.lt_of_le_of_lt (Nat.add_le_add_right h 1) (by decide)
theorem turned_use {t:Adr}{H:Hp}{Q:VK}{E:XK}{ru p:Addr}{d:RD}{R:Tafl.Rules}{pos:Tafl.Pos}{tn:Nat}(hR:RAt t H ru d) (hS:Says d R) (g:PosGood t H p R pos) (hf:R.fits tn=true)
  (k:∀H' p',Bar [] H H'->PosGood t H' p' R (R.turnPos tn pos)->Q (.ref p') H'):sp_turned t [.ref ru,.ref p,.int (tn:Int)] H Q E:=by
 obtain⟨hs,ms,hP,PI,rt⟩:=g.ex
 have w13:R.wide<=13:=by rw[<-hS.wide];exact hR.good.w.2
 have h13:R.high<=13:=by rw[<-hS.high];exact hR.good.h.2
 have l:=Tm.pos_len PI
 obtain⟨c1,c2⟩:=cells_in rt
 rw[<-hS.wide,<-hS.high]at c1 c2
 refine⟨ru,p,d,hs,ms,pos.king,pos.side,tn,rfl,hR,hP,Nat.lt_of_succ_lt (small400 (by omega)),c1,c2,λH' p' hs' ms' b P' p1 s1 p2 s2=>?_⟩
 rw[hS.wide,hS.high]at P' p1 p2
 obtain⟨q1,q2⟩:=Tm.turn_is w13 h13 hf PI rt p1 s1 p2 s2
 exact k H' p' b ⟨hs',ms',P',q1,q2⟩
theorem rank_use {t:Adr}{H:Hp}{Q:VK}{E:XK}{p:Addr}{R:Tafl.Rules}{pos:Tafl.Pos}(g:PosGood t H p R pos)
  (k:∀H' a hs ms,Bar [] H H'->RankAt H' a hs ms pos.king pos.side->Tm.RankIs pos hs ms->Q (.ref a) H'):sp_rank t [.ref p] H Q E:=by
 obtain⟨hs,ms,hP,PI,rt⟩:=g.ex
 exact⟨p,hs,ms,pos.king,pos.side,rfl,hP,λH' a hs' ms' b ra p1 s1 p2 s2=>k H' a hs' ms' b ra (Tm.RankIs.of PI p1 s1 p2 s2)⟩
theorem ofNats_at {ns:List Nat}{i:Nat}{x:V}(h:((Tm.ofNats ns).map V.int)[i]?=some x):∃n,ns[i]?=some n/\x=.int (n:Int):=by
 unfold Tm.ofNats at h
 rw[List.getElem?_map,List.getElem?_map]at h
 cases e:ns[i]? with
 | none=>rw[e]at h;cases h
 | some n=>rw[e]at h;exact⟨n,rfl,(Option.some.inj h).symm⟩
def sp_least_turn (t:Adr):Sp:=λvs H Q _=>∃(ru p:Addr) (d:RD) (R:Tafl.Rules) (pos:Tafl.Pos),vs=[.ref ru,.ref p]/\RFull t H ru d/\Says d R/\PosGood t H p R pos/\∀H',Bar [] H H'->Q (.int ((R.least pos).1:Int)) H'
theorem sc_least_turn:qqb ["rules","position","best","best_rank","turn","turned_rank"] ["rules","position"] (dSc s_least_turn):=by walk_at "sc9"
def bestOf (R:Tafl.Rules) (pos:Tafl.Pos) (i:Nat):Nat×Tafl.Pos:=(R.turns.take i).foldl (Tm.leastStep R pos) (0,pos)
structure IvLT (H0:Hp) (ru p:Addr) (R:Tafl.Rules) (pos:Tafl.Pos) (i:Nat) (σ:St) (H:Hp):Prop where
 ex:∃(rk:Addr) (hs ms:List Nat) (a b:Option V),σ=[some (.ref ru),some (.ref p),some (.int ((bestOf R pos i).1:Int)),some (.ref rk),a,b]/\RankAt H rk hs ms (bestOf R pos i).2.king (bestOf R pos i).2.side/\Tm.RankIs (bestOf R pos i).2 hs ms
 bar:Bar [] H0 H
theorem ok_least_turn (T:Txt K mg t):FnOk P w K mg base (CX1 P w) 5 t.f_least_turn t.d_least_turn ["rules","position"] (sp_least_turn t):=by
 refine T.least_turn.F.okX sc_least_turn (λvs H Q E h=>?_) (λcdv A outer s H vs Q E hr h=>?_)
 ·obtain⟨ru,p,d,R,pos,rfl,_⟩:=h;rfl
 obtain⟨ru,p,d,R,pos,rfl,hR,hS,hP,k⟩:=h
 have nd:=sc_least_turn.nd
 have hr2:Room 2 _:=hr.mono (by decide)
 have hu:(A.deeper (envOfC "least_turn" (dSc s_least_turn) s.heap.objs.size t.f_least_turn cdv)).units+65<cLine:=by have:=hr.un;omega
 refine⟨_,psc (qqd (i:=2) nd rfl (Or.inl rfl) pei)
  (psc (qqd (i:=3) nd rfl (Or.inl rfl) (eC T.rank (ok_rank T) hr2 (pac (pv 1) pan)))
  (psc (ps_for owns_fn rfl (pi_list (eC T.fitting_turns (ok_fitting_turns T) hr (pac (pv 0) pan))) (pg_name (i:=4) nd rfl (Or.inl rfl))
   (psc (qqd (i:=5) nd rfl (Or.inl rfl) (eC T.rank (ok_rank T) hr2 (pac (eC T.turned (ok_turned T) hr (pac (pv 0) (pac (pv 1) (pac (pv 4) pan)))) pan)))
   (pso (ps_if (qqh (op_ltR hu) (pv 5) (pv 3) (qqg _)) (psc (qqd (i:=2) nd rfl (Or.inl rfl) (pv 4)) (pso (qqd (i:=3) nd rfl (Or.inl rfl) (pv 5)))) qqi))))
  (pso (qqe (pv 2))))),?_⟩
 walk_at "rd"
 refine rank_use hP λH1 rk hs ms b1 RA RI=>?_
 refine⟨_,rfl,ru,d,R,rfl,hR.same b1,hS,λH2 l b2 hl=>?_⟩
 refine⟨l,rfl,⟨_,SqL.of hl⟩,for_list (K:=K) (a:=l) (xs:=(Tm.ofNats R.turns).map V.int) (IvLT H2 ru p R pos) ?_ (λi σ H' _ I=>SqL.of (hl.same I.bar)) ?_ ?_⟩
 ·exact⟨⟨rk,hs,ms,none,none,rfl,RA.same b2,RI⟩,.refl _ _⟩
 ·rintro i y σ H' hi ⟨⟨rk',hs',ms',a,b,rfl,RA',RI'⟩,br⟩
  obtain⟨tn,ht,rfl⟩:=ofNats_at hi
  have B:=b1.trans (b2.trans br)
  have mem:tn∈R.turns:=List.mem_of_getElem? ht
  walk_at "rd"
  refine turned_use (hR.same B).at_ hS (hP.same B) (Tm.turns_fit mem) λH3 p' b3 P3=>?_
  refine rank_use P3 λH4 rk4 hs4 ms4 b4 RA4 RI4=>?_
  have step:bestOf R pos (i+1)=Tm.leastStep R pos (bestOf R pos i) tn:=by
   unfold bestOf
   rw[take_snoc' ht,List.foldl_append]
   rfl
  have br4:=br.trans (b3.trans b4)
  refine⟨rk4,rk',hs4,ms4,hs',ms',_,_,_,_,rfl,rfl,RA4,(RA'.same b3).same b4,?_⟩
  rw[<-Tm.before_rank RI4 RI']
  refine⟨_,rfl,?_⟩
  cases e:(R.turnPos tn pos).before (bestOf R pos i).2 with
  | true =>
   rw[if_pos rfl]
   have e2:bestOf R pos (i+1)=(tn,R.turnPos tn pos):=by rw[step];unfold Tm.leastStep;rw[if_pos e]
   refine⟨⟨rk4,hs4,ms4,some (.int (tn:Int)),some (.ref rk4),?_,?_,?_⟩,br4⟩
   ·rw[e2]
   ·rw[e2];exact RA4
   ·rw[e2];exact RI4
  | false =>
   rw[if_neg (by decide)]
   have e2:bestOf R pos (i+1)=bestOf R pos i:=by rw[step];unfold Tm.leastStep;rw[if_neg (by rw[e];decide)]
   refine⟨⟨rk',hs',ms',some (.int (tn:Int)),some (.ref rk4),?_,?_,?_⟩,br4⟩
   ·rw[e2]
   ·rw[e2];exact (RA'.same b3).same b4
   ·rw[e2];exact RI'
 ·rintro σ H' ⟨⟨rk',hs',ms',a,b,rfl,RA',RI'⟩,br⟩
  rw[List.length_map,Tm.ofNats_length]
  have e:bestOf R pos R.turns.length=R.least pos:=by unfold bestOf;rw[List.take_length];rfl
  rw[e]
  exact⟨_,rfl,k H' (b1.trans (b2.trans br))⟩
def sp_are_alike (t:Adr):Sp:=λvs H Q _=>∃(ru p o:Addr) (d:RD) (R:Tafl.Rules) (pos q:Tafl.Pos),vs=[.ref ru,.ref p,.ref o]/\RFull t H ru d/\Says d R/\PosGood t H p R pos/\PosGood t H o R q/\∀H',Bar [] H H'->Q (.bl (R.alike pos q)) H'
theorem sc_are_alike:qqb ["rules","position","other","other_rank","turn"] ["rules","position","other"] (dSc s_are_alike):=by walk_at "sc9"
structure IvAL (H0:Hp) (ru p o rk:Addr) (hs ms:List Nat) (R:Tafl.Rules) (pos q:Tafl.Pos) (i:Nat) (σ:St) (H:Hp):Prop where
 st:∃a,σ=[some (.ref ru),some (.ref p),some (.ref o),some (.ref rk),a]
 no:∀tn∈R.turns.take i,R.turnPos tn pos≠q
 bar:Bar [] H0 H
theorem ok_are_alike (T:Txt K mg t):FnOk P w K mg base (CX1 P w) 5 t.f_are_alike t.d_are_alike ["rules","position","other"] (sp_are_alike t):=by
 refine T.are_alike.F.okX sc_are_alike (λvs H Q E h=>?_) (λcdv A outer s H vs Q E hr h=>?_)
 ·obtain⟨ru,p,o,d,R,pos,q,rfl,_⟩:=h;rfl
 obtain⟨ru,p,o,d,R,pos,q,rfl,hR,hS,hP,hO,k⟩:=h
 have nd:=sc_are_alike.nd
 have hr2:Room 2 _:=hr.mono (by decide)
 have hu:(A.deeper (envOfC "are_alike" (dSc s_are_alike) s.heap.objs.size t.f_are_alike cdv)).units+64<cLine:=by have:=hr.un;omega
 refine⟨_,psc (qqd (i:=3) nd rfl (Or.inl rfl) (eC T.rank (ok_rank T) hr2 (pac (pv 2) pan)))
  (psc (ps_for owns_fn rfl (pi_list (eC T.fitting_turns (ok_fitting_turns T) hr (pac (pv 0) pan))) (pg_name (i:=4) nd rfl (Or.inl rfl))
   (pso (ps_if (qqh (op_eqR hu) (eC T.rank (ok_rank T) hr2 (pac (eC T.turned (ok_turned T) hr (pac (pv 0) (pac (pv 1) (pac (pv 4) pan)))) pan)) (pv 3) (qqg _)) (pso (qqe pe_bl)) qqi)))
  (pso (qqe pe_bl))),?_⟩
 walk_at "rd"
 refine rank_use hO λH1 rk hs ms b1 RA RI=>?_
 refine⟨_,rfl,ru,d,R,rfl,hR.same b1,hS,λH2 l b2 hl=>?_⟩
 refine⟨l,rfl,⟨_,SqL.of hl⟩,for_list (K:=K) (a:=l) (xs:=(Tm.ofNats R.turns).map V.int) (IvAL H2 ru p o rk hs ms R pos q) ⟨⟨none,rfl⟩,λtn h=>by simp at h,.refl _ _⟩ (λi σ H' _ I=>SqL.of (hl.same I.bar)) ?_ ?_⟩
 ·rintro i y σ H' hi ⟨⟨a,rfl⟩,no,br⟩
  obtain⟨tn,ht,rfl⟩:=ofNats_at hi
  have B:=b1.trans (b2.trans br)
  have mem:tn∈R.turns:=List.mem_of_getElem? ht
  walk_at "rd"
  refine turned_use (hR.same B).at_ hS (hP.same B) (Tm.turns_fit mem) λH3 p' b3 P3=>?_
  refine rank_use P3 λH4 rk4 hs4 ms4 b4 RA4 RI4=>?_
  have br4:=br.trans (b3.trans b4)
  refine⟨rk4,rk,hs4,ms4,hs,ms,_,_,_,_,rfl,rfl,RA4,RA.same (b2.trans br4),?_⟩
  refine⟨_,rfl,?_⟩
  have sr:=Tm.same_rank RI4 RI
  by_cases e:R.turnPos tn pos=q
  ·rw[decide_eq_true (sr.mp e),if_pos rfl]
   have e2:R.alike pos q=true:=by
    unfold Tafl.Rules.alike
    rw[List.any_eq_true]
    exact⟨tn,mem,by rw[beq_iff_eq];exact e⟩
   have:=k H4 (B.trans (b3.trans b4))
   rw[e2]at this
   exact this
  ·rw[decide_eq_false (λz=>e (sr.mpr z)),if_neg (by decide)]
   refine⟨⟨_,rfl⟩,λtn' h=>?_,br4⟩
   rw[take_snoc' ht,List.mem_append,List.mem_singleton]at h
   rcases h with h | h
   ·exact no tn' h
   ·rw[h];exact e
 ·rintro σ H' ⟨⟨a,rfl⟩,no,br⟩
  rw[List.length_map,Tm.ofNats_length,List.take_length]at no
  have e:R.alike pos q=false:=by
   unfold Tafl.Rules.alike
   rw[List.any_eq_false]
   intro tn h
   simpa using no tn h
  have:=k H' (b1.trans (b2.trans br))
  rw[e]at this
  exact this
theorem drop_head {l:List Int}{n:Nat}{z:Int}{r:List Int}(h:l.drop n=z::r):l[n]?=some z/\l.drop (n+1)=r/\n<l.length:=by
 refine⟨?_,?_,?_⟩
 ·have:=congrArg (λq:List Int=>q[0]?) h
  simpa using this
 ·rw[<-List.drop_drop,h];rfl
 ·have:=congrArg List.length h
  rw[List.length_drop,List.length_cons]at this
  omega
theorem rowsNums_cons (r:List Int) (rs:List (List Int)):Tm.rowsNums (r::rs)=(r.length:Int)::(r++Tm.rowsNums rs):=by
 unfold Tm.rowsNums
 rw[List.flatMap_cons,List.cons_append]
theorem rows_from (l:List Int):∀(rows:List (List Int)) (n:Nat) (t:List Int),l.drop n=Tm.rowsNums rows++t->RowsFrom l n rows (n+(Tm.rowsNums rows).length)
 | [],n,t,h=>.nil n
 | r::rs,n,t,h=>by
  rw[rowsNums_cons,List.cons_append,List.append_assoc]at h
  obtain⟨h1,h2,h3⟩:=drop_head h
  have h4:l.drop (n+1+r.length)=Tm.rowsNums rs++t:=by rw[<-List.drop_drop,h2,List.drop_left]
  have ih:=rows_from l rs (n+1+r.length) t h4
  have e:n+1+r.length+(Tm.rowsNums rs).length=n+(Tm.rowsNums (r::rs)).length:=by rw[rowsNums_cons,List.length_cons,List.length_append];omega
  rw[e]at ih
  have h5:=congrArg List.length h2
  rw[List.length_drop,List.length_append]at h5
  exact .cons h1 (by rw[h2,List.take_left]) (by omega) ih
theorem call_at {l:List Int}{n:Nat}{x:TaflPlaces.Call}{t:List Int}(h:l.drop n=Tm.callNums x++t) :
  l[n]?=some (Tm.callNo x:Int)/\(l.drop (n+1)).take (Tm.callInts x).length=Tm.callInts x/\n+1+(Tm.callInts x).length<=l.length/\RowsFrom l (n+1+(Tm.callInts x).length) (Tm.callRows x) (n+(Tm.callNums x).length):=by
 have e:=Tm.callNums_eq x
 rw[e,List.cons_append,List.append_assoc]at h
 obtain⟨h1,h2,h3⟩:=drop_head h
 have h4:l.drop (n+1+(Tm.callInts x).length)=Tm.rowsNums (Tm.callRows x)++t:=by rw[<-List.drop_drop,h2,List.drop_left]
 have h5:=congrArg List.length h2
 rw[List.length_drop,List.length_append]at h5
 have r:=rows_from l _ _ t h4
 have e2:n+1+(Tm.callInts x).length+(Tm.rowsNums (Tm.callRows x)).length=n+(Tm.callNums x).length:=by rw[e,List.length_cons,List.length_append];omega
 rw[e2]at r
 exact⟨h1,by rw[h2,List.take_left],by omega,r⟩
def IntsAt (H:Hp) (l:Addr) (zs:List Int):Prop:=H l=some (.lst (zs.map V.int))
structure Gives (t:Adr) (H:Hp) (Q:VK) (E:XK) (x:Except (Nat×Nat) Tafl.Answer):Prop where
 ok:∀a H' l,x=.ok a->Bar [] H H'->IntsAt H' l a.nums->Q (.ref l) H'
 er:∀k p dx H',x=.error (k,p)->Bar [] H H'->FaultAt H' dx k p->E (.ref t.C_LineFault) (some dx) H'
def HallAt (t:Adr) (H:Hp) (p:Addr) (s:TaflPlaces.State):Prop:=∃dx v,H p=some (.ins t.C_Hall dx [("rules",v)])/\(s=none/\v=.non\/∃R ru d,s=some R/\v=.ref ru/\RFull t H ru d/\Says d R/\Tm.NoFault R)
theorem nums_len {n:Nat}(h:n<=700):n<=sizeLine:=Nat.le_trans h (by decide)
theorem tail_line {t:Adr}{H:Hp}{Q:VK}{E1 E2:XK}{ru pp p:Addr}{d:RD}{R:Tafl.Rules}{pos:Tafl.Pos}{zs:List Int}(hR:RAt t H ru d) (hS:Says d R) (g:PosGood t H pp R pos) (hp:IntsAt H p zs) (hz:zs.length<=2)
  (k:∀H' l,Bar [] H H'->IntsAt H' l (zs++(((R.line pos).length:Int)::Tm.ofBytes (R.line pos)))->Q (.ref l) H') :
  sp_line_of t [.ref ru,.ref pp] H (λx H2=>sp_with_length t [x] H2 (λy H3=>rCat (.ref p) y H3 Q) E1) E2:=by
 obtain⟨hs,ms,hP,PI,rt⟩:=g.ex
 have w13:R.wide<=13:=by rw[<-hS.wide];exact hR.good.w.2
 have h13:R.high<=13:=by rw[<-hS.high];exact hR.good.h.2
 have ll:=Tm.line_len (r:=R) pos w13 h13
 have l:=Tm.pos_len PI
 refine⟨ru,pp,d,R,pos,hs,ms,rfl,hR,hS,hP,PI,rt,small400 (by omega),λH2 a b2 ha=>?_⟩
 refine⟨a,Tm.ofBytes (R.line pos),rfl,ha,nums_len (by rw[Tm.ofBytes_length];omega),λH3 y b3 hy=>?_⟩
 rw[Tm.ofBytes_length]at hy
 refine⟨p,y,_,_,rfl,rfl,b3.same (b2.same hp),hy,nums_len ?_,λq hq=>k _ q (b2.trans (b3.trans (.new hq))) ?_⟩
 ·rw[List.length_map,List.length_map,List.length_cons,Tm.ofBytes_length];omega
 ·show upd H3 q _ q=_
  rw[ups,List.map_append]
theorem HallAt.same {t:Adr}{H H':Hp}{p:Addr}{s:TaflPlaces.State}(h:HallAt t H p s) (b:Bar [] H H'):HallAt t H' p s:=by
 obtain⟨dx,v,h1,h2⟩:=h
 refine⟨dx,v,b.same h1,?_⟩
 rcases h2 with z | ⟨R,ru,d,e1,e2,r,hS,hN⟩
 ·exact .inl z
 ·exact .inr ⟨R,ru,d,e1,e2,r.same b,hS,hN⟩
theorem flat_ints:∀ns:List Int,(ns.map V.int).all flatV=true
 | []=>rfl
 | _::r=>by rw[List.map_cons,List.all_cons,flat_ints r];rfl
theorem inV_ints (n:Nat):∀ns:List Nat,inV (.int (n:Int)) ((Tm.ofNats ns).map V.int)=decide (n∈ns)
 | []=>rfl
 | m::r=>by
  have ih:=inV_ints n r
  unfold inV at ih ⊢
  show (eqV (.int (m:Int)) (.int (n:Int))||((Tm.ofNats r).map V.int).any λy=>eqV y (.int (n:Int)))=_
  rw[ih]
  have e:eqV (.int (m:Int)) (.int (n:Int))=decide (n=m):=by
   show ((m:Int) == (n:Int))=_
   rw[Bool.eq_iff_iff,beq_iff_eq,decide_eq_true_eq]
   omega
  rw[e,Bool.eq_iff_iff,Bool.or_eq_true,decide_eq_true_eq,decide_eq_true_eq,decide_eq_true_eq,List.mem_cons]
theorem RFull.barI {t:Adr}{H H':Hp}{ru p dx C:Addr}{d:RD}{fs:List (Str×V)}(r:RFull t H ru d) (b:Bar [p] H H') (hp:H p=some (.ins C dx fs)) (w:fs.lookup ("wide":Str)=none) (c:fs.lookup ("cell":Str)=none):RFull t H' ru d:=by
 obtain⟨dr,gs,lg,ls,dk,h1,F,h3,h4,h5⟩:=r.ex
 have nl:∀ {l ms},MarksAt t H l ms->l≠p:=λ{l ms} ⟨as,q,_⟩=>ne_of q hp (by intro z;cases z)
 have nm:∀ {a m},MarkAt t H a m->a≠p:=λ{a m} ⟨da,q⟩=>ne_of q hp λz=>by
  have e:=(HO.ins.inj z).2.2
  rw[<-e,mkF_cell]at c
  cases c
 have nr:ru≠p:=ne_of h1 hp λz=>by
  have e:=(HO.ins.inj z).2.2
  rw[<-e,F.wide]at w
  cases w
 exact⟨r.good,dr,gs,lg,ls,dk,b _ _ h1 (by simpa using nr),F,h3.bar b (by simpa using nl h3) λa m q=>by simpa using nm q,h4.bar b (by simpa using nl h4) λa m q=>by simpa using nm q,b _ _ h5 (by simpa using ne_of h5 hp (by intro z;cases z))⟩
theorem RFull.barL {t:Adr}{H H':Hp}{ru p:Addr}{d:RD}{zs:List Int}(r:RFull t H ru d) (b:Bar [p] H H') (hp:H p=some (.lst (zs.map V.int))) (g:d.gm≠[]) (s:d.sm≠[]):RFull t H' ru d:=by
 obtain⟨dr,gs,lg,ls,dk,h1,F,h3,h4,h5⟩:=r.ex
 have nl:∀ {l ms},ms≠[]->MarksAt t H l ms->l≠p:=λ{l ms} ne ⟨as,q,pa⟩=>ne_of q hp λz=>by
  have e:=HO.lst.inj z
  cases pa with
  | nil=>exact ne rfl
  | cons _ _ =>
   cases zs with
   | nil=>cases e
   | cons _ _=>cases e
 have nm:∀ {a m},MarkAt t H a m->a≠p:=λ{a m} ⟨da,q⟩=>ne_of q hp (by intro z;cases z)
 exact⟨r.good,dr,gs,lg,ls,dk,b _ _ h1 (by simpa using ne_of h1 hp (by intro z;cases z)),F,h3.bar b (by simpa using nl g h3) λa m q=>by simpa using nm q,h4.bar b (by simpa using nl s h4) λa m q=>by simpa using nm q,b _ _ h5 (by simpa using ne_of h5 hp (by intro z;cases z))⟩
def sp_answer_begin (t:Adr):Sp:=λvs H Q E=>∃(ru:Addr) (d:RD) (R:Tafl.Rules),vs=[.ref ru]/\RFull t H ru d/\Says d R/\Tm.NoFault R/\Gives t H Q E (Tm.byRules R .begin_)
theorem sc_answer_begin:qqb ["rules"] ["rules"] (dSc s_answer_begin):=by walk_at "sc9"
theorem ok_answer_begin (T:Txt K mg t):FnOk P w K mg base (CX1 P w) 5 t.f_answer_begin t.d_answer_begin ["rules"] (sp_answer_begin t):=by
 refine T.answer_begin.F.okX sc_answer_begin (λvs H Q E h=>?_) (λcdv A outer s H vs Q E hr h=>?_)
 ·obtain⟨ru,d,R,rfl,_⟩:=h;rfl
 obtain⟨ru,d,R,rfl,hR,hS,hN,G⟩:=h
 have hr3:Room 3 _:=hr.mono (by decide)
 have hr1:Room 1 _:=hr.mono (by decide)
 refine⟨_,pso (qqe (pe_op op_cat (pe_lst (pac pei pan)) (eC T.with_length (ok_with_length T) hr1 (pac (eC T.line_of (ok_line_of T) hr3 (pac (pv 0) (pac (eC T.start_of (ok_start_of T) hr (pac (pv 0) pan)) pan))) pan)))),?_⟩
 walk_at "rd"
 refine⟨by decide,λp hp=>?_⟩
 have b1:Bar [] H (upd H p (.lst [.int 0])):=.new hp
 have R1:=hR.same b1
 have w13:R.wide<=13:=by rw[<-hS.wide];exact hR.good.w.2
 have h13:R.high<=13:=by rw[<-hS.high];exact hR.good.h.2
 refine⟨ru,d,rfl,R1.at_,λH2 pp hs mn ks b2 PA p1 s1 p2 s2 p3=>?_⟩
 rw[hS.sm]at p1 p2 p3
 rw[hS.first]at PA
 have BI:=Tm.begin_is w13 h13 hS.f01 hN p1 s1 p2 s2
 obtain⟨kc,ek⟩:=hN.king
 obtain⟨e1,e2⟩:=Tm.begins_king ek
 rw[e2]at p3
 rw[List.perm_singleton.mp p3]at PA
 have PA':PosAt t H2 pp hs mn R.begins.king R.begins.side:=by rw[e1];exact PA
 refine tail_line (R1.same b2).at_ hS ⟨hs,mn,PA',BI.pos,BI.right⟩ (zs:=[0]) (b2.same ups) (by decide) λH3 l b3 hl=>?_
 refine G.ok _ H3 l rfl (b1.trans (b2.trans b3)) ?_
 rw[Tm.nums_line]
 exact hl
def sp_answer_rules (t:Adr):Sp:=λvs H Q _=>∃(ha tx:Addr) (s:TaflPlaces.State) (b:Tafl.Bytes),vs=[.ref ha,.ref tx]/\HallAt t H ha s/\TextAt H tx b /\
 ∀H' l,Bar [ha] H H'->HallAt t H' ha (TaflPlaces.step s (.rules b)).1->IntsAt H' l (TaflPlaces.step s (.rules b)).2.nums->Q (.ref l) H'
theorem sc_answer_rules:qqb ["hall","text","rules","fault"] ["hall","text"] (dSc s_answer_rules):=by walk_at "sc9"
theorem ok_answer_rules (T:Txt K mg t):FnOk P w K mg base (CX1 P w) 6 t.f_answer_rules t.d_answer_rules ["hall","text"] (sp_answer_rules t):=by
 refine T.answer_rules.F.okX sc_answer_rules (λvs H Q E h=>?_) (λcdv A outer s H vs Q E hr h=>?_)
 ·obtain⟨ha,tx,s,b,rfl,_⟩:=h;rfl
 obtain⟨ha,tx,st,b,rfl,hH,ht,k⟩:=h
 have nd:=sc_answer_rules.nd
 refine⟨_,psc (ps_tryA (i:=3) rfl rfl T.r_RulesFault.cls rfl T.m_RulesFault nd rfl rfl
   (λpins Rb=>pso (qqd (i:=2) nd rfl (Or.inl rfl) (eCR takes_try T.rules_of (ok_rules_of T) hr (pac (pv 1) pan))))
   (λe dx pn oe hp hc hd hn=>pso (qqe (pe_lst (pac (eK T.k_RULES_FAULT) (pac (pe_exfld hp hc hd hn T.r_RulesFault T.RulesFault.kind (pv 3) rfl) (pac (pe_exfld hp hc hd hn T.r_RulesFault T.p_RulesFault (pv 3) rfl) pan)))))))
  (psc (eS T.Hall.c T.n_Hall_rules (pv 0) (pv 2))
  (pso (qqe (pe_lst (pac pei pan))))),?_⟩
 walk_at "rd"
 refine⟨tx,b,rfl,ht,λR d ru H1 j1 nf hS b1 RF=>?_,λkd pl dx H1 j1 b1 fa=>?_⟩
 ·obtain⟨dh,v,hh,_⟩:=id hH
  have hh1:=b1.same hh
  refine⟨dh,_,hh1,(by show 1<1000;decide),by decide,λp hp=>?_⟩
  have b2:Bar [ha] H1 (upd H1 ha (.ins t.C_Hall dh [("rules",.ref ru)])):=.one
  have e:putF ("rules":Str) (V.ref ru) ([("rules",v)]:List (Str×V))=([("rules",V.ref ru)]:List (Str×V)):=rfl
  rw[e]at hp ⊢
  have b3:Bar [] (upd H1 ha (.ins t.C_Hall dh [("rules",.ref ru)])) (upd (upd H1 ha (.ins t.C_Hall dh [("rules",.ref ru)])) p (.lst [.int 0])):=.new hp
  have st:=Tm.step_rules_ok (s:=st) j1
  refine k _ p (b1.more.trans (b2.trans b3.more)) ?_ ?_
  ·rw[st]
   exact⟨dh,.ref ru,b3.same ups,.inr ⟨R,ru,d,rfl,rfl,(RF.barI b2 hh1 rfl rfl).same b3,hS,nf⟩⟩
  ·rw[st]
   exact ups
 ·refine⟨rfl,dx,rfl,λe=>?_⟩
  walk_at "rd"
  refine⟨_,fa,_,rfl,_,fa,_,rfl,by decide,λp hp=>?_⟩
  have b2:Bar [] H1 (upd H1 p (.lst [.int (-6),.int (kd:Int),.int (pl:Int)])):=.new hp
  have st':=Tm.step_rules_err (s:=st) j1
  refine k _ p (b1.trans b2).more ?_ ?_
  ·rw[st']
   exact hH.same (b1.trans b2)
  ·rw[st']
   exact ups
def sp_answer_read (t:Adr):Sp:=λvs H Q E=>∃(ru tx:Addr) (d:RD) (R:Tafl.Rules) (b:Tafl.Bytes),vs=[.ref ru,.ref tx]/\RFull t H ru d/\Says d R/\TextAt H tx b/\Gives t H Q E (Tm.byRules R (.read b))
theorem sc_answer_read:qqb ["rules","text","position"] ["rules","text"] (dSc s_answer_read):=by walk_at "sc9"
theorem ok_answer_read (T:Txt K mg t):FnOk P w K mg base (CX1 P w) 6 t.f_answer_read t.d_answer_read ["rules","text"] (sp_answer_read t):=by
 refine T.answer_read.F.okX sc_answer_read (λvs H Q E h=>?_) (λcdv A outer s H vs Q E hr h=>?_)
 ·obtain⟨ru,tx,d,R,b,rfl,_⟩:=h;rfl
 obtain⟨ru,tx,d,R,b,rfl,hR,hS,ht,G⟩:=h
 have nd:=sc_answer_read.nd
 have hr1:Room 1 _:=hr.mono (by decide)
 have c:=T.Position.c
 refine⟨_,psc (qqd (i:=2) nd rfl (Or.inl rfl) (eCR qqc T.read_line (ok_read_line T) hr (pac (pv 0) (pac (pv 1) pan))))
  (pso (qqe (pe_op op_cat (pe_op op_cat (pe_op op_cat (pe_lst (pac pei pan)) (eC T.with_length (ok_with_length T) hr1 (pac (eF c T.n_Position_hunters (pv 2)) pan))) (eC T.with_length (ok_with_length T) hr1 (pac (eF c T.n_Position_men (pv 2)) pan))) (pe_lst (pac (eF c T.n_Position_king (pv 2)) (pac (eF c T.n_Position_side (pv 2)) pan)))))),?_⟩
 walk_at "rd"
 refine⟨ru,tx,d,R,b,rfl,hR.at_,hS,ht,λpos p H1 e g b1=>?_,λkd pl dx H1 e b1 fa=>G.er kd pl dx H1 (by unfold Tm.byRules;dsimp only;rw[e]) b1 fa⟩
 obtain⟨hs,ms,hP,PI,rt⟩:=g.ex
 have ln:=Tm.pos_len PI
 refine⟨by decide,λq hq=>?_⟩
 have b2:Bar [] H1 (upd H1 q (.lst [.int 0])):=.new hq
 obtain⟨dx,lh,lm,hp,nh,nm⟩:=id (hP.same b2)
 refine⟨p,rfl,dx,_,hp,_,poF_hunters ..,lh,Tm.ofNats hs,rfl,nh,nums_len (by rw[Tm.ofNats_length];omega),λH3 y b3 hy=>?_⟩
 rw[Tm.ofNats_length]at hy
 refine⟨q,y,_,_,rfl,rfl,b3.same ups,hy,nums_len (by simp only[List.length_map,List.length_cons,List.length_nil,Tm.ofNats_length];omega),λq2 hq2=>?_⟩
 have b4:Bar [] H3 (upd H3 q2 (.lst ([V.int 0]++List.map V.int ((hs.length:Int)::Tm.ofNats hs)))):=.new hq2
 have B4:=b3.trans b4
 refine⟨p,rfl,dx,_,B4.same hp,_,poF_men ..,lm,Tm.ofNats ms,rfl,B4.same nm,nums_len (by rw[Tm.ofNats_length];omega),λH5 y2 b5 hy2=>?_⟩
 rw[Tm.ofNats_length]at hy2
 refine⟨q2,y2,_,_,rfl,rfl,b5.same ups,hy2,nums_len (by simp only[List.length_append,List.length_map,List.length_cons,List.length_nil,Tm.ofNats_length];omega),λq3 hq3=>?_⟩
 have b6:=Bar.new (ps:=[]) (o:=.lst (([V.int 0]++List.map V.int ((hs.length:Int)::Tm.ofNats hs))++List.map V.int ((ms.length:Int)::Tm.ofNats ms))) hq3
 have B6:=B4.trans (b5.trans b6)
 refine⟨p,rfl,dx,_,B6.same hp,_,poF_king ..,p,rfl,dx,_,B6.same hp,_,poF_side ..,by decide,λq4 hq4=>?_⟩
 have b7:=Bar.new (ps:=[]) (o:=.lst [.int (pos.king:Int),.int (pos.side:Int)]) hq4
 refine⟨q3,q4,_,_,rfl,rfl,b7.same ups,ups,nums_len (by simp only[List.length_append,List.length_map,List.length_cons,List.length_nil,Tm.ofNats_length];omega),λq5 hq5=>?_⟩
 refine G.ok _ _ q5 (by unfold Tm.byRules;dsimp only;rw[e]) (b1.trans (b2.trans (B6.trans (b7.trans (.new hq5))))) ?_
 rw[Tm.nums_read,PI.h,PI.m]
 show upd _ q5 _ q5=_
 rw[ups]
 simp
def sp_answer_write (t:Adr):Sp:=λvs H Q E=>∃(ru p:Addr) (d:RD) (R:Tafl.Rules) (hs ms:List Nat) (k sd:Nat),vs=[.ref ru,.ref p]/\RFull t H ru d/\Says d R/\PosAt t H p hs ms k sd/\hs.length+ms.length+1<sizeLine/\Gives t H Q E (Tm.byRules R (.write hs ms k sd))
theorem sc_answer_write:qqb ["rules","position"] ["rules","position"] (dSc s_answer_write):=by walk_at "sc9"
theorem ok_answer_write (T:Txt K mg t):FnOk P w K mg base (CX1 P w) 4 t.f_answer_write t.d_answer_write ["rules","position"] (sp_answer_write t):=by
 refine T.answer_write.F.okX sc_answer_write (λvs H Q E h=>?_) (λcdv A outer s H vs Q E hr h=>?_)
 ·obtain⟨ru,p,d,R,hs,ms,k,sd,rfl,_⟩:=h;rfl
 obtain⟨ru,p,d,R,hs,ms,k,sd,rfl,hR,hS,hP,hlen,G⟩:=h
 have hr2:Room 2 _:=hr.mono (by decide)
 have hr1:Room 1 _:=hr.mono (by decide)
 have c:=T.Position.c
 refine⟨_,psc (ps_if (PW.pt (pw_or (pt_not (pt_val (eC T.is_rising (ok_is_rising T) hr1 (pac (eF c T.n_Position_hunters (pv 1)) pan)))) (pw_or1 (pt_not (pt_val (eC T.is_rising (ok_is_rising T) hr1 (pac (eF c T.n_Position_men (pv 1)) pan))))))) (pso (qqe (pe_lst (pac (eK T.k_NOT_RIGHT) pan)))) qqi)
  (psc (ps_if (pt_not (pt_val (eC T.is_right (ok_is_right T) hr2 (pac (eF T.Rules.c T.n_Rules_kinds (pv 0)) (pac (pv 1) pan))))) (pso (qqe (pe_lst (pac (eK T.k_NOT_RIGHT) pan)))) qqi)
  (pso (qqe (pe_op op_cat (pe_lst (pac pei pan)) (eC T.with_length (ok_with_length T) hr1 (pac (eC T.line_of (ok_line_of T) hr (pac (pv 0) (pac (pv 1) pan))) pan)))))),?_⟩
 walk_at "rd"
 obtain⟨dx,lh,lm,hp,nh,nm⟩:=id hP
 have h13:R.high<=13:=by rw[<-hS.high];exact hR.good.h.2
 have w13:R.wide<=13:=by rw[<-hS.wide];exact hR.good.w.2
 have no:¬(Tm.rising (Tm.ofNats hs)=true/\Tm.rising (Tm.ofNats ms)=true/\Tm.rightN R hs ms k sd)->∀H',Bar [] H H'->1<=sizeLine/\∀(p:Addr),H' p=none->Q (.ref p) (upd H' p (.lst [.int (-8)])):=λz H' b=>by
  refine⟨by decide,λq hq=>G.ok _ _ q rfl (b.trans (.new hq)) ?_⟩
  rw[if_neg (λy=>z ((Tm.write_iff h13).mp y))]
  exact ups
 refine⟨dx,_,hp,_,poF_hunters ..,lh,hs,rfl,nh,by omega,_,rfl,?_⟩
 cases r1:Tm.rising (Tm.ofNats hs) with
 | false=>rw[if_pos rfl];exact no (by rw[r1];simp) H (.refl _ _)
 | true =>
  rw[if_neg (by decide)]
  refine⟨dx,_,hp,_,poF_men ..,lm,ms,rfl,nm,by omega,_,rfl,?_⟩
  cases r2:Tm.rising (Tm.ofNats ms) with
  | false=>rw[if_pos rfl];exact no (by rw[r2];simp) H (.refl _ _)
  | true =>
   rw[if_neg (by decide)]
   obtain⟨dr,fs,lg,ls,dk,hru,F,_,_,hk⟩:=id hR.at_.ex
   refine⟨dr,fs,hru,_,F.kinds,dk,p,d.gm,hs,ms,k,sd,rfl,hk,hP,hlen,λH1 r b1 hr=>⟨_,rfl,?_⟩⟩
   have ek:kdOf d.gm=Tm.kindN R:=by rw[hS.gm];exact funext λc=>Tm.kd_kind (r:=R) w13 c
   rw[ek]at hr
   cases r with
   | false=>rw[if_pos rfl];exact no (λz=>absurd (hr.mpr z.2.2) (by decide)) H1 b1
   | true =>
    rw[if_neg (by decide)]
    have rt:Tm.rightN R hs ms k sd:=hr.mp rfl
    refine⟨by decide,λq hq=>?_⟩
    have b2:Bar [] H1 (upd H1 q (.lst [.int 0])):=.new hq
    have PI:=Tm.write_is h13 r1 r2 rt
    refine tail_line (pos:=⟨Tafl.setFrom hs,Tafl.setFrom ms,k,sd⟩) (hR.same (b1.trans b2)).at_ hS ⟨hs,ms,hP.same (b1.trans b2),PI,rt⟩ (zs:=[0]) ups (by decide) λH3 l b3 hl=>?_
    refine G.ok _ H3 l rfl (b1.trans (b2.trans b3)) ?_
    rw[if_pos ((Tm.write_iff h13).mpr ⟨r1,r2,rt⟩),Tm.nums_line]
    exact hl
def sp_answer_turn (t:Adr):Sp:=λvs H Q E=>∃(ru tx:Addr) (d:RD) (R:Tafl.Rules) (b:Tafl.Bytes) (tn:Nat),vs=[.ref ru,.ref tx,.int (tn:Int)]/\RFull t H ru d/\Says d R/\TextAt H tx b/\Gives t H Q E (Tm.byRules R (.turn b tn))
theorem sc_answer_turn:qqb ["rules","text","turn","position"] ["rules","text","turn"] (dSc s_answer_turn):=by walk_at "sc9"
theorem ok_answer_turn (T:Txt K mg t):FnOk P w K mg base (CX1 P w) 6 t.f_answer_turn t.d_answer_turn ["rules","text","turn"] (sp_answer_turn t):=by
 refine T.answer_turn.F.okX sc_answer_turn (λvs H Q E h=>?_) (λcdv A outer s H vs Q E hr h=>?_)
 ·obtain⟨ru,tx,d,R,b,tn,rfl,_⟩:=h;rfl
 obtain⟨ru,tx,d,R,b,tn,rfl,hR,hS,ht,G⟩:=h
 have nd:=sc_answer_turn.nd
 have hr4:Room 4 _:=hr.mono (by decide)
 have hr3:Room 3 _:=hr.mono (by decide)
 have hr1:Room 1 _:=hr.mono (by decide)
 refine⟨_,psc (qqd (i:=3) nd rfl (Or.inl rfl) (eCR qqc T.read_line (ok_read_line T) hr (pac (pv 0) (pac (pv 1) pan))))
  (psc (ps_if (qqh op_notIn_seq (pv 2) (eC T.fitting_turns (ok_fitting_turns T) hr4 (pac (pv 0) pan)) (by with_unfolding_all rfl)) (pso (qqe (pe_lst (pac (eK T.k_NO_FITTING_TURN) pan)))) qqi)
  (pso (qqe (pe_op op_cat (pe_lst (pac pei pan)) (eC T.with_length (ok_with_length T) hr1 (pac (eC T.line_of (ok_line_of T) hr3 (pac (pv 0) (pac (eC T.turned (ok_turned T) hr4 (pac (pv 0) (pac (pv 3) (pac (pv 2) pan)))) pan))) pan)))))),?_⟩
 walk_at "rd"
 refine⟨ru,tx,d,R,b,rfl,hR.at_,hS,ht,λpos p H1 e g b1=>?_,λkd pl dx H1 e b1 fa=>G.er kd pl dx H1 (by unfold Tm.byRules;dsimp only;rw[e]) b1 fa⟩
 refine⟨ru,d,R,rfl,hR.same b1,hS,λH2 l b2 hl=>?_⟩
 have eb:∀ {a},a=(if 7<tn\/R.fits tn=false then Tafl.says (-2) else Tafl.tells 0 [.text (R.line (R.turnPos tn pos))])->Tm.byRules R (.turn b tn)=.ok a:=λ{a} z=>by unfold Tm.byRules;dsimp only;rw[e,z]
 refine⟨l,_,rfl,.inl (SqL.of hl),rfl,flat_ints _,_,rfl,?_⟩
 rw[inV_ints]
 by_cases mem:tn∈R.turns
 ·rw[decide_eq_true mem]
  rw[if_neg (by decide)]
  refine⟨by decide,λq hq=>?_⟩
  have b3:Bar [] H2 (upd H2 q (.lst [.int 0])):=.new hq
  have B:=b1.trans (b2.trans b3)
  refine turned_use (hR.same B).at_ hS (g.same (b2.trans b3)) (Tm.turns_fit mem) λH4 p' b4 P4=>?_
  refine tail_line (hR.same (B.trans b4)).at_ hS P4 (zs:=[0]) (b4.same ups) (by decide) λH5 l' b5 hl'=>?_
  refine G.ok _ H5 l' (eb rfl) (B.trans (b4.trans b5)) ?_
  rw[if_neg (Tm.turns_iff.mp mem),Tm.nums_line]
  exact hl'
 ·rw[decide_eq_false mem]
  rw[if_pos rfl]
  refine⟨by decide,λq hq=>G.ok _ _ q (eb rfl) (b1.trans (b2.trans (.new hq))) ?_⟩
  rw[if_pos (Classical.byContradiction λz=>mem (Tm.turns_iff.mpr z))]
  exact ups
def sp_answer_least (t:Adr):Sp:=λvs H Q E=>∃(ru tx:Addr) (d:RD) (R:Tafl.Rules) (b:Tafl.Bytes),vs=[.ref ru,.ref tx]/\RFull t H ru d/\Says d R/\TextAt H tx b/\Gives t H Q E (Tm.byRules R (.least b))
theorem sc_answer_least:qqb ["rules","text","position","turn"] ["rules","text"] (dSc s_answer_least):=by walk_at "sc9"
theorem ok_answer_least (T:Txt K mg t):FnOk P w K mg base (CX1 P w) 6 t.f_answer_least t.d_answer_least ["rules","text"] (sp_answer_least t):=by
 refine T.answer_least.F.okX sc_answer_least (λvs H Q E h=>?_) (λcdv A outer s H vs Q E hr h=>?_)
 ·obtain⟨ru,tx,d,R,b,rfl,_⟩:=h;rfl
 obtain⟨ru,tx,d,R,b,rfl,hR,hS,ht,G⟩:=h
 have nd:=sc_answer_least.nd
 have hr4:Room 4 _:=hr.mono (by decide)
 have hr3:Room 3 _:=hr.mono (by decide)
 have hr1:Room 1 _:=hr.mono (by decide)
 refine⟨_,psc (qqd (i:=2) nd rfl (Or.inl rfl) (eCR qqc T.read_line (ok_read_line T) hr (pac (pv 0) (pac (pv 1) pan))))
  (psc (qqd (i:=3) nd rfl (Or.inl rfl) (eC T.least_turn (ok_least_turn T) hr (pac (pv 0) (pac (pv 2) pan))))
  (pso (qqe (pe_op op_cat (pe_lst (pac pei (pac (pv 3) pan))) (eC T.with_length (ok_with_length T) hr1 (pac (eC T.line_of (ok_line_of T) hr3 (pac (pv 0) (pac (eC T.turned (ok_turned T) hr4 (pac (pv 0) (pac (pv 2) (pac (pv 3) pan)))) pan))) pan)))))),?_⟩
 walk_at "rd"
 refine⟨ru,tx,d,R,b,rfl,hR.at_,hS,ht,λpos p H1 e g b1=>?_,λkd pl dx H1 e b1 fa=>G.er kd pl dx H1 (by unfold Tm.byRules;dsimp only;rw[e]) b1 fa⟩
 refine⟨ru,p,d,R,pos,rfl,hR.same b1,hS,g,λH2 b2=>?_⟩
 refine⟨by decide,λq hq=>?_⟩
 have b3:Bar [] H2 (upd H2 q (.lst [.int 0,.int ((R.least pos).1:Int)])):=.new hq
 have B:=b1.trans (b2.trans b3)
 obtain⟨hs,ms,hP,PI,rt⟩:=g.ex
 obtain⟨lf,le⟩:=Tm.least_is (r:=R) PI
 refine turned_use (hR.same B).at_ hS (g.same (b2.trans b3)) lf λH4 p' b4 P4=>?_
 rw[<-le]at P4
 refine tail_line (hR.same (B.trans b4)).at_ hS P4 (zs:=[0,((R.least pos).1:Int)]) (b4.same ups) (by simp) λH5 l' b5 hl'=>?_
 refine G.ok (Tafl.tells 0 [.num (R.least pos).1,.text (R.line (R.least pos).2)]) H5 l' (by unfold Tm.byRules;dsimp only;rw[e]) (B.trans (b4.trans b5)) ?_
 rw[Tm.nums_least]
 exact hl'
def sp_answer_alike (t:Adr):Sp:=λvs H Q E=>∃(ru tx ty:Addr) (d:RD) (R:Tafl.Rules) (a b:Tafl.Bytes),vs=[.ref ru,.ref tx,.ref ty]/\RFull t H ru d/\Says d R/\TextAt H tx a/\TextAt H ty b/\Gives t H Q E (Tm.byRules R (.alike a b))
theorem sc_answer_alike:qqb ["rules","text","other_text","position","other"] ["rules","text","other_text"] (dSc s_answer_alike):=by walk_at "sc9"
theorem ok_answer_alike (T:Txt K mg t):FnOk P w K mg base (CX1 P w) 6 t.f_answer_alike t.d_answer_alike ["rules","text","other_text"] (sp_answer_alike t):=by
 refine T.answer_alike.F.okX sc_answer_alike (λvs H Q E h=>?_) (λcdv A outer s H vs Q E hr h=>?_)
 ·obtain⟨ru,tx,ty,d,R,a,b,rfl,_⟩:=h;rfl
 obtain⟨ru,tx,ty,d,R,a,b,rfl,hR,hS,ht,hy,G⟩:=h
 have nd:=sc_answer_alike.nd
 refine⟨_,psc (qqd (i:=3) nd rfl (Or.inl rfl) (eCR qqc T.read_line (ok_read_line T) hr (pac (pv 0) (pac (pv 1) pan))))
  (psc (qqd (i:=4) nd rfl (Or.inl rfl) (eCR qqc T.read_line (ok_read_line T) hr (pac (pv 0) (pac (pv 2) pan))))
  (pso (qqe (pe_lst (pac (pe_ifExp (pt_val (eC T.are_alike (ok_are_alike T) hr (pac (pv 0) (pac (pv 3) (pac (pv 4) pan))))) pei pei) pan))))),?_⟩
 walk_at "rd"
 refine⟨ru,tx,d,R,a,rfl,hR.at_,hS,ht,λpos p H1 e g b1=>?_,λkd pl dx H1 e b1 fa=>G.er kd pl dx H1 (by unfold Tm.byRules;dsimp only;rw[e]) b1 fa⟩
 refine⟨ru,ty,d,R,b,rfl,(hR.same b1).at_,hS,b1.same hy,λpos2 p2 H2 e2 g2 b2=>?_,λkd pl dx H2 e2 b2 fa=>G.er kd pl dx H2 (by unfold Tm.byRules;dsimp only;rw[e];dsimp only;rw[e2]) (b1.trans b2) fa⟩
 refine⟨ru,p,p2,d,R,pos,pos2,rfl,hR.same (b1.trans b2),hS,g.same b2,g2,λH3 b3=>⟨_,rfl,?_⟩⟩
 have eb:Tm.byRules R (.alike a b)=.ok (Tafl.says (if R.alike pos pos2=true then 1 else 0)):=by unfold Tm.byRules;dsimp only;rw[e];dsimp only;rw[e2]
 cases al:R.alike pos pos2 with
 | true =>
  rw[if_pos rfl]
  refine⟨by decide,λq hq=>G.ok _ _ q eb (b1.trans (b2.trans (b3.trans (.new hq)))) ?_⟩
  rw[al,if_pos rfl]
  exact ups
 | false =>
  rw[if_neg (by decide)]
  refine⟨by decide,λq hq=>G.ok _ _ q eb (b1.trans (b2.trans (b3.trans (.new hq)))) ?_⟩
  rw[al,if_neg (by decide)]
  exact ups
theorem marks_some {d:RD}{R:Tafl.Rules}(hS:Says d R) (g:RG d):d.gm≠[]/\d.sm≠[]:=by
 have h1:=g.w.1
 have h2:=g.h.1
 rw[hS.wide]at h1
 rw[hS.high]at h2
 have q:0<R.high*R.wide:=Nat.mul_pos (by omega) (by omega)
 rw[hS.gm,hS.sm]
 constructor
 ·intro z
  have:=Tm.ground_len R
  rw[z]at this
  simp only[List.length_nil]at this
  omega
 ·intro z
  have:=Tm.start_len R
  rw[z]at this
  simp only[List.length_nil]at this
  omega
theorem HallAt.barI {t:Adr}{H H':Hp}{p x dx C:Addr}{fs:List (Str×V)}{s:TaflPlaces.State}(h:HallAt t H p s) (b:Bar [x] H H') (hx:H x=some (.ins C dx fs)) (w:fs.lookup ("wide":Str)=none) (c:fs.lookup ("cell":Str)=none) (n:p≠x):HallAt t H' p s:=by
 obtain⟨dh,v,h1,h2⟩:=h
 refine⟨dh,v,b _ _ h1 (by simpa using n),?_⟩
 rcases h2 with z | ⟨R,ru,d,e1,e2,r,hS,hN⟩
 ·exact .inl z
 ·exact .inr ⟨R,ru,d,e1,e2,r.barI b hx w c,hS,hN⟩
theorem HallAt.barL {t:Adr}{H H':Hp}{p x:Addr}{zs:List Int}{s:TaflPlaces.State}(h:HallAt t H p s) (b:Bar [x] H H') (hx:H x=some (.lst (zs.map V.int))):HallAt t H' p s:=by
 obtain⟨dh,v,h1,h2⟩:=h
 refine⟨dh,v,b _ _ h1 (by simpa using ne_of h1 hx (by intro z;cases z)),?_⟩
 rcases h2 with z | ⟨R,ru,d,e1,e2,r,hS,hN⟩
 ·exact .inl z
 ·obtain⟨g1,g2⟩:=marks_some hS r.good
  exact .inr ⟨R,ru,d,e1,e2,r.barL b hx g1 g2,hS,hN⟩
theorem HallAt.size {t:Adr}{H:Hp}{p:Addr}{s:TaflPlaces.State}(h:HallAt t H p s):∀r,s=some r->r.wide<=13/\r.high<=13:=by
 obtain⟨dh,v,h1,h2⟩:=h
 intro r e
 rcases h2 with⟨z,_⟩|⟨R,ru,d,e1,e2,f,hS,hN⟩
 ·rw[z]at e;cases e
 ·rw[e1]at e
  cases e
  rw[<-hS.wide,<-hS.high]
  exact⟨f.good.w.2,f.good.h.2⟩
theorem rows_short {l:List Int}:∀ {n:Nat}{rows:List (List Int)}{e:Nat},RowsFrom l n rows e->∀r∈rows,r.length<=l.length
 | _,_,_,.nil _,r,h=>by cases h
 | _,_,_,.cons h1 h2 h3 h4,r,h=>by
  rcases List.mem_cons.mp h with rfl | h
  ·omega
  ·exact rows_short h4 r h
theorem intsN_at (x:TaflPlaces.Call):([.int 0,.int 0,.int 0,.int 2,.int 1,.int 0,.int 0]:List V)[Tm.callNo x]?=some (.int ((Tm.callInts x).length:Nat)):=by cases x <;> rfl
theorem rowsN_at (x:TaflPlaces.Call):([.int 1,.int 0,.int 1,.int 2,.int 1,.int 1,.int 2]:List V)[Tm.callNo x]?=some (.int ((Tm.callRows x).length:Nat)):=by cases x <;> rfl
theorem size_told {a b:Nat}(h1:a<=701*300) (h2:b<=701):a+b<=sizeLine:=Nat.le_trans (show a+b<=701*300+701 by omega) (by decide)
def sp_answer_by_rules (t:Adr):Sp:=λvs H Q E=>∃(ru nu rw:Addr) (d:RD) (R:Tafl.Rules) (x:TaflPlaces.Call),vs=[.ref ru,.int (Tm.callNo x:Int),.ref nu,.ref rw]/\RFull t H ru d/\Says d R/\Tm.NoFault R/\Tm.callNo x≠0/\IntsAt H nu (Tm.callInts x)/\RowsAt H rw (Tm.callRows x) /\
 (∀r∈Tm.callRows x,r.length<=30000)/\Gives t H Q E (Tm.byRules R x)
theorem sc_answer_by_rules:qqb ["rules","call","numbers","rows"] ["rules","call","numbers","rows"] (dSc s_answer_by_rules):=by walk_at "sc9"
theorem ok_answer_by_rules (T:Txt K mg t):FnOk P w K mg base (CX1 P w) 7 t.f_answer_by_rules t.d_answer_by_rules ["rules","call","numbers","rows"] (sp_answer_by_rules t):=by
 refine T.answer_by_rules.F.okX sc_answer_by_rules (λvs H Q E h=>?_) (λcdv A outer s H vs Q E hr h=>?_)
 ·obtain⟨ru,nu,rw,d,R,x,rfl,_⟩:=h;rfl
 obtain⟨ru,nu,rw,d,R,x,rfl,hR,hS,hN,hx,hnu,hrw,hlen,G⟩:=h
 have hr5:Room 5 _:=hr.mono (by decide)
 have hr4:Room 4 _:=hr.mono (by decide)
 have hr2:Room 2 _:=hr.mono (by decide)
 refine⟨_,psc (ps_if (qqh op_eq (pv 1) (eK T.k_BEGIN) (qqg _)) (pso (qqe (eC T.answer_begin (ok_answer_begin T) hr5 (pac (pv 0) pan)))) qqi)
  (psc (ps_if (qqh op_eq (pv 1) (eK T.k_READ) (qqg _)) (pso (qqe (eCR qqc T.answer_read (ok_answer_read T) hr (pac (pv 0) (pac (pe_ix ix_list (pv 3) pei (λ_ _=>rfl)) pan))))) qqi)
  (psc (ps_if (qqh op_eq (pv 1) (eK T.k_WRITE) (qqg _)) (pso (qqe (eC T.answer_write (ok_answer_write T) hr4 (pac (pv 0) (pac (eN T.Position (ok_Position_init T) hr2 (pac (pe_ix ix_list (pv 3) pei (λ_ _=>rfl)) (pac (pe_ix ix_list (pv 3) pei (λ_ _=>rfl)) (pac (pe_ix ix_list (pv 2) pei (λ_ _=>rfl)) (pac (pe_ix ix_list (pv 2) pei (λ_ _=>rfl)) pan))))) pan))))) qqi)
  (psc (ps_if (qqh op_eq (pv 1) (eK T.k_TURN) (qqg _)) (pso (qqe (eCR qqc T.answer_turn (ok_answer_turn T) hr (pac (pv 0) (pac (pe_ix ix_list (pv 3) pei (λ_ _=>rfl)) (pac (pe_ix ix_list (pv 2) pei (λ_ _=>rfl)) pan)))))) qqi)
  (psc (ps_if (qqh op_eq (pv 1) (eK T.k_LEAST) (qqg _)) (pso (qqe (eCR qqc T.answer_least (ok_answer_least T) hr (pac (pv 0) (pac (pe_ix ix_list (pv 3) pei (λ_ _=>rfl)) pan))))) qqi)
  (pso (qqe (eCR qqc T.answer_alike (ok_answer_alike T) hr (pac (pv 0) (pac (pe_ix ix_list (pv 3) pei (λ_ _=>rfl)) (pac (pe_ix ix_list (pv 3) pei (λ_ _=>rfl)) pan)))))))))),?_⟩
 walk_at "rd"
 obtain⟨as,hl,pa⟩:=hrw
 cases x with
 | rules b=>exact absurd rfl hx
 | begin_ =>
  rw[if_pos (by simp[Tm.callNo])]
  exact⟨ru,d,R,rfl,hR,hS,hN,⟨G.ok,λk p dx H' e=>by cases e⟩⟩
 | read b =>
  rw[if_neg (by simp[Tm.callNo]),if_pos (by simp[Tm.callNo])]
  cases pa with
  | cons p0 pa=>cases pa with
   | nil=>exact⟨_,SqL.of hl,_,atI_nat (j:=0) rfl,ru,_,d,R,b,rfl,hR,hS,p0,G⟩
 | write h m k sd =>
  rw[if_neg (by simp[Tm.callNo]),if_neg (by simp[Tm.callNo]),if_pos (by simp[Tm.callNo])]
  cases pa with
  | cons p0 pa=>cases pa with
   | cons p1 pa=>cases pa with
    | nil =>
     rename_i a0 a1
     refine⟨_,SqL.of hl,_,atI_nat (j:=0) rfl,_,SqL.of hl,_,atI_nat (j:=1) rfl,_,SqL.of hnu,_,atI_nat (j:=0) rfl,_,SqL.of hnu,_,atI_nat (j:=1) rfl,λp dx hp hdx _=>?_⟩
     refine⟨p,dx,a0,a1,k,sd,rfl,ups,rfl,?_⟩
     have B1:=bar_made (C:=t.C_Position) (fs:=poF a0 a1 k sd) hp hdx
     have P1:PosAt t (upd (upd (upd H dx (.own p)) p (.ins t.C_Position dx [])) p (.ins t.C_Position dx (poF a0 a1 k sd))) p h m k sd:=⟨dx,a0,a1,ups,B1.same p0,B1.same p1⟩
     generalize upd (upd (upd H dx (.own p)) p (.ins t.C_Position dx [])) p (.ins t.C_Position dx (poF a0 a1 k sd))=H1 at B1 P1 ⊢
     have l0:=hlen (Tm.ofNats h) (by simp[Tm.callRows])
     have l1:=hlen (Tm.ofNats m) (by simp[Tm.callRows])
     rw[Tm.ofNats_length]at l0 l1
     exact⟨ru,p,d,R,h,m,k,sd,rfl,hR.same B1,hS,P1,Nat.lt_of_le_of_lt (show h.length+m.length+1<=60001 by omega) (by decide),⟨λa H' l e b hl=>G.ok a H' l e (B1.trans b) hl,λk p dx H' e=>by cases e⟩⟩
 | turn b tn =>
  rw[if_neg (by simp[Tm.callNo]),if_neg (by simp[Tm.callNo]),if_neg (by simp[Tm.callNo]),if_pos (by simp[Tm.callNo])]
  cases pa with
  | cons p0 pa=>cases pa with
   | nil=>exact⟨_,SqL.of hl,_,atI_nat (j:=0) rfl,_,SqL.of hnu,_,atI_nat (j:=0) rfl,ru,_,d,R,b,tn,rfl,hR,hS,p0,G⟩
 | least b =>
  rw[if_neg (by simp[Tm.callNo]),if_neg (by simp[Tm.callNo]),if_neg (by simp[Tm.callNo]),if_neg (by simp[Tm.callNo]),if_pos (by simp[Tm.callNo])]
  cases pa with
  | cons p0 pa=>cases pa with
   | nil=>exact⟨_,SqL.of hl,_,atI_nat (j:=0) rfl,ru,_,d,R,b,rfl,hR,hS,p0,G⟩
 | alike a b =>
  rw[if_neg (by simp[Tm.callNo]),if_neg (by simp[Tm.callNo]),if_neg (by simp[Tm.callNo]),if_neg (by simp[Tm.callNo]),if_neg (by simp[Tm.callNo])]
  cases pa with
  | cons p0 pa=>cases pa with
   | cons p1 pa=>cases pa with
    | nil=>exact⟨_,SqL.of hl,_,atI_nat (j:=0) rfl,_,SqL.of hl,_,atI_nat (j:=1) rfl,ru,_,_,d,R,a,b,rfl,hR,hS,p0,p1,G⟩
def sp_answer_call (t:Adr):Sp:=λvs H Q _=>∃(ha nu rw:Addr) (s:TaflPlaces.State) (x:TaflPlaces.Call),vs=[.ref ha,.int (Tm.callNo x:Int),.ref nu,.ref rw]/\HallAt t H ha s/\IntsAt H nu (Tm.callInts x)/\RowsAt H rw (Tm.callRows x)/\(∀r∈Tm.callRows x,r.length<=30000) /\
 ∀H' l,Bar [ha] H H'->HallAt t H' ha (TaflPlaces.step s x).1->IntsAt H' l (TaflPlaces.step s x).2.nums->Q (.ref l) H'
theorem sc_answer_call:qqb ["hall","call","numbers","rows","fault"] ["hall","call","numbers","rows"] (dSc s_answer_call):=by walk_at "sc9"
theorem ok_answer_call (T:Txt K mg t):FnOk P w K mg base (CX1 P w) 8 t.f_answer_call t.d_answer_call ["hall","call","numbers","rows"] (sp_answer_call t):=by
 refine T.answer_call.F.okX sc_answer_call (λvs H Q E h=>?_) (λcdv A outer s H vs Q E hr h=>?_)
 ·obtain⟨ha,nu,rw,s,x,rfl,_⟩:=h;rfl
 obtain⟨ha,nu,rw,st,x,rfl,hH,hnu,hrw,hlen,k⟩:=h
 have nd:=sc_answer_call.nd
 have hr6:Room 6 _:=hr.mono (by decide)
 refine⟨_,psc (ps_if (qqh op_eq (pv 1) (eK T.k_RULES) (qqg _)) (pso (qqe (eC T.answer_rules (ok_answer_rules T) hr6 (pac (pv 0) (pac (pe_ix ix_list (pv 3) pei (λ_ _=>rfl)) pan))))) qqi)
  (psc (ps_if (pt_cmp (pc_isN (eF T.Hall.c T.n_Hall_rules (pv 0)))) (pso (qqe (pe_lst (pac (eK T.k_NO_RULES) pan)))) qqi)
  (pso (ps_tryA (i:=4) rfl rfl T.r_LineFault.cls rfl T.m_LineFault nd rfl rfl
   (λpins Rb=>pso (qqe (eCR takes_try T.answer_by_rules (ok_answer_by_rules T) hr (pac (eF T.Hall.c T.n_Hall_rules (pv 0)) (pac (pv 1) (pac (pv 2) (pac (pv 3) pan)))))))
   (λe dx pn oe hp hc hd hn=>pso (qqe (pe_lst (pac (eK T.k_LINE_FAULT) (pac (pe_exfld hp hc hd hn T.r_LineFault T.LineFault.kind (pv 4) rfl) (pac (pe_exfld hp hc hd hn T.r_LineFault T.p_LineFault (pv 4) rfl) pan))))))))),?_⟩
 walk_at "rd"
 by_cases hx:Tm.callNo x=0
 ·rw[if_pos (by rw[hx];rfl)]
  cases x with
  | rules b =>
   obtain⟨as,hl,pa⟩:=hrw
   cases pa with
   | cons p0 pa=>cases pa with
    | nil=>exact⟨_,SqL.of hl,_,atI_nat (j:=0) rfl,ha,_,st,b,rfl,hH,p0,k⟩
  | _=>exact absurd hx (by simp[Tm.callNo])
 ·rw[if_neg (λz=>hx (by omega))]
  obtain⟨dx,v,h1,hv⟩:=id hH
  refine⟨dx,_,h1,v,rfl,?_⟩
  rcases hv with⟨rfl,rfl⟩|⟨R,ru,d,rfl,rfl,hR,hS,hN⟩
  ·rw[if_pos rfl]
   have st:=Tm.step_no hx
   refine⟨by decide,λp hp=>k _ p (.new hp) ?_ ?_⟩
   ·rw[st];exact hH.same (.new hp)
   ·rw[st];exact ups
  ·rw[if_neg (by intro z;cases z)]
   have st:=Tm.step_by (r:=R) hx
   refine⟨dx,_,h1,_,rfl,ru,nu,rw,d,R,x,rfl,hR,hS,hN,hx,hnu,hrw,hlen,⟨λa H' l e b hl=>k H' l b.more ?_ ?_,λkd pl dx' H' e b fa=>⟨rfl,dx',rfl,λe'=>?_⟩⟩⟩
   ·rw[st];exact hH.same b
   ·rw[st,e];exact hl
   ·walk_at "rd"
    refine⟨_,fa,_,rfl,_,fa,_,rfl,by decide,λp hp=>k _ p (b.trans (.new hp)).more ?_ ?_⟩
    ·rw[st];exact hH.same (b.trans (.new hp))
    ·rw[st,e];exact ups
def sp_answers (K:PySem.W.Frag):Sp:=λvs H Q _=>∃(c:Addr) (l:List Int),vs=[.ref c]/\SqL K H c (l.map V.int)/\l.length<=30000/\PyWqaccz.answers_asked l=true/\∀H' p,H' p=some (.lst ((PyWqaccz.answers l).map V.int))->Q (.ref p) H'
theorem sc_answers:qqb ["calls","hall","feed","told","call","numbers","rows"] ["calls"] (dSc s_answers):=by walk_at "sc9"
structure IvA (K:PySem.W.Frag) (t:Adr) (ha fe q c:Addr) (l:List Int) (m:Nat) (σ:St) (H:Hp):Prop where
 st:∃a b d,σ=[some (.ref c),some (.ref ha),some (.ref fe),some (.ref q),a,b,d]
 ex:∃(used:Nat) (s:TaflPlaces.State) (out:List Int) (dn:Nat),Tm.CallsAt l used s out dn/\m=l.length - used/\FeedAt t H fe c used/\HallAt t H ha s/\IntsAt H q out/\out.length<=701*dn
 calls:SqL K H c (l.map V.int)
theorem ok_answers (T:Txt K mg t):FnOk P w K mg base (CX1 P w) 9 t.f_answers t.d_answers ["calls"] (sp_answers K):=by
 refine T.answers.F.okX sc_answers (λvs H Q E h=>?_) (λcdv A outer s H vs Q E hr h=>?_)
 ·obtain⟨c,l,rfl,_⟩:=h;rfl
 obtain⟨c,l,rfl,hc,hlen,hask,k⟩:=h
 have nd:=sc_answers.nd
 have hr2:Room 2 _:=hr.mono (by decide)
 have hr1:Room 1 _:=hr.mono (by decide)
 refine⟨_,psc (qqd (i:=1) nd rfl (Or.inl rfl) (eN0 T.Hall (ok_Hall_init T) hr2))
  (psc (qqd (i:=2) nd rfl (Or.inl rfl) (eN T.Feed (ok_Feed_init T) hr2 (pac (pv 0) pan)))
  (psc (qqd (i:=3) nd rfl (Or.inl rfl) (pe_lst pan))
  (psc (ps_while owns_fn (pt_val (eM0 T.Feed.c T.Feed_has_more (ok_Feed_has_more T) hr1 (pv 2)))
   (psc (qqd (i:=4) nd rfl (Or.inl rfl) (eM0 T.Feed.c T.Feed_take_number (ok_Feed_take_number T) hr1 (pv 2)))
   (psc (qqd (i:=5) nd rfl (Or.inl rfl) (eM T.Feed.c T.Feed_take_numbers (ok_Feed_take_numbers T) hr1 (pv 2) (pac (pe_ix (ix_tupK K) (eKt T.k_NUMBERS_OF_CALLS) (pv 4) (λ_ _=>rfl)) pan)))
   (psc (qqd (i:=6) nd rfl (Or.inl rfl) (eM T.Feed.c T.Feed_take_rows (ok_Feed_take_rows T) hr2 (pv 2) (pac (pe_ix (ix_tupK K) (eKt T.k_ROWS_OF_CALLS) (pv 4) (λ_ _=>rfl)) pan)))
   (pso (qqj (pe_bm PySem.F.plainAttrs_list PySem.F.slot_list_extend PySem.F.type_list_extend mt_extend (pv 3) (pac (eC T.with_length (ok_with_length T) hr1 (pac (eC T.answer_call (ok_answer_call T) hr (pac (pv 1) (pac (pv 4) (pac (pv 5) (pac (pv 6) pan))))) pan)) pan))))))))
  (pso (qqe (pv 3)))))),?_⟩
 walk_at "rd"
 intro ha da hha hda _
 refine⟨ha,da,rfl,ups,rfl,?_⟩
 have B1:=bar_made (C:=t.C_Hall) (fs:=[("rules",.non)]) hha hda
 have h1:HallAt t (upd (upd (upd H da (.own ha)) ha (.ins t.C_Hall da [])) ha (.ins t.C_Hall da [("rules",.non)])) ha none:=⟨da,.non,ups,.inl ⟨rfl,rfl⟩⟩
 generalize upd (upd (upd H da (.own ha)) ha (.ins t.C_Hall da [])) ha (.ins t.C_Hall da [("rules",.non)])=H1 at B1 h1 ⊢
 intro fe df hfe hdf _
 refine⟨fe,df,c,rfl,ups,rfl,?_⟩
 have B2:=bar_made (C:=t.C_Feed) (fs:=feF c 0) hfe hdf
 have f2:FeedAt t (upd (upd (upd H1 df (.own fe)) fe (.ins t.C_Feed df [])) fe (.ins t.C_Feed df (feF c 0))) fe c 0:=⟨df,ups⟩
 generalize upd (upd (upd H1 df (.own fe)) fe (.ins t.C_Feed df [])) fe (.ins t.C_Feed df (feF c 0))=H2 at B2 f2 ⊢
 refine⟨Nat.zero_le _,λq hq=>?_⟩
 have B3:Bar [] H2 (upd H2 q (.lst [])):=.new hq
 have c3:=((hc.same B1).same B2).same B3
 obtain⟨df2,hf2⟩:=id f2
 have cq:(∀H',SqL K H' c (l.map V.int))\/(c≠q/\c≠ha/\c≠fe):=by
  have tr:∀ {o},H c=some o->c≠q/\c≠ha/\c≠fe:=λ{o} h=>⟨nen (B2.same (B1.same h)) hq,nen h hha,nen (B1.same h) hfe⟩
  rcases hc with (h | ⟨o,h⟩) | h
  ·exact .inr (tr h)
  ·exact .inr (tr h)
  ·exact .inl λH'=>.inr h
 refine⟨IvA K t ha fe q c l,⟨l.length,⟨none,none,none,rfl⟩,⟨0,none,[],0,Tm.CallsAt.start hask,by simp,⟨df2,B3.same hf2⟩,(h1.same B2).same B3,ups,by simp⟩,c3⟩,?_⟩
 rintro m σ H' ⟨⟨a1,a2,a3,rfl⟩,⟨used,st,out,dn,C,em,hF,hH,hq',hol⟩,hc'⟩
 walk_at "rd"
 obtain⟨dx,hp⟩:=id hF
 refine⟨dx,_,hp,rfl,fe,c,used,l,rfl,hF,hc',_,rfl,?_⟩
 by_cases hlt:used<l.length
 rotate_left
 ·rw[decide_eq_false hlt,if_neg (by decide)]
  have eu:used=l.length:=by have:=C.le;omega
  subst eu
  exact k H' q (by rw[C.fin];exact hq')
 rw[decide_eq_true hlt,if_pos rfl]
 obtain⟨x,tl,e1,_,C',d300⟩:=C.turn hlt
 obtain⟨n1,n2,n3,rf⟩:=call_at e1
 have pos:0<(Tm.callNums x).length:=by rw[Tm.callNums_eq,List.length_cons];omega
 refine⟨λσ' H'=>IvA K t ha fe q c l (l.length - (used+(Tm.callNums x).length)) σ' H',λσ' H2 h=>⟨_,by rw[em];omega,h⟩,dx,_,hp,rfl,fe,c,used,l,_,rfl,hF,hc',n1,λH1 b1 f1=>?_⟩
 obtain⟨dx1,hp1⟩:=id f1
 have hc1:=hc'.feed hF b1
 refine⟨dx1,_,hp1,rfl,_,_,rfl,T.k_NUMBERS_OF_CALLS.s H1,_,atI_nat (j:=Tm.callNo x) (intsN_at x),fe,c,used+1,(Tm.callInts x).length,l,rfl,f1,hc1,n3,λH2 nu b2 f2 hnu hn=>?_⟩
 rw[n2]at hnu
 obtain⟨dx2,hp2⟩:=id f2
 have hc2:=hc1.feed f1 b2
 refine⟨dx2,_,hp2,rfl,_,_,rfl,T.k_ROWS_OF_CALLS.s H2,_,atI_nat (j:=Tm.callNo x) (rowsN_at x),fe,c,used+1+(Tm.callInts x).length,_,l,Tm.callRows x,rfl,f2,hc2,rf,Nat.le_trans (Tm.callRows_le x) (by decide),λH3 rw' b3 f3 hrw=>?_⟩
 have BB:Bar [fe] H' H3:=b1.trans (b2.trans b3)
 obtain⟨dh,vh,hh,_⟩:=id hH
 have nhf:ha≠fe:=ne_of hh hp λz=>by
  have e:=(HO.ins.inj z).2.2
  unfold feF at e
  cases e
 have hH3:=hH.barI BB hp rfl rfl nhf
 have hq3:IntsAt H3 q out:=BB _ _ hq' (by simpa using ne_of hq' hp (by intro z;cases z))
 have hnu3:IntsAt H3 nu (Tm.callInts x):=b3 _ _ hnu (by simpa using ne_of hnu hp2 (by intro z;cases z))
 have hc3:=hc2.feed f2 b3
 obtain⟨dh3,vh3,hh3,_⟩:=id hH3
 refine⟨.inl ⟨rfl,_,SqL.of hq3⟩,ha,nu,rw',st,x,rfl,hH3,hnu3,hrw,λr hr=>Nat.le_trans (rows_short rf r hr) hlen,λH4 la b4 hH4 hla=>?_⟩
 have sl:=Tm.step_len (s:=st) (x:=x) hH.size
 refine⟨la,_,rfl,hla,Nat.le_trans (Nat.add_le_add_right sl 1) (by decide),λH5 y b5 hy=>?_⟩
 have hq4:IntsAt H4 q out:=b4 _ _ hq3 (by simpa using ne_of hq3 hh3 (by intro z;cases z))
 have hq5:=b5.same hq4
 obtain⟨dx3,hp3⟩:=id f3
 have hp4:=b4 _ _ hp3 (by simpa using nhf.symm)
 have nfq:fe≠q:=ne_of hp3 hq3 (by intro z;cases z)
 have b6:Bar [q] H5 (upd H5 q (.lst (out.map V.int++List.map V.int (((TaflPlaces.step st x).2.nums.length:Int)::(TaflPlaces.step st x).2.nums)))):=.one
 refine⟨q,y,_,_,rfl,rfl,hq5,hy,?_,?_⟩
 ·rw[List.length_map,List.length_map,List.length_cons]
  exact size_told (by omega) (by omega)
 ·refine⟨⟨_,_,_,rfl⟩,⟨used+(Tm.callNums x).length,_,_,dn+1,C',rfl,⟨dx3,by rw[qqa nfq];exact b5.same hp4⟩,(hH4.same b5).barL b6 hq5,?_,?_⟩,?_⟩
  ·show upd H5 q _ q=_
   rw[ups,List.map_append]
  ·rw[List.length_append,List.length_cons]
   omega
  ·rcases cq with z | ⟨z1,z2,z3⟩
   ·exact z _
   ·exact ((hc3.bar b4 (by simpa using z2)).same b5).bar b6 (by simpa using z1)
end L2
section
namespace L2
open PySem PySem.Spec PyProof.Rows Tx
open PySem.W (Codec)
theorem walk_ans {q:Program}{loose:List Str}{XP:(Str->Option Value)->Heap->Prop}{YP:World->Heap->Prop}{d:DefRec}{K:Params->PySem.W.Frag}(hdf:d.params.defaults=[]) (hn:d.name = "answers") (hY:∀(w:World) (h:Heap),YP w h->(K w.params).In h)
  (F:∀(w:World) (mg:Str->Option Value) (h:Heap),(K w.params).In h->h.Ns mainGlobals mg->∃t,Txt (K w.params) mg t) :
  PySem.W.WalkOS q loose XP YP PySem.Challenge.rw_tafllines_s01_answers d [] (λf vs=>PySem.call f vs):=by
 refine walk_spec (k:=9) (K:=K) (CX:=λw=>CX1 PySem.Challenge.rw_tafllines_s01_answers.prog w) (ps:=["calls"]) (sp:=λw=>sp_answers (K w.params)) (by decide +kernel) hdf rfl ⟨rfl,by decide,by decide⟩ hY ?_ ?_ ?_
 ·intro w mg fa h Y KX G hmg
  obtain⟨t,T⟩:=F w mg h KX G
  rw[hn]at hmg
  have e:=hmg.symm.trans T.answers.m
  cases e
  refine⟨t.d_answers,λs us hu=>?_,λbase _ _=>ok_answers T⟩
  obtain⟨oc,od,kV,doc,pm,an,cdv,ct,osl,e,lk,hcd⟩:=T.answers.F.ex
  rw[e]
  exact .of_eq (bd_answers kV doc pm an cdv ct us hu)
 ·intro w H xs a hO hwi hask hx
  cases hx with
  | cons h1 h2 =>
   cases h2
   cases h1 with
   | lst hs ha =>
    have e:=ints_dw a.1 _ ha
    subst e
    have z:((Codec.inLen 0 30000 a.1&&a.1.all (Codec.inInt 0 4294967295))&&true)=true:=hwi
    rw[Bool.and_eq_true,Bool.and_eq_true]at z
    exact⟨_,a.1,rfl,hs,(Codec.inNat_iff.mp z.1.1).2,hask,λH' p hp=>.lst (SqL.of hp) (dw_ints _)⟩
 ·rintro w H s e s' ⟨_,_,_,_,_,_,_,_,_,_,_,_,_,z⟩
  exact z.elim
end L2
end
end
set_option genInjectivity false in
set_option genSizeOf false in
structure PySem.W.Fast:Prop where
 (tw2750853488120806828 tw18174889803262092159 tw9109783267179650487 tw4707414202449014608 tw754156465480787044 tw12730166749615886423 tw16358071557451038545 tw14328458065850939882 tw8405010408181821656 tw4753721402496119683 tw16589138390921050178 tw1285559373212978765 tw607831415063269924 tw9972279169811133390 tw521243116204393267 tw15017686949383453262 tw14448381239952197297 tw18236449633229335910 tw11158986337212462823 tw12366079706603385693 tw12962320706987306285 tw3524573964759556458 tw1771074308318324936 tw1454682418128704594 tw12856921587820251731 tw1473361485443514725 tw15021828769303101069 tw4816132969421687131 tw6365747958085468819 tw1910292436381323035 tw8951250416618688912 tw13682261713095950170 tw7209380737576880814 tw6259488128860589682 tw17192310348848680079 tw5673958873402042259 tw3507061968281754433 tw14022947640900270273 tw10688369077959659184 tw17829374955850385193 tw7766011113822180149 tw2038936936053259461 tw7195831039595954984 tw1411615563579622787 tw491555006177555844 tw6814495708154344967 tw8437811349462009179 tw15377263238005381631 tw9044585522018240131 tw6458396409880496722 tw657975630064693224 tw5576743971034343343 tw7291088188703894432 tw15939356265601729219 tw16671160633202131962 tw13027422948983657668 tw1714133610289250755 tw17765837293499879943 tw8711223154439916254 tw7440350205602391548 tw15823190267006607317 tw12725864335291671291 tw15020571324283207115 tw3188892337424650564 tw6755926669969075856 tw2282452818791667263 tw3174160059193604015 tw18142954385105617171 tw8160565254964661141 tw2169602260737178741 tw13914412861987070432 tw13603766254947998737 tw9244097953765025574 tw17294468952204781114 tw13545772781365449377 tw1826456966045605377 tw4383399439446680497 tw11757277892782370215 tw1159064041831097626 tw8526007199740608344 tw12177271613367810329 tw18052459598205608506 tw16128469078405874362 tw14951458165276201508 tw5944063786170852201 tw10510701047402022809 tw16808916822881113508 tw15021266541591322957 tw16012204237827806096 tw7247842840238239980 tw9998660039470610572 tw4369946539533208084 tw15060607212146125343 tw1752962889586951074 tw16916915512037506996 tw15350359772304653214 tw2084668796848934489 tw5716712241734195019 tw18123632444837228306 tw1839990951615561497 tw2214003320839766388 tw4961766779256858280 tw5240718067442952128 tw11443038158424380791 tw11404500927069356411 tw12706712235253544936 tw5621762341419596459 tw6309208101334537288 tw5499629499489085608 tw18419891867421283819 tw7917207756486147221 tw14949410306960456833 tw10544838707533593999 tw12519236572495247481 tw10961420958731002508 tw10596529149310512376 tw9700089784633687729 tw10373705573545722450 tw5006567488153050461 tw6741512207716167010 tw10542340196143773864 tw8632700621601024290 tw17297553783034573439 tw154016261445650507 tw7728996914273876946 tw2744571608955649702 tw3696406658819283420 tw6010031312535936816 tw7567936477391468824 tw10075492907658347258 tw17842798699787695210 tw7345443635063716385 tw12239202765896219 tw8506795525080819226 tw5843448670343111444 tw2923853940140107631 tw5175252114338502580 tw1660351989604929654 tw5270257578187975798 tw1449408839323520135 tw16179270442929103350 tw9040557824083220303 tw2380182542730722489 tw14444554615237774462 tw86863597042733697 tw16789510680832532719 tw18326722527170695304 tw8057958926611347090 tw9711207081438059954 tw2345108415050928938 tw16251588297313324170 tw2268561900891859708 tw14269352013725945767 tw10745971268345109766 tw11377911983841804258 tw9521102984137321925 tw2477535052916874980 tw10620392546932517402 tw15848217383245483286 tw9660577331990083675 tw13562070441136059499 tw5009254611444437525 tw6936548370873327953 tw1368963501168708676 tw11905822170328380143 tw1595815091198383093 tw7910446070427377257 tw11418775105821024932 tw8625393035467929413 tw3216178107519158801 tw373874526344785122 tw13226572788984739613 tw9250547872643561701 tw8016841125438507002 tw16854150437947084614 tw11400891861196081771 tw12636662535138680790 tw9891669951395236127 tw8238808446456791871 tw4572057815291064157 tw6328165010663135545 tw3831373010460454061 tw6025723863066985183 tw7279780594194976500 tw4864987251770015764 tw4981499439710463297 tw8480052426076593325 tw16412072076699242305 tw4721502220596922140 tw3049688314984509755 tw4385833999411464205 tw10796342085308614725 tw11212144758293077269 tw8359206539750844727 tw15457801558759279616 tw11229581467067581990 tw8116363432205409391 tw792795328774168531 tw7004652936123041553 tw5417786734945643983 tw11279291867685181432 tw6396639917233374481 tw15846755339750143705 tw2992360578958729976 tw8566256151110419703 tw1809145409527974697 tw9222308214428173757 tw13385213618142868443 tw195971578841328522 tw6945945052288504725 tw8552172572865896995 tw10853502547904218864 tw1059417922414255770 tw13450800861540243140 tw15005520439931393025 tw8655064288327608485 tw13453349927629317256 tw8398191141886817941 tw8509715096929978662 tw16297438331504210084 tw10041675852883562323 tw4345169407043401716 tw13942996372616467901 tw700913990962894146 tw5367068045378426235 tw12451859642978297637 tw2622176166401729296 tw6478757526793893116 tw3657505415431827196 tw6264541467909771356 tw6618992464848644345 tw386778088163916267 tw1447300097680225202 tw11725960768101340425 tw1659097860751154930 tw15350119965677795209 tw3736128480396267133 tw5681864229179336049 tw14444180741863318280 tw2701209302656838300 tw15486687915495907659 tw5495989050844749516 tw13896822898684025785 tw17971655486755690213 tw2559884516285711228 tw11277907850067149371 tw10173733086649702186 tw11388107399474370876 tw12008819995539798956 tw736377689605223824 tw6791744569461627754 tw2190895642122939340 tw5225856990631863223 tw7955488692632722251 tw16929966404104741961 tw8781406663779341449 tw14518711781368037845 tw8567275354223295189 tw6828272825413092101 tw12420851890825920589 tw14693386390684391810 tw4602750243675936800 tw8795256259546001257 tw12424657786126376316 tw14215606174234879601 tw8000685608124870171 tw15804519112643610412 tw8228683832888654444 tw6722340435314966770 tw9351450891879331141 tw8479402089328275747 tw15117717608629226046 tw12947546457327593791 tw5435528576237389857 tw10394329488461295873 tw15912618935926192511 tw3286424395535771220 tw5594487514825875269 tw1263155869369756443 tw13763319315345073026 tw3457245321704094638 tw13894013716012556123 tw2453493215469792422 tw12235504505070142520 tw3413391818395316459 tw16683572234808779899 tw13529162003024828862 tw16781555153757080550 tw17314048387935475757 tw9899935896707277926 tw12225510939607768100 tw16090700687796243931 tw6671234434776141220 tw12073171686811147868 tw14456144125051798349 tw10438322179358903896 tw10374048475754760191 tw6982408495082538394 tw6536343928000756609 tw16632097624280267088 tw6529359748109334386 tw409935517789963540 tw11741440843056569886 tw13748026506052792073 tw8709004065354810106 tw15969353215813384295 tw17550677389483108752 tw2734203806926601110 tw2403266409574848517 tw15107943976620495059 tw6075715692232943303 tw5041493322920902887 tw3246433968588315465 tw10585939379506138265 tw17513070475793960606 tw2034842761873665413 tw7297281611427281417 tw12355413233129542621 tw16756388255180680946 tw3345096619047124745 tw7732313178617692725 tw899834332422228997 tw8848323455473239417 tw13582134187091291894 tw539758058259277104 tw10285324656220071926 tw1012940094610016742 tw9722504434681183582 tw4503962698139238522 tw13170503001309280733 tw14264561274766748035 tw1622517171538614288 tw6476079726875521587 tw8925266864032298496 tw7367064186192411867 tw282994536995660484 tw15795994505824891753 tw14648353501028727116 tw14691181995964988142 tw2372316238265896479 tw10565331581720461035 tw850914152851005652 tw5780093628327393268 tw7659423233397707429 tw3274206476302244551 tw8054896839225284863 tw5777956098181261930 tw16135898477442251092 tw1473932310667996428 tw3988881034964405959 tw2573694866175116982 tw5717745395453038392 tw3351790849371514787 tw2101555433406155324 tw6469380970887324141 tw7987666583867914404 tw2994223870999588927 tw7405863456514027755 tw7907281565516125450 tw8150485134842318098 tw16265830912164794009 tw11563122862320017526 tw18182818302235528953 tw16655136160026186953 tw2164138310199359399 tw3659325826113425673 tw3214705325661713243 tw14013411751990081640 tw17384352273662222212 tw10701144282400403882 tw11456550314475501618 tw15043652900585725274 tw14217367464045940494 tw7644677177434481039 tw10765555262766075155 tw8429535789164256768 tw2421785565765866374 tw538904363205272572 tw18113585361907478860 tw11865873110571070124 tw9133187507408869870 tw4300178848081072300 tw15868153866652585466 tw9217922020311625471 tw14257875554750680029 tw14721059301336512534 tw9625440402058265935 tw10154960082519385311 tw16199514484127593216 tw6981030177888609709 tw16631560309236344694 tw7147273872279940692 tw10784895758333754637 tw13775462555142088971 tw6761600591891424367 tw7185294053232838325 tw7318682109213653090 tw1290622118250450028 tw13593719153980628627 tw4716539157143912629 tw17968300129438286056 tw8594235562894953674 tw652937250891814017 tw10909336959879118499 tw1007612446074150675 tw13834097843988612709 tw6796107364520998552 tw16202025582316016345 tw1918996336740231302 tw817866868446417936 tw11530803906642057516 tw2629349459684184294 tw5941202447912740880 tw2887150138483274710 tw12588705960972327493 tw9785131552399573099 tw13291592387177537027 tw3295216423538141254 tw14481060771239821949 tw5868426225374565701 tw15333523985874110145 tw14493171266053980065 tw14632280453117276166 tw3133720123407035320 tw8282188199820275400 tw7120832038533389131 tw8037704571474922261 tw13676816872814407249 tw12845508177215645312 tw1179109122976659177 tw11452250532368847383 tw1114680890385126600 tw1376809262888739280 tw3829699036388253738 tw15909746423211596283 tw18273488361000292382 tw8861070790738166609 tw4039891953801676899 tw5098449107029458160 tw10414338276800801874 tw2016978381704669474 tw8179736254385908090 tw15190092058121411071 tw17759926219449356512 tw4716219881569736410 tw935878088496194344 tw6388032912384130253 tw6367190751155473926 tw5973344604470664144 tw11863806827752992854 tw17753287611073552343 tw5157584345257622592 tw15765126614341868615 tw2815260446612278660 tw15531128108214444452 tw254704623732708379 tw17232360501068752221 tw5277039106881069546 tw8265791099131409733 tw13197195239751095577 tw9291382462689613704 tw8733688207554040534 tw624781458657050889 tw15742650480710222200 tw2783404810229532252 tw1323471959519360972 tw15939961003874259048 tw17186508370366744668 tw929365013351624938 tw8554615453260331035 tw10034307585866474886 tw13778711105172559095 tw11185258435737037442 tw1337298561408897068 tw2450815182567308230 tw13471514309766636668 tw2779597242807959530 tw11787201048950482410 tw6739429024703739935 tw9341138605021284512 tw376900100134689099 tw17088074559796804111 tw14413384343326346941 tw11573511403597233825 tw10597802041422608140 tw3091244711033376260 tw6184030326042505689 tw7615770695232644249 tw6264484091283795315 tw9824607684252657988 tw5774796991367218479 tw2696968766219000354 tw6371579331750114826 tw13402756989922792732 tw13933807096980412399 tw13629511047188252252 tw11289433171903869520 tw6887707716013768092 tw8788504920736654884 tw119912795489782226 tw9217986702505533938 tw9150956675212520949 tw4593078442439232610 tw18024265402444658602 tw41851252362355663 tw15520558432202912870 tw9702579975253553793 tw12090137631437711209 tw8709402727817156537 tw1031975567380035024 tw16377811347024212846 tw12045768540457182605 tw5019602735159833517 tw9073889935817803085 tw1327107217493278323 tw16915271996481562898 tw5114044896369601337 tw14993336131042524083 tw16669469368644839180 tw3526044352025822559 tw1143602043914566585 tw1090984696191727200 tw970099439817681999 tw12230249564021507297 tw6333060562643365849 tw3616161443274013246 tw1873012008870436281 tw16989317195553526982 tw12870700196435489789 tw2061533159142466108 tw111240988042941641 tw8811833067789053533 tw17745025014988585007 tw11311252678797585476 tw12639603519218780925 tw1965612544453292113 tw6478293727386701255 tw10691564290048461173 tw4287347627782326183 tw16088407841928459652 tw17429592363597487705 tw15834047825954653198 tw13383912515601416697 tw5042197787712328056 tw2999122710094418434 tw1436017809178688041 tw9138072665742787884 tw12379294372602928508 tw6877464741739305528 tw17723224979706492046 tw16913737520592638439 tw13547984410565509637 tw17438859610518873060 tw14960086847508978382 tw9105302657328247403 tw10091442918144591219 tw10098600343544200472 tw461274624033624423 tw835162569838605479 tw15170533142159828429 tw9056373948187342590 tw3254879984086784015 tw9128172835783735732 tw7524024360520729178 tw7472894519240845971 tw15854289315332203288 tw3167331907274920049 tw2380909212485107713 tw1308626726159106097 tw16659811547393756855 tw18424147861646559932 tw3897704888804255845 tw15107792397193685826:True)
open PySem PySem.W PyProof.Rows
set_option maxRecDepth 100000 in
set_option maxHeartbeats 0 in
theorem PySem.Challenge.cw_tafllines_s01_answers_holds : PySem.Challenge.rw_tafllines_s01_answers.Holds := by
 w_on;k_headS;(case hw=>exact⟨[.list [.int 1]],by decide +kernel,by decide +kernel⟩)
 k_fillS
 refine L2.walk_ans rfl rfl (λw h Y=>PySem.W.kIn_of Y) ?F
 case F =>
  intro w mg h KX G
  have a0:=L2.need_int (x:="ROW_STEP") (n:=13) KX G
  have a1:=L2.need_tup (x:="GROUND_SIGNS") (xs:=[.str ".",.str "S",.str "X",.str "#"]) KX G (z:=by decide) (v:=(.cons ⟨_,rfl⟩ (.cons ⟨_,rfl⟩ (.cons ⟨_,rfl⟩ (.cons ⟨_,rfl⟩ .nil)))))
  have a2:=L2.need_int (x:="PLAIN") (n:=0) KX G
  have a3:=L2.need_int (x:="SEAT") (n:=1) KX G
  have a4:=L2.need_int (x:="EXIT") (n:=2) KX G
  have a5:=L2.need_int (x:="WALL") (n:=3) KX G
  have a6:=L2.need_tup (x:="PIECE_SIGNS") (xs:=[.str ".",.str "h",.str "m",.str "K"]) KX G (z:=by decide) (v:=(.cons ⟨_,rfl⟩ (.cons ⟨_,rfl⟩ (.cons ⟨_,rfl⟩ (.cons ⟨_,rfl⟩ .nil)))))
  have a7:=L2.need_int (x:="NOBODY") (n:=0) KX G
  have a8:=L2.need_int (x:="HUNTER") (n:=1) KX G
  have a9:=L2.need_int (x:="MAN") (n:=2) KX G
  have a10:=L2.need_int (x:="KING") (n:=3) KX G
  have a11:=L2.need_fn (x:="cell_number") (st:=L2.s_cell_number) (ps:=["x","y"]) KX G L2.bd_cell_number
  have a12:=L2.need_cl (x:="Mark") (qual:="Mark.__init__") (st:=L2.s_Mark_init) (ps:=["self","place","cell","sign"]) KX G L2.bd_Mark
  have a13:=L2.need_no KX a12.m "place"
  have a14:=L2.need_no KX a12.m "cell"
  have a15:=L2.need_no KX a12.m "sign"
  have a16:=L2.need_fn (x:="may_stand") (st:=L2.s_may_stand) (ps:=["kinds","cell","piece"]) KX G L2.bd_may_stand
  have a17:=L2.need_mg (x:="RulesFault") KX G
  have a18:=L2.need_fault (qual:="RulesFault.__init__") (st:=L2.s_RulesFault) KX a17 L2.bd_RulesFault L2.scx_RulesFault rfl rfl rfl ⟨_,_,_,_,_,_,_,_,rfl⟩
  have a19:=L2.need_reads a18
  have a20:=L2.need_no KX a17 "place"
  have a21:=L2.need_mg (x:="LineFault") KX G
  have a22:=L2.need_fault (qual:="LineFault.__init__") (st:=L2.s_LineFault) KX a21 L2.bd_LineFault L2.scx_LineFault rfl rfl rfl ⟨_,_,_,_,_,_,_,_,rfl⟩
  have a23:=L2.need_reads a22
  have a24:=L2.need_no KX a21 "place"
  have a25:=L2.need_int (x:="TAKEN") (n:=255) KX G
  have a26:=L2.need_cl (x:="Position") (qual:="Position.__init__") (st:=L2.s_Position_init) (ps:=["self","hunters","men","king","side"]) KX G L2.bd_Position
  have a27:=L2.need_no KX a26.m "hunters"
  have a28:=L2.need_no KX a26.m "men"
  have a29:=L2.need_no KX a26.m "king"
  have a30:=L2.need_no KX a26.m "side"
  have a31:=L2.need_fn (x:="cells_with") (st:=L2.s_cells_with) (ps:=["marks","piece"]) KX G L2.bd_cells_with
  have a32:=L2.need_fn (x:="position_of") (st:=L2.s_position_of) (ps:=["marks","side"]) KX G L2.bd_position_of
  have a33:=L2.need_fn (x:="pieces_of") (st:=L2.s_pieces_of) (ps:=["position"]) KX G L2.bd_pieces_of
  have a34:=L2.need_fn (x:="is_right") (st:=L2.s_is_right) (ps:=["kinds","position"]) KX G L2.bd_is_right
  have a35:=L2.need_int (x:="QUIET") (n:=0) KX G
  have a36:=L2.need_int (x:="PASSED") (n:=1) KX G
  have a37:=L2.need_int (x:="EXITS") (n:=1) KX G
  have a38:=L2.need_cl (x:="Rules") (qual:="Rules.__init__") (st:=L2.s_Rules_init) (ps:=["self"]) KX G L2.bd_Rules
  have a39:=L2.need_no KX a38.m "wide"
  have a40:=L2.need_no KX a38.m "high"
  have a41:=L2.need_no KX a38.m "ground"
  have a42:=L2.need_no KX a38.m "start"
  have a43:=L2.need_no KX a38.m "kinds"
  have a44:=L2.need_no KX a38.m "first"
  have a45:=L2.need_no KX a38.m "slides"
  have a46:=L2.need_no KX a38.m "armed"
  have a47:=L2.need_no KX a38.m "four"
  have a48:=L2.need_no KX a38.m "passed"
  have a49:=L2.need_no KX a38.m "seat"
  have a50:=L2.need_no KX a38.m "exits"
  have a51:=L2.need_no KX a38.m "goal"
  have a52:=L2.need_no KX a38.m "goal_place"
  have a53:=L2.need_no KX a38.m "thrice"
  have a54:=L2.need_no KX a38.m "limit"
  have a55:=L2.need_no KX a38.m "length"
  have a56:=L2.need_fn (x:="start_of") (st:=L2.s_start_of) (ps:=["rules"]) KX G L2.bd_start_of
  have a57:=L2.need_fn (x:="marks_with") (st:=L2.s_marks_with) (ps:=["marks","sign"]) KX G L2.bd_marks_with
  have a58:=L2.need_fn (x:="is_on_edge") (st:=L2.s_is_on_edge) (ps:=["rules","cell"]) KX G L2.bd_is_on_edge
  have a59:=L2.need_fn (x:="may_begin") (st:=L2.s_may_begin) (ps:=["rules","mark"]) KX G L2.bd_may_begin
  have a60:=L2.need_fn (x:="is_goal_amiss") (st:=L2.s_is_goal_amiss) (ps:=["rules"]) KX G L2.bd_is_goal_amiss
  have a61:=L2.need_fn (x:="is_something_missing") (st:=L2.s_is_something_missing) (ps:=["rules"]) KX G L2.bd_is_something_missing
  have a62:=L2.need_fn (x:="faults_of") (st:=L2.s_faults_of) (ps:=["rules"]) KX G L2.bd_faults_of
  have a63:=L2.need_int (x:="END") (n:=-1) KX G
  have a64:=L2.need_stuck KX G
  have a65:=L2.need_fn (x:="digit_value") (st:=L2.s_digit_value) (ps:=["sign"]) KX G L2.bd_digit_value
  have a66:=L2.need_fn (x:="begins_number") (st:=L2.s_begins_number) (ps:=["value","least","most"]) KX G L2.bd_begins_number
  have a67:=L2.need_cl (x:="Scan") (qual:="Scan.__init__") (st:=L2.s_Scan_init) (ps:=["self","text"]) KX G L2.bd_Scan
  have a68:=L2.need_me (m:="ahead") (qual:="Scan.ahead") (st:=L2.s_Scan_ahead) (ps:=["self"]) KX a67.m L2.bd_Scan_ahead
  have a69:=L2.need_me (m:="go_on") (qual:="Scan.go_on") (st:=L2.s_Scan_go_on) (ps:=["self"]) KX a67.m L2.bd_Scan_go_on
  have a70:=L2.need_me (m:="take") (qual:="Scan.take") (st:=L2.s_Scan_take) (ps:=["self","word"]) KX a67.m L2.bd_Scan_take
  have a71:=L2.need_me (m:="take_one_of") (qual:="Scan.take_one_of") (st:=L2.s_Scan_take_one_of) (ps:=["self","words"]) KX a67.m L2.bd_Scan_take_one_of
  have a72:=L2.need_me (m:="take_number") (qual:="Scan.take_number") (st:=L2.s_Scan_take_number) (ps:=["self","least","most"]) KX a67.m L2.bd_Scan_take_number
  have a73:=L2.need_me (m:="take_end") (qual:="Scan.take_end") (st:=L2.s_Scan_take_end) (ps:=["self"]) KX a67.m L2.bd_Scan_take_end
  have a74:=L2.need_no KX a67.m "text"
  have a75:=L2.need_no KX a67.m "place"
  have a76:=L2.need_int (x:="LEAST_SIZE") (n:=5) KX G
  have a77:=L2.need_int (x:="MOST_SIZE") (n:=13) KX G
  have a78:=L2.need_int (x:="MOST_LIMIT") (n:=60000) KX G
  have a79:=L2.need_int (x:="LONGEST_NAME") (n:=16) KX G
  have a80:=L2.need_tup (x:="FIRST_WORDS") (xs:=[.str "hunters",.str "king"]) KX G (z:=by decide) (v:=(.cons ⟨_,rfl⟩ (.cons ⟨_,rfl⟩ .nil)))
  have a81:=L2.need_tup (x:="GAIT_WORDS") (xs:=[.str "steps",.str "slides"]) KX G (z:=by decide) (v:=(.cons ⟨_,rfl⟩ (.cons ⟨_,rfl⟩ .nil)))
  have a82:=L2.need_tup (x:="ARMS_WORDS") (xs:=[.str "bare",.str "armed"]) KX G (z:=by decide) (v:=(.cons ⟨_,rfl⟩ (.cons ⟨_,rfl⟩ .nil)))
  have a83:=L2.need_tup (x:="TAKERS_WORDS") (xs:=[.str "two",.str "four"]) KX G (z:=by decide) (v:=(.cons ⟨_,rfl⟩ (.cons ⟨_,rfl⟩ .nil)))
  have a84:=L2.need_tup (x:="WAY_WORDS") (xs:=[.str "barred",.str "passed"]) KX G (z:=by decide) (v:=(.cons ⟨_,rfl⟩ (.cons ⟨_,rfl⟩ .nil)))
  have a85:=L2.need_tup (x:="ENMITY_WORDS") (xs:=[.str "quiet",.str "hunters",.str "men",.str "all"]) KX G (z:=by decide) (v:=(.cons ⟨_,rfl⟩ (.cons ⟨_,rfl⟩ (.cons ⟨_,rfl⟩ (.cons ⟨_,rfl⟩ .nil)))))
  have a86:=L2.need_tup (x:="GOAL_WORDS") (xs:=[.str "edge",.str "exits"]) KX G (z:=by decide) (v:=(.cons ⟨_,rfl⟩ (.cons ⟨_,rfl⟩ .nil)))
  have a87:=L2.need_tup (x:="THRICE_WORDS") (xs:=[.str "drawn",.str "hunters",.str "king"]) KX G (z:=by decide) (v:=(.cons ⟨_,rfl⟩ (.cons ⟨_,rfl⟩ (.cons ⟨_,rfl⟩ .nil))))
  have a88:=L2.need_fn (x:="is_letter") (st:=L2.s_is_letter) (ps:=["sign"]) KX G L2.bd_is_letter
  have a89:=L2.need_fn (x:="take_name") (st:=L2.s_take_name) (ps:=["scan"]) KX G L2.bd_take_name
  have a90:=L2.need_fn (x:="take_rows") (st:=L2.s_take_rows) (ps:=["scan","rules","signs"]) KX G L2.bd_take_rows
  have a91:=L2.need_fn (x:="take_grounds") (st:=L2.s_take_grounds) (ps:=["scan","rules"]) KX G L2.bd_take_grounds
  have a92:=L2.need_fn (x:="take_pieces_ways") (st:=L2.s_take_pieces_ways) (ps:=["scan","rules"]) KX G L2.bd_take_pieces_ways
  have a93:=L2.need_fn (x:="take_cells_ways") (st:=L2.s_take_cells_ways) (ps:=["scan","rules"]) KX G L2.bd_take_cells_ways
  have a94:=L2.need_fn (x:="take_ends") (st:=L2.s_take_ends) (ps:=["scan","rules"]) KX G L2.bd_take_ends
  have a95:=L2.need_fn (x:="rules_of") (st:=L2.s_rules_of) (ps:=["text"]) KX G L2.bd_rules_of
  have a96:=L2.need_tup (x:="SIDE_SIGNS") (xs:=[.str "h",.str "k"]) KX G (z:=by decide) (v:=(.cons ⟨_,rfl⟩ (.cons ⟨_,rfl⟩ .nil)))
  have a97:=L2.need_fn (x:="gap_text") (st:=L2.s_gap_text) (ps:=["gap"]) KX G L2.bd_gap_text
  have a98:=L2.need_fn (x:="row_text") (st:=L2.s_row_text) (ps:=["rules","pieces","y"]) KX G L2.bd_row_text
  have a99:=L2.need_fn (x:="line_of") (st:=L2.s_line_of) (ps:=["rules","position"]) KX G L2.bd_line_of
  have a100:=L2.need_fn (x:="piece_ahead") (st:=L2.s_piece_ahead) (ps:=["scan"]) KX G L2.bd_piece_ahead
  have a101:=L2.need_fn (x:="has_king") (st:=L2.s_has_king) (ps:=["marks"]) KX G L2.bd_has_king
  have a102:=L2.need_fn (x:="take_row") (st:=L2.s_take_row) (ps:=["scan","wide","y","marks"]) KX G L2.bd_take_row
  have a103:=L2.need_fn (x:="take_board") (st:=L2.s_take_board) (ps:=["scan","rules"]) KX G L2.bd_take_board
  have a104:=L2.need_fn (x:="read_line") (st:=L2.s_read_line) (ps:=["rules","text"]) KX G L2.bd_read_line
  have a105:=L2.need_int (x:="TURNS") (n:=8) KX G
  have a106:=L2.need_int (x:="QUARTERS") (n:=4) KX G
  have a107:=L2.need_fn (x:="turned_cell") (st:=L2.s_turned_cell) (ps:=["rules","cell","turn"]) KX G L2.bd_turned_cell
  have a108:=L2.need_fn (x:="keeps_size") (st:=L2.s_keeps_size) (ps:=["rules","turn"]) KX G L2.bd_keeps_size
  have a109:=L2.need_fn (x:="fits") (st:=L2.s_fits) (ps:=["rules","turn"]) KX G L2.bd_fits
  have a110:=L2.need_fn (x:="fitting_turns") (st:=L2.s_fitting_turns) (ps:=["rules"]) KX G L2.bd_fitting_turns
  have a111:=L2.need_fn (x:="turned_cells") (st:=L2.s_turned_cells) (ps:=["rules","cells","turn"]) KX G L2.bd_turned_cells
  have a112:=L2.need_fn (x:="turned") (st:=L2.s_turned) (ps:=["rules","position","turn"]) KX G L2.bd_turned
  have a113:=L2.need_fn (x:="highest_first") (st:=L2.s_highest_first) (ps:=["cells"]) KX G L2.bd_highest_first
  have a114:=L2.need_fn (x:="rank") (st:=L2.s_rank) (ps:=["position"]) KX G L2.bd_rank
  have a115:=L2.need_fn (x:="least_turn") (st:=L2.s_least_turn) (ps:=["rules","position"]) KX G L2.bd_least_turn
  have a116:=L2.need_fn (x:="are_alike") (st:=L2.s_are_alike) (ps:=["rules","position","other"]) KX G L2.bd_are_alike
  have a117:=L2.need_int (x:="RULES") (n:=0) KX G
  have a118:=L2.need_int (x:="BEGIN") (n:=1) KX G
  have a119:=L2.need_int (x:="READ") (n:=2) KX G
  have a120:=L2.need_int (x:="WRITE") (n:=3) KX G
  have a121:=L2.need_int (x:="TURN") (n:=4) KX G
  have a122:=L2.need_int (x:="LEAST") (n:=5) KX G
  have a123:=L2.need_tup (x:="NUMBERS_OF_CALLS") (xs:=[.int 0,.int 0,.int 0,.int 2,.int 1,.int 0,.int 0]) KX G (z:=by decide) (v:=(.cons ⟨_,rfl⟩ (.cons ⟨_,rfl⟩ (.cons ⟨_,rfl⟩ (.cons ⟨_,rfl⟩ (.cons ⟨_,rfl⟩ (.cons ⟨_,rfl⟩ (.cons ⟨_,rfl⟩ .nil))))))))
  have a124:=L2.need_tup (x:="ROWS_OF_CALLS") (xs:=[.int 1,.int 0,.int 1,.int 2,.int 1,.int 1,.int 2]) KX G (z:=by decide) (v:=(.cons ⟨_,rfl⟩ (.cons ⟨_,rfl⟩ (.cons ⟨_,rfl⟩ (.cons ⟨_,rfl⟩ (.cons ⟨_,rfl⟩ (.cons ⟨_,rfl⟩ (.cons ⟨_,rfl⟩ .nil))))))))
  have a125:=L2.need_int (x:="NO_FITTING_TURN") (n:=-2) KX G
  have a126:=L2.need_int (x:="NO_RULES") (n:=-3) KX G
  have a127:=L2.need_int (x:="LINE_FAULT") (n:=-5) KX G
  have a128:=L2.need_int (x:="RULES_FAULT") (n:=-6) KX G
  have a129:=L2.need_int (x:="NOT_RIGHT") (n:=-8) KX G
  have a130:=L2.need_cl (x:="Hall") (qual:="Hall.__init__") (st:=L2.s_Hall_init) (ps:=["self"]) KX G L2.bd_Hall
  have a131:=L2.need_no KX a130.m "rules"
  have a132:=L2.need_cl (x:="Feed") (qual:="Feed.__init__") (st:=L2.s_Feed_init) (ps:=["self","calls"]) KX G L2.bd_Feed
  have a133:=L2.need_me (m:="has_more") (qual:="Feed.has_more") (st:=L2.s_Feed_has_more) (ps:=["self"]) KX a132.m L2.bd_Feed_has_more
  have a134:=L2.need_me (m:="take_number") (qual:="Feed.take_number") (st:=L2.s_Feed_take_number) (ps:=["self"]) KX a132.m L2.bd_Feed_take_number
  have a135:=L2.need_me (m:="take_numbers") (qual:="Feed.take_numbers") (st:=L2.s_Feed_take_numbers) (ps:=["self","many"]) KX a132.m L2.bd_Feed_take_numbers
  have a136:=L2.need_me (m:="take_rows") (qual:="Feed.take_rows") (st:=L2.s_Feed_take_rows) (ps:=["self","many"]) KX a132.m L2.bd_Feed_take_rows
  have a137:=L2.need_no KX a132.m "calls"
  have a138:=L2.need_no KX a132.m "used"
  have a139:=L2.need_fn (x:="with_length") (st:=L2.s_with_length) (ps:=["row"]) KX G L2.bd_with_length
  have a140:=L2.need_fn (x:="answer_rules") (st:=L2.s_answer_rules) (ps:=["hall","text"]) KX G L2.bd_answer_rules
  have a141:=L2.need_fn (x:="answer_begin") (st:=L2.s_answer_begin) (ps:=["rules"]) KX G L2.bd_answer_begin
  have a142:=L2.need_fn (x:="answer_read") (st:=L2.s_answer_read) (ps:=["rules","text"]) KX G L2.bd_answer_read
  have a143:=L2.need_fn (x:="is_rising") (st:=L2.s_is_rising) (ps:=["cells"]) KX G L2.bd_is_rising
  have a144:=L2.need_fn (x:="answer_write") (st:=L2.s_answer_write) (ps:=["rules","position"]) KX G L2.bd_answer_write
  have a145:=L2.need_fn (x:="answer_turn") (st:=L2.s_answer_turn) (ps:=["rules","text","turn"]) KX G L2.bd_answer_turn
  have a146:=L2.need_fn (x:="answer_least") (st:=L2.s_answer_least) (ps:=["rules","text"]) KX G L2.bd_answer_least
  have a147:=L2.need_fn (x:="answer_alike") (st:=L2.s_answer_alike) (ps:=["rules","text","other_text"]) KX G L2.bd_answer_alike
  have a148:=L2.need_fn (x:="answer_by_rules") (st:=L2.s_answer_by_rules) (ps:=["rules","call","numbers","rows"]) KX G L2.bd_answer_by_rules
  have a149:=L2.need_fn (x:="answer_call") (st:=L2.s_answer_call) (ps:=["hall","call","numbers","rows"]) KX G L2.bd_answer_call
  have a150:=L2.need_fn (x:="answers") (st:=L2.s_answers) (ps:=["calls"]) KX G L2.bd_answers
  have a151:=L2.need_none (x:="len") KX G
  have a152:=L2.need_none (x:="range") KX G
  have a153:=L2.need_none (x:="ord") KX G
  have a154:=L2.need_none (x:="sorted") KX G
  have a155:=L2.need_none (x:="min") KX G
  have a156:=L2.need_none (x:="dict") KX G
  have a157:=L2.need_none (x:="list") KX G
  have a158:=L2.need_none (x:="str") KX G
  have a159:=L2.need_none (x:="enumerate") KX G
  exact⟨⟨_,_,_,_,_,_,_,_,_,_,_,_,_,_,_,_,_,_,_,_,_,_,_,_,_,_,_,_,_,_,_,_,_,_,_,_,_,_,_,_,_,_,_,_,_,_,_,_,_,_,_,_,_,_,_,_,_,_,_,_,_,_,_,_,_,_,_,_,_,_,_,_,_,_,_,_,_,_,_,_,_,_,_,_,_,_,_,_,_,_,_,_,_,_,_,_,_,_,_,_,_,_,_,_,_,_,_,_,_,_,_,_,_,_,_,_,_,_,_,_,_,_,_,_,_,_,_,_,_,_,_,_,_,_,_,_,_,_,_,_,_,_,_,_,_,_,_,_,_,_,_,_,_,_,_,_,_,_,_,_,_,_,_,_,_,_⟩,⟨a0,a1,a2,a3,a4,a5,a6,a7,a8,a9,a10,a11,a12,a13,a14,a15,a16,a18,a17,a19,a20,a22,a21,a23,a24,a25,a26,a27,a28,a29,a30,a31,a32,a33,a34,a35,a36,a37,a38,a39,a40,a41,a42,a43,a44,a45,a46,a47,a48,a49,a50,a51,a52,a53,a54,a55,a56,a57,a58,a59,a60,a61,a62,a63,a64,a65,a66,a67,a68,a69,a70,a71,a72,a73,a74,a75,a76,a77,a78,a79,a80,a81,a82,a83,a84,a85,a86,a87,a88,a89,a90,a91,a92,a93,a94,a95,a96,a97,a98,a99,a100,a101,a102,a103,a104,a105,a106,a107,a108,a109,a110,a111,a112,a113,a114,a115,a116,a117,a118,a119,a120,a121,a122,a123,a124,a125,a126,a127,a128,a129,a130,a131,a132,a133,a134,a135,a136,a137,a138,a139,a140,a141,a142,a143,a144,a145,a146,a147,a148,a149,a150,a151,a152,a153,a154,a155,a156,a157,a158,a159⟩⟩
