import PyProof.Rows.All
import Wide.All
import OpenK.AllK
import Wide.FinOn
import Lean
import PyProof.EqAt
import PyProof.EqKinds
import PyProof.TupleCall
import PyProof.Draws
import PyProof.ZipIter
import PyProof.EnumMake
import PyProof.AttrMissHeap
import KE.KDictOf
import PyProof.Rows.SeqMore2
import PyProof.Rows.SortWalk
import KE.KTryMore
import PyProof.RulesAs
import PyProof.NsDelKeeps
import KE.KIsAll
import PyProof.ExcArgs
import PySem.Challenge.RW_rotstacks_k17_lost_by
set_option Elab.async false
set_option linter.all false
set_option maxRecDepth 100000
set_option maxHeartbeats 0
namespace PySem.W.Fast
def tw16532565388948089689:=()
def tw13184622150755146257:=()
def tw1958812399754551417:=()
def tw283888789339259811:=()
def tw18119305135541471840:=()
def tw7311352188916567352:=()
def tw13413012072783188425:=()
def tw14375272207224854766:=()
def tw16617488632556207682:=()
def tw6477365874012748010:=()
def tw16024187432180936261:=()
def tw3805822162775641158:=()
def tw6817870253097453358:=()
def tw779350169039710691:=()
def tw194076974560581482:=()
def tw8447859378991008473:=()
def tw2887497143429458896:=()
def tw15359102603107413231:=()
def tw10720492821938749597:=()
def tw160515924792221441:=()
def tw16518523057615377998:=()
def tw15240120426040654831:=()
def tw6483710568601462799:=()
def tw15000956054734075524:=()
def tw17476442995050907689:=()
def tw13683434264503386862:=()
def tw4895425382642465790:=()
def tw11107025484727484937:=()
def tw6575696889947136818:=()
def tw6789358147626481695:=()
def tw14584273011410283914:=()
def tw8673768796487304101:=()
def tw5319112565099122083:=()
def tw7985922588008975198:=()
def tw8650942574779941735:=()
def tw376282128521360056:=()
def tw6234770597989658950:=()
def tw1793077892371337728:=()
def tw9647152647119947439:=()
def tw17657989423259337251:=()
def tw12331503753817566205:=()
def tw6856020910700010242:=()
def tw15442390522309992127:=()
def tw7027161504191823226:=()
def tw3395619181125870966:=()
def tw15891880329304377277:=()
def tw15233186442932194513:=()
def tw1758037721555072338:=()
def tw8208403822616478352:=()
def tw13512762513122950774:=()
def tw6136188396591149831:=()
def tw17493926111213347753:=()
def tw4640121707264635043:=()
def tw9709823775400513588:=()
def tw11344129987273314008:=()
def tw15966859186234247366:=()
def tw6163023441807191163:=()
def tw15594794917597159775:=()
def tw6421166545667665207:=()
def tw11114441641902549053:=()
def tw16143509766960596408:=()
def tw10299767521531412719:=()
def tw17939931134883705296:=()
def tw7181237599863947838:=()
def tw6104453331478382150:=()
def tw1068850449943967769:=()
def tw7402376978453233549:=()
def tw7725012626891826632:=()
def tw12844784714904776382:=()
end PySem.W.Fast
open_top headO for PySem.Challenge.rw_rotstacks_k17_lost_by
noncomputable section
namespace L2
open PySem PySem.Spec PyProof.Rows
abbrev Key:=Sum Int Str
def zlg:Key->Value->Bool
 | .inl k,v=>Value.isInt k v
 | .inr x,v=>Value.isStrOf x v
def keyH(w:World):Key->Int
 | .inl k=>hashInt k
 | .inr x=>hashStr w x
theorem zap:∀ {k:Key} {v:Value},zlg k v=true->(∃i t,k=Sum.inl i/\v=Value.int i t)\/(∃x t,k=Sum.inr x/\v=Value.str x t)
 | .inl i,v,h=>by
   obtain⟨t,e⟩:=Value.isInt_shape (k:=i) (v:=v) h
   exact .inl ⟨i,t,rfl,e⟩
 | .inr x,v,h=>by
   obtain⟨t,e⟩:=Value.isStrOf_shape (x:=x) (v:=v) h
   exact .inr ⟨x,t,rfl,e⟩
theorem zlh(a b:Int):decide ((Sum.inl a:Key)=Sum.inl b)=(a==b):=by
 by_cases e:a=b
 ·subst e;simp
 ·have h:¬(Sum.inl a:Key)=Sum.inl b:=fun q=>e (Sum.inl.inj q)
  rw[decide_eq_false h]
  exact(beq_eq_false_iff_ne.mpr e).symm
theorem zli(a b:Str):decide ((Sum.inr a:Key)=Sum.inr b)=decide (a=b):=by
 by_cases e:a=b
 ·subst e;simp
 ·have h:¬(Sum.inr a:Key)=Sum.inr b:=fun q=>e (Sum.inr.inj q)
  rw[decide_eq_false h,decide_eq_false e]
theorem zlj(a:Int)(b:Str):decide ((Sum.inl a:Key)=Sum.inr b)=false:=decide_eq_false (fun q=>nomatch q)
theorem zlk(a:Str)(b:Int):decide ((Sum.inr a:Key)=Sum.inl b)=false:=decide_eq_false (fun q=>nomatch q)
def zgf(prog:Program)(w:World):PySem.KeyKind prog w Key where
 is:=zlg
 hash:=keyH w
 inj:=fun v a b ha hb=>by
  rcases zap ha with⟨i,t,rfl,rfl⟩ | ⟨x,t,rfl,rfl⟩
  ·rcases zap hb with⟨j,u,rfl,e⟩ | ⟨y,u,rfl,e⟩
   ·injection e with e1 _;rw[e1]
   ·exact nomatch e
  ·rcases zap hb with⟨j,u,rfl,e⟩ | ⟨y,u,rfl,e⟩
   ·exact nomatch e
   ·injection e with e1 _;rw[e1]
 byValue:=fun k v h=>by
  rcases zap h with⟨i,t,rfl,rfl⟩ | ⟨x,t,rfl,rfl⟩ <;> rfl
 pyHash:=fun hv h=>by
  rcases zap hv with⟨i,t,rfl,rfl⟩ | ⟨x,t,rfl,rfl⟩
  ·exact wpAny_pyHash_int h
  ·exact wpAny_pyHash_str h
 eqBool:=fun hu hv h=>by
  rcases zap hu with⟨i,t,rfl,rfl⟩ | ⟨x,t,rfl,rfl⟩
  ·rcases zap hv with⟨j,u,rfl,rfl⟩ | ⟨y,u,rfl,rfl⟩
   ·rw[zlh] at h;exact wpAny_eqBool_int h
   ·rw[zlj] at h;exact SeqAt.EqAt.int_str i t y u _ _ _ _ h
  ·rcases zap hv with⟨j,u,rfl,rfl⟩ | ⟨y,u,rfl,rfl⟩
   ·rw[zlk] at h;exact SeqAt.EqAt.str_int x t j u _ _ _ _ h
   ·rw[zli] at h;exact wpAny_eqBool_str h
 «strs»:=fun k x t v h=>by
  rcases zap h with⟨i,u,rfl,e⟩ | ⟨y,u,rfl,e⟩
  ·exact nomatch e
  ·injection e with e1 _
   subst e1
   cases v <;> rfl
inductive V where
 | non | bl (b:Bool) | int (i:Int) | str (x:Str) | byt (b:Array UInt8) | flt (b:UInt64) | ref (a:Addr) | ty (n:String)
 deriving DecidableEq
def RelV:V->Value->Prop
 | .non,u=>u=Value.none
 | .bl b,u=>u=Value.bool b
 | .int i,u=>∃t,u=Value.int i t
 | .str x,u=>∃t,u=Value.str x t
 | .byt b,u=>∃t,u=Value.bytes b t
 | .flt b,u=>∃t,u=Value.float b t
 | .ref a,u=>u=Value.ref a
 | .ty n,u=>u=Value.type n
abbrev Vals:List V->List Value->Prop:=Paired RelV
theorem Vals.length{xs:List V}{us:List Value}(r:Vals xs us):xs.length=us.length:=Paired.length r
theorem Vals.get:∀ {xs:List V} {us:List Value} {i:Nat} {x:V},Vals xs us->xs[i]?=some x->∃u,us[i]?=some u/\RelV x u
 | _,_,_,_,.nil,e=>by simp at e
 | _,_,0,_,.cons r _,e=>by simp at e;subst e;exact⟨_,rfl,r⟩
 | _,_,i+1,x,.cons _ t,e=>by
   obtain⟨u,h1,h2⟩:=Vals.get (i:=i) (x:=x) t (by simpa using e)
   exact⟨u,by simpa using h1,h2⟩
theorem Vals.set{x:V}{u:Value}(r:RelV x u):∀ {xs:List V} {us:List Value} (i:Nat),Vals xs us->Vals (xs.set i x) (us.set i u)
 | _,_,_,.nil=>.nil
 | _,_,0,.cons _ t=>.cons r t
 | _,_,i+1,.cons q t=>.cons q (Vals.set r i t)
theorem Vals.append:∀ {xs ys:List V} {us ws:List Value},Vals xs us->Vals ys ws->Vals (xs++ys) (us++ws)
 | _,_,_,_,.nil,s=>s
 | _,_,_,_,.cons r t,s=>.cons r (Vals.append t s)
theorem Vals.take:∀ {xs:List V} {us:List Value} (n:Nat),Vals xs us->Vals (xs.take n) (us.take n)
 | _,_,0,_=>.nil
 | _,_,_+1,.nil=>.nil
 | _,_,n+1,.cons r t=>.cons r (Vals.take n t)
theorem Vals.drop:∀ {xs:List V} {us:List Value} (n:Nat),Vals xs us->Vals (xs.drop n) (us.drop n)
 | _,_,0,r=>r
 | _,_,_+1,.nil=>.nil
 | _,_,n+1,.cons _ t=>Vals.drop n t
def RelO:Option V->Option Value->Prop
 | some v,some u=>RelV v u
 | none,none=>True
 | _,_=>False
def KV{κ:Type}:List (κ×V)->List (κ×Value)->Prop:=Paired fun(p:κ×V) (q:κ×Value)=>p.1=q.1/\RelV p.2 q.2
def kV:Key->V
 | .inl i=>.int i
 | .inr x=>.str x
inductive HO where
 | lst (xs:List V)
 | tup (xs:List V)
 | dK (kvs:List (Key×V)) | dT (kvs:List (List Key×V))
 | set (S:Int->Bool) (n:Nat)
 | ins (C dx:Addr) (fs:List (Str×V))
 | own (x:Addr)
 | xd (fs:List (Str×V))
 | met (f x:Addr)
 | rng (lo hi:Int)
 | frz (o:Obj) (u:HO)
 | tbl (ps:Array Value)
 | ext (φ:Heap->Prop)
abbrev Hp:=Addr->Option HO
def upd(H:Hp)(a:Addr)(o:HO):Hp:=fun b=>if b=a then some o else H b
variable{H:Hp}{a:Addr}{o:HO}
theorem zbc:upd H a o a=some o:=by unfold upd;rw[if_pos rfl]
variable{b:Addr}
theorem zal(h:b≠a):upd H a o b=H b:=by unfold upd;rw[if_neg h]
theorem zbn(h:H a=some o)(h':H b=none):a≠b:=by
 intro e;subst e;rw[h] at h';cases h'
section
variable (P:Program) (w:World)
def ObjOk(H:Hp)(h:Heap)(a:Addr):HO->Prop
 | .lst xs=>xs.length<=sizeLine/\∃(its:List Value) (n:Nat),Vals xs its/\h.get? a=some { cls:=.type "list",data:=.seq its.toArray n }
 | .tup xs=>xs.length<=sizeLine/\∃its:List Value,Vals xs its/\IsTup h a its.toArray
 | .dK kvs=>kvs.length<=sizeLine/\(a==sysModules)=false/\∃vs,KV kvs vs/\h.DictOf (zgf P w) a vs
 | .dT kvs=>kvs.length<=sizeLine/\(a==sysModules)=false/\∃xs:List (List Key×Addr×Value),
    Paired (fun(p:List Key×V) (q:List Key×Addr×Value)=>p.1=q.1/\H q.2.1=some (.tup (p.1.map kV))/\RelV p.2 q.2.2) kvs xs /\
    ∃o es ep,h.get? a=some o/\o.ExactDict/\o.data=.dict es ep/\es.toList=xs.map (entryOfKey (tupleKind (zgf P w)))/\(xs.map (·.1)).Nodup
 | .set S n=>h.SetOf (intKind P w) a S n
 | .ins C dx fs=>H dx=some (.own a)/\fs.length<=1000/\dx≠a/\h.get? a=some (PySem.W.instObj C dx) /\
    ∃mA,h.Ns1 dx mA/\(∀f,RelO (fs.lookup f) (mA f))/\PySem.Within mA (fs.map (·.1))
 | .own _=>∃o,h.get? a=some o
 | .xd fs=>∃mA,h.Ns1 a mA/\∀f,RelO (fs.lookup f) (mA f)
 | .rng lo hi=>∃t u v,h.get? a=some { cls:=.type "range",data:=.fields #[.int lo t,.int hi u,.int 1 v] }
 | .frz o u=>h.get? a=some o/\ObjOk H h a u
 | .tbl ps=>h.get? a=some { cls:=.none,data:=.fields ps }
 | .met f x=>h.get? a=some (PySem.W.methodObj (.ref f) (.ref x))
 | .ext φ=>φ h/\(∃o,h.get? a=some o)/\∀h1 h2:Heap,φ h1->(∀o,h1.get? a=some o->h2.get? a=some o)->φ h2
def HOk(H:Hp)(h:Heap):Prop:=∀a o,H a=some o->ObjOk P w H h a o
end
variable{P:Program}{w:World}{h:Heap}
theorem ObjOk.lt(x:ObjOk P w H h a o):a<h.objs.size:=by
 cases o with
 | lst xs=>obtain⟨_,_,_,_,e⟩:=x;exact Heap.lt_size e
 | tup xs=>obtain⟨_,_,_,p⟩:=x;exact p.lt
 | dK kvs=>obtain⟨_,_,_,_,o,_,_,e,_⟩:=x;exact Heap.lt_size e
 | dT kvs=>obtain⟨_,_,_,_,o,_,_,e,_⟩:=x;exact Heap.lt_size e
 | set S n=>obtain⟨o,_,_,_,e,_⟩:=x;exact Heap.lt_size e
 | ins C dx fs=>obtain⟨_,_,_,e,_⟩:=x;exact Heap.lt_size e
 | own y=>obtain⟨_,e⟩:=x;exact Heap.lt_size e
 | xd fs=>obtain⟨_,⟨_,_,_,e,_⟩,_⟩:=x;exact Heap.lt_size e
 | rng lo hi=>obtain⟨_,_,_,e⟩:=x;exact Heap.lt_size e
 | frz ob u=>obtain⟨e,_⟩:=x;exact Heap.lt_size e
 | tbl ps=>exact Heap.lt_size (show h.get? a=some _ from x)
 | met f y=>exact Heap.lt_size (show h.get? a=some _ from x)
 | ext φ=>obtain⟨_,⟨_,e⟩,_⟩:=x;exact Heap.lt_size e
theorem Paired.mapP{α β:Type}{F G:α->β->Prop}:∀ {l₁:List α} {l₂:List β},Paired F l₁ l₂->(∀a b,F a b->G a b)->Paired G l₁ l₂
 | _,_,.nil,_=>.nil
 | _,_,.cons r t,f=>.cons (f _ _ r) (Paired.mapP t f)
variable{H':Hp}{h':Heap}
theorem ObjOk.stay(x:ObjOk P w H h a o)(k:∀b u,(b=a\/H b=some (.own a))->h.get? b=some u->h'.get? b=some u)(ho:∀b,H b=some (.own a)->H' b=some (.own a))(ht:∀b xs,H b=some (.tup xs)->H' b=some (.tup xs)):ObjOk P w H' h' a o:=by
 induction o with
 | lst xs=>obtain⟨z,its,n,r,e⟩:=x;exact⟨z,its,n,r,k _ _ (.inl rfl) e⟩
 | tup xs=>obtain⟨z,its,r,ob,e,c⟩:=x;exact⟨z,its,r,ob,k _ _ (.inl rfl) e,c⟩
 | dK kvs=>obtain⟨z,y,vs,r,ob,es,ep,e,c⟩:=x;exact⟨z,y,vs,r,ob,es,ep,k _ _ (.inl rfl) e,c⟩
 | dT kvs =>
   obtain⟨z,y,xs,r,ob,es,ep,e,c⟩:=x
   exact⟨z,y,xs,Paired.mapP r fun p q z=>⟨z.1,ht _ _ z.2.1,z.2.2⟩,ob,es,ep,k _ _ (.inl rfl) e,c⟩
 | set S n=>obtain⟨ob,es,ep,t,e,c⟩:=x;exact⟨ob,es,ep,t,k _ _ (.inl rfl) e,c⟩
 | ins C dx fs =>
   obtain⟨d,z,ne,e,mA,⟨od,es,ep,e2,c⟩,r⟩:=x
   exact⟨ho _ d,z,ne,k _ _ (.inl rfl) e,mA,⟨od,es,ep,k _ _ (.inr d) e2,c⟩,r⟩
 | own y=>obtain⟨ob,e⟩:=x;exact⟨ob,k _ _ (.inl rfl) e⟩
 | xd fs=>obtain⟨mA,⟨od,es,ep,e,c⟩,r⟩:=x;exact⟨mA,⟨od,es,ep,k _ _ (.inl rfl) e,c⟩,r⟩
 | rng lo hi=>obtain⟨t,u,v,e⟩:=x;exact⟨t,u,v,k _ _ (.inl rfl) e⟩
 | frz ob u ih=>obtain⟨e,q⟩:=x;exact⟨k _ _ (.inl rfl) e,ih q⟩
 | tbl ps =>
   have e:h.get? a=some { cls:=.none,data:=.fields ps }:=x
   show h'.get? a=some { cls:=.none,data:=.fields ps }
   exact k a _ (.inl rfl) e
 | met f y =>
   have e:h.get? a=some (PySem.W.methodObj (.ref f) (.ref y)):=x
   show h'.get? a=some (PySem.W.methodObj (.ref f) (.ref y))
   exact k a _ (.inl rfl) e
 | ext φ=>obtain⟨p,⟨o,e⟩,st⟩:=x;exact⟨st _ _ p fun o q=>k _ _ (.inl rfl) q,⟨o,k _ _ (.inl rfl) e⟩,st⟩
theorem HOk.lt(x:HOk P w H h)(e:H a=some o):a<h.objs.size:=(x a o e).lt
theorem HOk.fresh(x:HOk P w H h)(e:h.objs.size<=a):H a=none:=by
 cases q:H a with
 | none=>rfl
 | some u=>exact absurd (Nat.lt_of_lt_of_le (x.lt q) e) (Nat.lt_irrefl _)
theorem HOk.kept(x:HOk P w H h)(k:∀b u,h.get? b=some u->h'.get? b=some u):HOk P w H h':=fun a o e =>
 (x a o e).stay (fun b u _ q=>k b u q) (fun _ q=>q) fun _ _ q=>q
theorem HOk.laid(x:HOk P w H h)(k:∀b u,h.get? b=some u->h'.get? b=some u)(hp:h.objs.size<=a)(new:ObjOk P w (upd H a o) h' a o):HOk P w (upd H a o) h':=fun b u e=>by
 have hn:=x.fresh hp
 by_cases hb:b=a
 ·subst hb;rw[zbc] at e;cases e;exact new
 ·rw[zal hb] at e
  exact(x b u e).stay (fun c v _ q=>k c v q) (fun c q=>by rw[zal (zbn q hn)];exact q) fun c xs q=>by rw[zal (zbn q hn)];exact q
def Rd(H:Hp)(a:Addr)(u:HO):Prop:=H a=some u\/∃o,H a=some (.frz o u)
variable{u:HO}
theorem Rd.of(h:H a=some u):Rd H a u:=.inl h
theorem Rd.ok(r:Rd H a u)(x:HOk P w H h):ObjOk P w H h a u:=by
 rcases r with r | ⟨o,r⟩
 ·exact x a u r
 ·obtain⟨_,q⟩:=x a _ r
  exact q
def Mut:Option HO->Prop
 | some (.lst _)=>True
 | some (.dK _)=>True
 | some (.dT _)=>True
 | some (.set _ _)=>True
 | some (.ins _ _ _)=>True
 | some (.ext _)=>True
 | _=>False
variable{x e:Addr}{o':HO}
theorem HOk.write(ok:HOk P w H h)(mu:Mut (H x))(he:e=x\/H e=some (.own x))(k:∀b u,b≠e->h.get? b=some u->h'.get? b=some u)(heo:∃u,h'.get? e=some u)(new:ObjOk P w (upd H x o') h' x o'):HOk P w (upd H x o') h':=fun b u q=>by
 have nown:∀c y,H c=some (.own y)->c≠x:=fun c y r z=>by subst z;rw[r] at mu;exact mu
 have ntup:∀c xs,H c=some (.tup xs)->c≠x:=fun c xs r z=>by subst z;rw[r] at mu;exact mu
 by_cases hb:b=x
 ·subst hb;rw[zbc] at q;cases q;exact new
 ·rw[zal hb] at q
  by_cases hbe:b=e
  ·have q':H b=some (.own x):=by
    rcases he with z | z
    ·exact absurd (hbe.trans z) hb
    ·rw[hbe];exact z
   rw[q] at q';cases q'
   obtain⟨v,hv⟩:=heo
   exact⟨v,by rw[hbe];exact hv⟩
  ·refine(ok b u q).stay (fun c v hc r=>k c v ?_ r) (fun c r=>by rw[zal (nown c b r)];exact r) fun c xs r=>by rw[zal (ntup c xs r)];exact r
   rcases hc with rfl | hc
   ·exact hbe
   ·rintro rfl
    rcases he with z | z
    ·exact nown c b hc z
    ·rw[hc] at z;cases z;exact hb rfl
structure Un (fs ex:List Addr) (H H':Hp) (h h':Heap):Prop where
 keep:∀b o,h.get? b=some o->H b=none->b∉fs->b∉ex->h'.get? b=some o
 slot:∀b o,h.get? b=some o->H b=none->b∈fs->b∉ex->∃sl,h'.get? b=some { o with slots:=sl }
 free:∀b o,h.get? b=some o->H b=none->b∉ex->H' b=none
 there:∀b o,h.get? b=some o->b∉ex->∃o',h'.get? b=some o'
 tups:∀b xs,H b=some (.tup xs)->H' b=some (.tup xs)
 frzs:∀b o u,H b=some (.frz o u)->H' b=some (.frz o u)
 tbls:∀b ps,H b=some (.tbl ps)->∃more,H' b=some (.tbl (ps++more))
variable{fs ex:List Addr}{H1:Hp}{h1:Heap}
theorem Un.any(u:Un fs ex H H1 h h1){ob:Obj}(q:h.get? b=some ob)(n:H b=none)(hx:b∉ex):∃sl,h1.get? b=some { ob with slots:=sl }:=by
 by_cases hb:b∈fs
 ·exact u.slot b ob q n hb hx
 ·exact⟨ob.slots,u.keep b ob q n hb hx⟩
variable{H2:Hp}{h2:Heap}
theorem Un.trans(a:Un fs ex H H1 h h1)(b:Un fs ex H1 H2 h1 h2):Un fs ex H H2 h h2 where
 keep:=fun c ob q n hc hx=>b.keep c ob (a.keep c ob q n hc hx) (a.free c ob q n hx) hc hx
 slot:=fun c ob q n hc hx=>by
  obtain⟨sl,e1⟩:=a.slot c ob q n hc hx
  obtain⟨sl',e2⟩:=b.slot c _ e1 (a.free c ob q n hx) hc hx
  exact⟨sl',e2⟩
 free:=fun c ob q n hx=>by
  obtain⟨o',e1⟩:=a.there c ob q hx
  exact b.free c o' e1 (a.free c ob q n hx) hx
 there:=fun c ob q hx=>by
  obtain⟨o',e1⟩:=a.there c ob q hx
  exact b.there c o' e1 hx
 tups:=fun c xs q=>b.tups c xs (a.tups c xs q)
 frzs:=fun c ob xs q=>b.frzs c ob xs (a.frzs c ob xs q)
 tbls:=fun c ps q=>by
  obtain⟨m1,e1⟩:=a.tbls c ps q
  obtain⟨m2,e2⟩:=b.tbls c _ e1
  exact⟨m1++m2,by rw[e2,Array.append_assoc]⟩
theorem Un.kept(k:∀b u,h.get? b=some u->h'.get? b=some u):Un fs ex H H h h' :=
 ⟨fun b ob q _ _ _=>k b ob q,fun b ob q _ _ _=>⟨ob.slots,k b ob q⟩,fun _ _ _ n _=>n,fun b ob q _=>⟨ob,k b ob q⟩,fun _ _ q=>q,fun _ _ _ q=>q,fun _ ps q=>⟨#[],by rw[q];simp⟩⟩
theorem Un.refl:Un fs ex H H h h:=Un.kept fun _ _ q=>q
theorem Un.laid(k:∀b u,h.get? b=some u->h'.get? b=some u)(hp:h.objs.size<=a)(hn:H a=none):Un fs ex H (upd H a o) h h' where
 keep:=fun b u q _ _ _=>k b u q
 slot:=fun b u q _ _ _=>⟨u.slots,k b u q⟩
 free:=fun b u q n _=>by rw[zal (Nat.ne_of_lt (Nat.lt_of_lt_of_le (Heap.lt_size q) hp))];exact n
 there:=fun b u q _=>⟨u,k b u q⟩
 tups:=fun b xs q=>by rw[zal (zbn q hn)];exact q
 frzs:=fun b u xs q=>by rw[zal (zbn q hn)];exact q
 tbls:=fun b ps q=>⟨#[],by rw[zal (zbn q hn),q];simp⟩
theorem Un.write(mu:Mut (H x))(he:e=x\/H e=some (.own x))(k:∀b u,b≠e->h.get? b=some u->h'.get? b=some u)(heo:∃u,h'.get? e=some u):Un fs ex H (upd H x o) h h':=by
 have hx:∀b,H b=none->b≠x:=fun b n z=>by subst z;rw[n] at mu;exact mu
 have hb:∀b,H b=none->b≠e:=fun b n z=>by
  subst z
  rcases he with r | r
  ·exact hx b n r
  ·rw[n] at r;cases r
 have hm:∀b u,H b=some u->¬Mut (some u)->b≠x:=fun b u q nm z=>by subst z;rw[q] at mu;exact nm mu
 refine⟨fun b u q n _ _=>k b u (hb b n) q,fun b u q n _ _=>⟨u.slots,k b u (hb b n) q⟩,fun b u q n _=>by rw[zal (hx b n)];exact n,fun b u q _=>?_,
  fun b xs q=>by rw[zal (hm b _ q fun z=>z)];exact q,fun b u xs q=>by rw[zal (hm b _ q fun z=>z)];exact q,fun b ps q=>⟨#[],by rw[zal (hm b _ q fun z=>z),q];simp⟩⟩
 by_cases hbe:b=e
 ·subst hbe;exact heo
 ·exact⟨u,k b u hbe q⟩
variable{fs' ex':List Addr}
theorem Un.mono(u:Un fs ex H H1 h h1)(hs:∀b∈fs,b∈fs')(hx:∀b∈ex,b∈ex'):Un fs' ex' H H1 h h1 :=
 ⟨fun b ob q n hb he=>u.keep b ob q n (fun z=>hb (hs b z)) fun z=>he (hx b z),fun _ _ q n _ he=>u.any q n fun z=>he (hx _ z),fun b ob q n he=>u.free b ob q n fun z=>he (hx b z),fun b ob q he=>u.there b ob q fun z=>he (hx b z),u.tups,u.frzs,u.tbls⟩
def trk(h:Heap)(H:Hp):List Addr:=(List.range h.objs.size).filter fun a=>(H a).isSome
def hidT(h:Heap)(H:Hp):Heap:=PySem.W.hideAll h (trk h H)
theorem zgg(h:Heap)(H:Hp):(hidT h H).objs.size=h.objs.size:=PySem.W.hideAll_size _ _
variable{o:Obj}
theorem zhy(e:h.get? b=some o)(n:H b=none):(hidT h H).get? b=some o :=
 PySem.W.hideAll_get _ e fun hm=>by
  have q:(H b).isSome=true:=(List.mem_filter.mp hm).2
  rw[n] at q;simp at q
theorem zjl(e:(hidT h H).get? b=some o):h.get? b=some o/\H b=none:=by
 have e':h.get? b=some o:=PySem.W.of_hideAll (trk h H) e
 refine⟨e',?_⟩
 cases q:H b with
 | none=>rfl
 | some x =>
   have hm:b∈trk h H:=List.mem_filter.mpr ⟨List.mem_range.mpr (Heap.lt_size e'),by simp[q]⟩
   have z:(hidT h H).get? b=none:=PySem.W.hideAll_none (trk h H) hm
   rw[z] at e;cases e
def zjm(g h:Heap)(L:Addr):List (Addr×Obj):=(List.range h.objs.size).filterMap fun a=>if a=L\/(g.get? a).isSome=true then none else(h.get? a).map fun o=>(a,o)
def rest(g h:Heap)(L d:Addr):List (Addr×Obj):=(zjm g h L).filter fun p=>decide (p.1≠d)
structure Mod (K:PySem.W.Frag) (mg:Str->Option Value) (base:Heap):Prop where
 kin:K.In base
 glob:base.Ns mainGlobals mg
 blt:∃mb,base.Ns builtinsNs mb/\∀x:Str,x ≠ "__name__"->mb x=bootBuiltins x
 nolimit:base.NoLimit
structure Cx where
 prog:Program
 w:World
 K:PySem.W.Frag
 mg:Str->Option Value
 base:Heap
 A:Around
 N:List Str
 s₀:Shared
 H₀:Hp
 env:Env
 outer:List Env
 stack:List Env
 ex:List Addr
 fn:Str->Bool
 calm:Bool
 pn:List (Addr×Obj)
 xe:Value->Shared->Prop
def frs(l:List Env):List Addr:=l.filterMap (·.frame)
protected abbrev Cx.fs(X:Cx):List Addr:=frs X.outer
def Vis(sc:Scope)(x:Str):Prop:=sc.names.lookup x=some .local\/sc.names.lookup x=some .cell\/sc.names.lookup x=some .free
def Loc(sc:Scope)(x:Str):Prop:=sc.names.lookup x=some .local\/sc.names.lookup x=some .cell
def Look(env:Env)(h:Heap)(m:Str->Option Value)(x:Str)(u:Value):Prop :=
 (env.kindOf x=some .local/\m x=some u)\/((env.kindOf x=some .cell\/env.kindOf x=some .free)/\∃c,env.cells.lookup x=some c/\h.IsCell c (some u))
structure Cx.Ok (X:Cx):Prop where
 mod:Mod X.K X.mg X.base
 kind:X.env.scope.kind=.function
 glob:X.env.globals=mainGlobals
 blt:X.env.builtins=builtinsNs
 above:X.s₀.heap.objs.size<=X.env.locals
 inj:∀x y c,X.env.cells.lookup x=some c->X.env.cells.lookup y=some c->x=y
 has:∀x,(X.env.kindOf x=some .cell\/X.env.kindOf x=some .free)->∃c,X.env.cells.lookup x=some c
 cab:∀x c,X.fn x=true->X.env.cells.lookup x=some c->X.s₀.heap.objs.size<=c
 hd:X.calm=true->X.A.handled=none
 frames:X.A.frames=some X.stack
 stk:X.stack=X.outer\/(X.stack=X.env::X.outer/\X.env.frame=some X.env.locals)
 exf:∀b∈X.ex,b≠X.env.locals/\∀x c,X.env.cells.lookup x=some c->c≠b
 bs:∀b o,X.base.get? b=some o->X.s₀.heap.get? b=some o/\X.H₀ b=none
 bsz:X.base.objs.size<=X.s₀.heap.objs.size
 noex:∀b o,X.base.get? b=some o->b∉X.ex
 exfs:∀b∈X.ex,b∉X.fs
 funs:X.s₀.heap.FunFrames X.base X.outer
 frf:∀b∈X.fs,X.H₀ b=none
structure Inv (X:Cx) (pins:List (Addr×Obj)) (σ:List (Option V)) (H:Hp) (s:Shared):Prop where
 ok:X.Ok
 os:s.os=X.s₀.os
 bare:AllBare s.gens
 base:Un X.fs X.ex X.H₀ H X.s₀.heap s.heap
 loc:∃m,s.heap.Ns X.env.locals m/\∀(i:Nat) (x:Str) (v:V),X.N[i]?=some x->σ[i]?=some (some v)->Vis X.env.scope x->∃u,RelV v u/\Look X.env s.heap m x u
 cell:∀x c,X.env.cells.lookup x=some c->∃v,s.heap.IsCell c v
 free:H X.env.locals=none
 freeC:∀x c,X.env.cells.lookup x=some c->H c=none
 pin:∀p∈X.pn++pins,s.heap.get? p.1=some p.2/\H p.1=none/\p.1≠X.env.locals/\p.1∉X.fs/\∀v,p.2.data≠.cell v
 hok:HOk X.prog X.w H s.heap
 len:σ.length=X.N.length
variable{X:Cx}
theorem Cx.Ok.nofr(ok:X.Ok)(e:X.base.get? b=some o):b∉X.fs:=fun hb=>by
 have:=(ok.funs.mem hb).1
 rw[e] at this;cases this
variable{pins:List (Addr×Obj)}{σ:List (Option V)}{s:Shared}
theorem Inv.bs(I:Inv X pins σ H s):∀b o,X.base.get? b=some o->s.heap.get? b=some o/\H b=none:=fun b o e =>
 ⟨I.base.keep b o (I.ok.bs b o e).1 (I.ok.bs b o e).2 (I.ok.nofr e) (I.ok.noex b o e),I.base.free b o (I.ok.bs b o e).1 (I.ok.bs b o e).2 (I.ok.noex b o e)⟩
theorem Inv.bk(I:Inv X pins σ H s):∀b o,X.base.get? b=some o->s.heap.get? b=some o:=fun b o e=>(I.bs b o e).1
theorem Inv.mod(I:Inv X pins σ H s):Mod X.K X.mg X.base:=I.ok.mod
theorem Inv.kIn(I:Inv X pins σ H s):X.K.In s.heap:=I.ok.mod.kin.keeps I.bk
theorem Inv.nolimit(I:Inv X pins σ H s):s.heap.NoLimit:=I.ok.mod.nolimit.keeps I.bk
theorem Inv.fr(I:Inv X pins σ H s):∃m,Fr X.base X.env.locals s.heap m :=
 let ⟨m,hn,_⟩:=I.loc
 ⟨m,hn,I.bk,Nat.le_trans I.ok.bsz I.ok.above⟩
theorem Inv.lt(I:Inv X pins σ H s):X.env.locals<s.heap.objs.size:=let ⟨_,hn,_⟩:=I.loc;hn.lt
theorem Inv.sz(I:Inv X pins σ H s):X.s₀.heap.objs.size<=s.heap.objs.size:=Nat.le_trans I.ok.above (Nat.le_of_lt I.lt)
theorem Inv.nofs(I:Inv X pins σ H s)(h:s.heap.objs.size<=a):a∉X.fs:=fun hb=>by
 obtain⟨_,o,ho,_⟩:=I.ok.funs.mem hb
 exact absurd (Nat.lt_of_lt_of_le (Heap.lt_size ho) (Nat.le_trans I.sz h)) (Nat.lt_irrefl _)
theorem Inv.cne(I:Inv X pins σ H s):∀x c,X.env.cells.lookup x=some c->c≠X.env.locals:=fun x c e z=>by
 obtain⟨v,o,ho,hd⟩:=I.cell x c e
 obtain⟨m,⟨o',es,ep,ho',hd',_⟩,_⟩:=I.loc
 rw[z,ho'] at ho;cases ho;rw[hd'] at hd;cases hd
theorem Inv.funs(I:Inv X pins σ H s):s.heap.FunFrames X.base X.outer:=by
 have all:∀(l:List Env),(∀b∈frs l,b∈X.fs)->X.s₀.heap.FunFrames X.base l->s.heap.FunFrames X.base l:=by
  intro l
  induction l with
  | nil=>intro _ _;trivial
  | cons env r ih =>
    intro hs hl
    obtain⟨hk,⟨L,o,hf,hn,ho,hd⟩,hr⟩:=hl
    have hL:L∈X.fs:=hs L (by unfold frs;rw[List.filterMap_cons,hf];exact List.mem_cons_self)
    obtain⟨sl,e⟩:=I.base.slot L o ho (I.ok.frf L hL) hL fun z=>I.ok.exfs L z hL
    exact⟨hk,⟨L,_,hf,hn,e,hd⟩,ih (fun b hb=>hs b (by unfold frs;rw[List.filterMap_cons,hf];exact List.mem_cons_of_mem _ hb)) hr⟩
 exact all X.outer (fun _ hb=>hb) I.ok.funs
theorem Inv.stack(I:Inv X pins σ H s):s.heap.FunFrames X.base X.stack:=by
 rcases I.ok.stk with e | ⟨e,hf⟩
 ·rw[e];exact I.funs
 ·rw[e]
  obtain⟨m,hn,_⟩:=I.loc
  refine .cons (by rw[I.ok.kind];decide) hf hn ?_ I.funs
  exact Heap.get?_none_of_le (Nat.le_trans I.ok.bsz I.ok.above)
theorem Inv.stkSub(I:Inv X pins σ H s):∀b∈frs X.stack,b∈X.env.locals::X.fs:=fun b hb=>by
 rcases I.ok.stk with e | ⟨e,hf⟩
 ·rw[e] at hb;exact List.mem_cons_of_mem _ hb
 ·rw[e] at hb
  unfold frs at hb
  rw[List.filterMap_cons,hf] at hb
  exact hb
theorem Inv.stkFree(I:Inv X pins σ H s):∀b∈frs X.stack,H b=none:=fun b hb=>by
 rcases List.mem_cons.mp (I.stkSub b hb) with e | hb
 ·rw[e];exact I.free
 ·obtain⟨_,o,ho,_⟩:=I.ok.funs.mem hb
  exact I.base.free b o ho (I.ok.frf b hb) fun z=>I.ok.exfs b z hb
variable{g':Array GenState}{t':Nat}{d':Drawn}{ch:List Addr}
protected theorem Inv.step(I:Inv X pins σ H s)(hch:∀b∈ch,(b∈X.ex\/X.s₀.heap.objs.size<=b)/\b≠X.env.locals/\(∀x c,X.env.cells.lookup x=some c->c≠b)/\∀p∈X.pn++pins,p.1≠b)(keep:∀b o,b≠X.env.locals->b∉X.fs->b∉ch->s.heap.get? b=some o->H b=none->h'.get? b=some o)(slot:∀b o,b≠X.env.locals->b∈X.fs->b∉ch->s.heap.get? b=some o->H b=none->∃sl,h'.get? b=some { o with slots:=sl })(free:∀b o,b∉ch->s.heap.get? b=some o->H b=none->H' b=none)(there:∀b o,b∉ch->s.heap.get? b=some o->∃o',h'.get? b=some o')(tups:∀b xs,H b=some (.tup xs)->H' b=some (.tup xs))(frzs:∀b o u,H b=some (.frz o u)->H' b=some (.frz o u))(tbls:∀b ps,H b=some (.tbl ps)->∃more,H' b=some (.tbl (ps++more)))(ns:∀m,s.heap.Ns X.env.locals m->h'.Ns X.env.locals m)(hok:HOk X.prog X.w H' h')(hg:AllBare g') :
  Inv X pins σ H' { s with heap:=h',gens:=g',drawn:=d',toks:=t' }:=by
 have neL:∀b o,X.s₀.heap.get? b=some o->b≠X.env.locals:=fun b o e=>Nat.ne_of_lt (Nat.lt_of_lt_of_le (Heap.lt_size e) I.ok.above)
 have neC:∀b o,X.s₀.heap.get? b=some o->b∉X.ex->b∉ch:=fun b o e hx hb=>by
  rcases(hch b hb).1 with z | z
  ·exact hx z
  ·exact absurd (Nat.lt_of_lt_of_le (Heap.lt_size e) z) (Nat.lt_irrefl _)
 have cellK:∀x c,X.env.cells.lookup x=some c->∀v,s.heap.IsCell c v->h'.IsCell c v:=fun x c e v ⟨o,ho,hd⟩=>by
  have nch:c∉ch:=fun z=>(hch c z).2.2.1 x c e rfl
  by_cases hc:c∈X.fs
  ·obtain⟨sl,q⟩:=slot c o (I.cne x c e) hc nch ho (I.freeC x c e)
   exact⟨_,q,hd⟩
  ·exact⟨o,keep c o (I.cne x c e) hc nch ho (I.freeC x c e),hd⟩
 refine⟨I.ok,I.os,hg,⟨fun b o e n hb hx=>?_,fun b o e n hb hx=>?_,fun b o e n hx=>?_,fun b o e hx=>?_,fun b xs e=>tups b xs (I.base.tups b xs e),fun b o xs e=>frzs b o xs (I.base.frzs b o xs e),fun b ps e=>?_⟩,?_,fun x c e=>?_,?_,fun x c e=>?_,fun p hp=>?_,hok,I.len⟩
 ·exact keep b o (neL b o e) hb (neC b o e hx) (I.base.keep b o e n hb hx) (I.base.free b o e n hx)
 ·obtain⟨sl,e1⟩:=I.base.slot b o e n hb hx
  obtain⟨sl',e2⟩:=slot b _ (neL b o e) hb (neC b o e hx) e1 (I.base.free b o e n hx)
  exact⟨sl',e2⟩
 ·obtain⟨o',e1⟩:=I.base.there b o e hx
  exact free b o' (neC b o e hx) e1 (I.base.free b o e n hx)
 ·obtain⟨o',e1⟩:=I.base.there b o e hx
  exact there b o' (neC b o e hx) e1
 ·obtain⟨m1,e1⟩:=I.base.tbls b ps e
  obtain⟨m2,e2⟩:=tbls b _ e1
  exact⟨m1++m2,by rw[e2,Array.append_assoc]⟩
 ·obtain⟨m,hn,hl⟩:=I.loc
  refine⟨m,ns m hn,fun i x v e1 e2 e3=>?_⟩
  obtain⟨u,r,l⟩:=hl i x v e1 e2 e3
  refine⟨u,r,?_⟩
  rcases l with l | ⟨k,c,e,z⟩
  ·exact .inl l
  ·exact .inr ⟨k,c,e,cellK x c e _ z⟩
 ·obtain⟨v,z⟩:=I.cell x c e
  exact⟨v,cellK x c e v z⟩
 ·obtain⟨m,⟨o,_,_,ho,_⟩,_⟩:=I.loc
  exact free _ o (fun z=>(hch _ z).2.1 rfl) ho I.free
 ·obtain⟨v,o,ho,hd⟩:=I.cell x c e
  exact free c o (fun z=>(hch c z).2.2.1 x c e rfl) ho (I.freeC x c e)
 ·obtain⟨e,n,ne,nf,d⟩:=I.pin p hp
  have nch:p.1∉ch:=fun z=>(hch p.1 z).2.2.2 p hp rfl
  exact⟨keep p.1 p.2 ne nf nch e n,free p.1 p.2 nch e n,ne,nf,d⟩
theorem Inv.un(I:Inv X pins σ H s)(u:Un X.fs [] H H' s.heap h')(hok:HOk X.prog X.w H' h'):Inv X pins σ H' { s with heap:=h',toks:=t' }:=by
 obtain⟨m,⟨o,es,ep,ho,r⟩,_⟩:=id I.loc
 obtain⟨sl,hL⟩:=u.any ho I.free (by simp)
 exact I.step (g':=s.gens) (d':=s.drawn) (ch:=[]) (fun _ z=>nomatch z) (fun b o _ hb _ e n=>u.keep b o e n hb (by simp)) (fun b o _ hb _ e n=>u.slot b o e n hb (by simp)) (fun b o _ e n=>u.free b o e n (by simp)) (fun b o _ e=>u.there b o e (by simp)) u.tups u.frzs u.tbls (fun m' hm=>by
  obtain⟨o',es',ep',ho',r'⟩:=hm
  rw[ho] at ho';cases ho'
  exact⟨_,es',ep',hL,r'⟩) hok I.bare
theorem Inv.call(I:Inv X pins σ H s)(u:Un (frs X.stack) ch H H' s.heap h')(hok:HOk X.prog X.w H' h')(hg:AllBare g')(hch:∀b∈ch,(b∈X.ex\/X.s₀.heap.objs.size<=b)/\b≠X.env.locals/\(∀x c,X.env.cells.lookup x=some c->c≠b)/\∀p∈X.pn++pins,p.1≠b) :
  Inv X pins σ H' { s with heap:=h',gens:=g',drawn:=d',toks:=t' }:=by
 obtain⟨m,⟨o,es,ep,ho,r⟩,_⟩:=id I.loc
 obtain⟨sl,hL⟩:=u.any ho I.free fun z=>(hch _ z).2.1 rfl
 exact I.step (ch:=ch) hch (fun b o hL hb hc e n=>u.keep b o e n (fun z=>(List.mem_cons.mp (I.stkSub b z)).elim hL hb) hc) (fun b o _ _ hc e n=>u.any e n hc) (fun b o hc e n=>u.free b o e n hc) (fun b o hc e=>u.there b o e hc) u.tups u.frzs u.tbls (fun m' hm=>by
  obtain⟨o',es',ep',ho',r'⟩:=hm
  rw[ho] at ho';cases ho'
  exact⟨_,es',ep',hL,r'⟩) hok hg
variable{it:Addr}
theorem Inv.turned(I:Inv X pins σ H s)(k:∀b o,b≠it->s.heap.get? b=some o->h'.get? b=some o)(hn:H it=none)(hL:it≠X.env.locals)(h1:it∈X.ex\/X.s₀.heap.objs.size<=it)(h2:∀x c,X.env.cells.lookup x=some c->c≠it)(h3:∀p∈X.pn++pins,p.1≠it):Inv X pins σ H { s with heap:=h',toks:=t' }:=by
 have nit:∀b u,H b=some u->b≠it:=fun b u e z=>by rw[z,hn] at e;cases e
 refine I.step (g':=s.gens) (d':=s.drawn) (ch:=[it]) (fun b hb=>?_) (fun b o _ _ hc e _=>k b o (fun z=>hc (by simp[z])) e) (fun b o _ _ hc e _=>⟨o.slots,k b o (fun z=>hc (by simp[z])) e⟩) (fun _ _ _ _ n=>n)
  (fun b o hc e=>⟨o,k b o (fun z=>hc (by simp[z])) e⟩) (fun _ _ e=>e) (fun _ _ _ e=>e) (fun b ps e=>⟨#[],by rw[e];simp⟩) (fun m hm=>?_) (fun b u e=>?_) I.bare
 ·have e:b=it:=by simpa using hb
  subst e
  exact⟨h1,hL,h2,h3⟩
 ·obtain⟨o,es,ep,ho,r⟩:=hm
  exact⟨o,es,ep,k _ o (Ne.symm hL) ho,r⟩
 ·refine(I.hok b u e).stay (fun c v hc q=>k c v ?_ q) (fun _ q=>q) fun _ _ q=>q
  rcases hc with z | z
  ·rw[z];exact nit b u e
  ·exact nit c _ z
theorem Inv.tok(I:Inv X pins σ H s)(t:Nat):Inv X pins σ H { s with toks:=t }:=I.un (h':=s.heap) (t':=t) Un.refl I.hok
theorem Inv.kept{t':Nat}(I:Inv X pins σ H s)(k:∀b u,s.heap.get? b=some u->h'.get? b=some u):Inv X pins σ H { s with heap:=h',toks:=t' }:=I.un (Un.kept k) (I.hok.kept k)
theorem Inv.laid{a:Addr}{o:HO}{t':Nat}(I:Inv X pins σ H s)(k:∀b u,s.heap.get? b=some u->h'.get? b=some u)(hp:s.heap.objs.size<=a)(new:ObjOk X.prog X.w (upd H a o) h' a o) :
  Inv X pins σ (upd H a o) { s with heap:=h',toks:=t' }:=I.un (Un.laid k hp (I.hok.fresh hp)) (I.hok.laid k hp new)
theorem Inv.write{x e:Addr}{o:HO}{t':Nat}(I:Inv X pins σ H s)(mu:Mut (H x))(he:e=x\/H e=some (.own x))(k:∀b u,b≠e->s.heap.get? b=some u->h'.get? b=some u)(heo:∃u,h'.get? e=some u)(new:ObjOk X.prog X.w (upd H x o) h' x o):Inv X pins σ (upd H x o) { s with heap:=h',toks:=t' }:=I.un (Un.write mu he k heo) (I.hok.write mu he k heo new)
theorem Inv.pins_of{pins':List (Addr×Obj)}(I:Inv X pins σ H s)(h:∀p∈pins',s.heap.get? p.1=some p.2/\H p.1=none/\p.1≠X.env.locals/\p.1∉X.fs/\∀v,p.2.data≠.cell v):Inv X pins' σ H s :=
 ⟨I.ok,I.os,I.bare,I.base,I.loc,I.cell,I.free,I.freeC,fun p hp=>(List.mem_append.mp hp).elim (fun z=>I.pin p (List.mem_append_left _ z)) (h p),I.hok,I.len⟩
variable{x:Str}{N:List Str}{i:Nat}{j:Int}
theorem zdt(hN:N.Nodup){j:Nat}(a:N[i]?=some x)(b:N[j]?=some x):i=j:=by
 obtain⟨h1,e1⟩:=List.getElem?_eq_some_iff.mp a
 obtain⟨h2,e2⟩:=List.getElem?_eq_some_iff.mp b
 exact(List.getElem_inj hN).mp (e1.trans e2.symm)
variable{u:Value}{M:Model}{A:Around}{E:Value->Shared->Prop}{v:V}{Q:Unit->Shared->Prop}
theorem zc3(I:Inv X pins σ H s)(hN:X.N.Nodup)(hi:X.N[i]?=some x)(hx:Loc X.env.scope x)(r:RelV v u)(h:∀s',Inv X pins (σ.set i (some v)) H s'->(∃a,Heap.SameBut a s.heap s'.heap/\(a=X.env.locals\/X.env.cells.lookup x=some a))->Q () s')(hf:X.fn x=true\/X.env.scope.names.lookup x=some .local:=by first | exact .inl rfl | exact .inr rfl | assumption):wpAny M A (storeName X.env x u) Q E s:=by
 obtain⟨m,hn,hl⟩:=id I.loc
 have hcls:(X.env.scope.kind==.class || (X.env.scope.kind==.module && X.env.locals != X.env.globals))=false:=by rw[I.ok.kind];rfl
 have hiσ:i<σ.length:=by rw[I.len];exact(List.getElem?_eq_some_iff.mp hi).1
 have cne:=I.cne
 have tracked:∀ {a:Addr} {h':Heap},(∃o,s.heap.get? a=some o/\H a=none)->Heap.SameBut a s.heap h'->HOk X.prog X.w H h':=fun {a h'} ha hs b ob e=>by
  obtain⟨_,_,hfree⟩:=ha
  refine(I.hok b ob e).stay (fun c w' hc q=>(hs.2 c ?_).trans q) (fun _ q=>q) fun _ _ q=>q
  rintro rfl
  rcases hc with rfl | hc
  ·rw[hfree] at e;cases e
  ·rw[hfree] at hc;cases hc
 rcases hx with hk | hk
 ·refine wpAny_storeName_local hk hn (fun h' hn' hs=>?_) hcls
  obtain⟨oL,_,_,hoL,_⟩:=id hn
  refine h _ ⟨I.ok,I.os,I.bare,⟨fun b o e n hb hx=>?_,fun b o e n hb hx=>?_,I.base.free,fun b o e hx=>?_,I.base.tups,I.base.frzs,I.base.tbls⟩,⟨_,hn',fun j y v' e1 e2 e3=>?_⟩,fun y c e=>?_,I.free,I.freeC,fun p hp=>?_,tracked ⟨oL,hoL,I.free⟩ hs,by simpa using I.len⟩ ⟨_,hs,.inl rfl⟩
  ·exact(hs.2 b (Nat.ne_of_lt (Nat.lt_of_lt_of_le (Heap.lt_size e) I.ok.above))).trans (I.base.keep b o e n hb hx)
  ·obtain⟨sl,e1⟩:=I.base.slot b o e n hb hx
   exact⟨sl,(hs.2 b (Nat.ne_of_lt (Nat.lt_of_lt_of_le (Heap.lt_size e) I.ok.above))).trans e1⟩
  ·obtain⟨o',e1⟩:=I.base.there b o e hx
   exact⟨o',(hs.2 b (Nat.ne_of_lt (Nat.lt_of_lt_of_le (Heap.lt_size e) I.ok.above))).trans e1⟩
  ·by_cases hj:j=i
   ·subst hj
    rw[hi] at e1;cases e1
    rw[List.getElem?_set_self hiσ] at e2
    cases e2
    exact⟨u,r,.inl ⟨hk,by simp⟩⟩
   ·rw[List.getElem?_set_ne (Ne.symm hj)] at e2
    obtain⟨u',r',q⟩:=hl j y v' e1 e2 e3
    refine⟨u',r',?_⟩
    rcases q with⟨k,e⟩ | ⟨k,c,e,z⟩
    ·refine .inl ⟨k,?_⟩
     have:y≠x:=fun e=>hj (zdt hN e1 (e ▸ hi))
     simp[this,e]
    ·exact .inr ⟨k,c,e,z.sameBut hs (cne y c e)⟩
  ·obtain⟨w',z⟩:=I.cell y c e
   exact⟨w',z.sameBut hs (cne y c e)⟩
  ·obtain⟨e,n,ne,nf,d⟩:=I.pin p hp
   exact⟨(hs.2 p.1 ne).trans e,n,ne,nf,d⟩
 ·have hfn:X.fn x=true:=by
   rcases hf with z | z
   ·exact z
   ·rw[z] at hk;cases hk
  obtain⟨c,hc⟩:=I.ok.has x (.inl hk)
  obtain⟨w',z⟩:=I.cell x c hc
  refine wpAny_storeName_cell I.ok.kind hk hc z (fun h' hc' hs=>?_)
  obtain⟨oc,hoc,hocd⟩:=id z
  refine h { s with heap:=h' } ⟨I.ok,I.os,I.bare,⟨fun b o e n hb hx=>?_,fun b o e n hb hx=>?_,I.base.free,fun b o e hx=>?_,I.base.tups,I.base.frzs,I.base.tbls⟩,⟨m,hn.sameBut hs (Ne.symm (cne x c hc)),fun j y v' e1 e2 e3=>?_⟩,fun y c' e=>?_,I.free,I.freeC,fun p hp=>?_,tracked ⟨oc,hoc,I.freeC x c hc⟩ hs,by simpa using I.len⟩ ⟨c,hs,.inr hc⟩
  ·exact(hs.2 b (Nat.ne_of_lt (Nat.lt_of_lt_of_le (Heap.lt_size e) (I.ok.cab x c hfn hc)))).trans (I.base.keep b o e n hb hx)
  ·obtain⟨sl,e1⟩:=I.base.slot b o e n hb hx
   exact⟨sl,(hs.2 b (Nat.ne_of_lt (Nat.lt_of_lt_of_le (Heap.lt_size e) (I.ok.cab x c hfn hc)))).trans e1⟩
  ·obtain⟨o',e1⟩:=I.base.there b o e hx
   exact⟨o',(hs.2 b (Nat.ne_of_lt (Nat.lt_of_lt_of_le (Heap.lt_size e) (I.ok.cab x c hfn hc)))).trans e1⟩
  ·by_cases hj:j=i
   ·subst hj
    rw[hi] at e1;cases e1
    rw[List.getElem?_set_self hiσ] at e2
    cases e2
    exact⟨u,r,.inr ⟨.inl hk,c,hc,hc'⟩⟩
   ·rw[List.getElem?_set_ne (Ne.symm hj)] at e2
    obtain⟨u',r',q⟩:=hl j y v' e1 e2 e3
    refine⟨u',r',?_⟩
    rcases q with q | ⟨k,c',e,z'⟩
    ·exact .inl q
    ·refine .inr ⟨k,c',e,z'.sameBut hs ?_⟩
     rintro rfl
     exact hj (zdt hN e1 (I.ok.inj _ _ _ e hc ▸ hi))
  ·by_cases hcc:c'=c
   ·subst hcc;exact⟨_,hc'⟩
   ·obtain⟨w2,z2⟩:=I.cell y c' e
    exact⟨w2,z2.sameBut hs hcc⟩
  ·obtain⟨e,n,ne,nf,d⟩:=I.pin p hp
   refine⟨(hs.2 p.1 ?_).trans e,n,ne,nf,d⟩
   intro q
   rw[q,hoc] at e
   have q':oc=p.2:=Option.some.inj e
   exact d w' (by rw[← q'];exact hocd)
theorem zc0(I:Inv X pins σ H s)(hN:X.N.Nodup)(hi:X.N[i]?=some x)(hx:Loc X.env.scope x)(r:RelV v u)(h:∀s',Inv X pins (σ.set i (some v)) H s'->Q () s')(hf:X.fn x=true\/X.env.scope.names.lookup x=some .local:=by first | exact .inl rfl | exact .inr rfl | assumption):wpAny M A (storeName X.env x u) Q E s :=
 zc3 I hN hi hx r (fun s' I' _=>h s' I') hf
variable{s':Shared}
theorem Inv.call'(I:Inv X pins σ H s)(ho:s'.os=s.os)(u:Un (frs X.stack) ch H H' s.heap s'.heap)(hok:HOk X.prog X.w H' s'.heap)(hg:AllBare s'.gens)(hch:∀b∈ch,(b∈X.ex\/X.s₀.heap.objs.size<=b)/\b≠X.env.locals/\(∀x c,X.env.cells.lookup x=some c->c≠b)/\∀p∈X.pn++pins,p.1≠b):Inv X pins σ H' s':=by
 obtain⟨h',g',d',t',o'⟩:=s'
 have e:o'=s.os:=ho
 subst e
 exact I.call (g':=g') (t':=t') (d':=d') u hok hg hch
abbrev XK:=Value->Option Addr->Hp->Prop
abbrev St:=List (Option V)
abbrev VK:=V->Hp->Prop
abbrev TE:=St->Hp->VK->Prop
abbrev TT:=St->Hp->(Bool->Hp->Prop)->Prop
abbrev TA:=St->Hp->(List V->Hp->Prop)->Prop
structure Ends where
 nx:St->Hp->Prop
 rt:VK
 bk:St->Hp->Prop:=fun _ _=>False
 ct:St->Hp->Prop:=fun _ _=>False
abbrev TS:=Ends->St->Hp->Prop
def EP(X:Cx)(pins:List (Addr×Obj))(σ:St)(Q:VK)(u:Value)(s':Shared):Prop:=∃v H',Inv X pins σ H' s'/\RelV v u/\Q v H'
def TP(X:Cx)(pins:List (Addr×Obj))(σ:St)(Q:Bool->Hp->Prop)(b:Bool)(s':Shared):Prop:=∃H',Inv X pins σ H' s'/\Q b H'
def AP(X:Cx)(pins:List (Addr×Obj))(σ:St)(Q:List V->Hp->Prop)(us:List Value)(s':Shared):Prop:=∃vs H',Inv X pins σ H' s'/\Vals vs us/\Q vs H'
def SP(X:Cx)(pins:List (Addr×Obj))(D:Ends)(f:Flow)(s':Shared):Prop :=
 match f with
 | .next=>∃σ' H',Inv X pins σ' H' s'/\D.nx σ' H'
 | .brk=>∃σ' H',Inv X pins σ' H' s'/\D.bk σ' H'
 | .cont=>∃σ' H',Inv X pins σ' H' s'/\D.ct σ' H'
 | .ret u=>∃v σ' H',Inv X pins σ' H' s'/\RelV v u/\D.rt v H'
def PE(X:Cx)(e:Expr)(t:TE):Prop :=
 ∀(pins:List (Addr×Obj)) (s:Shared) (σ:St) (H:Hp) (Q:VK),Inv X pins σ H s->t σ H Q->wpAny (model X.prog X.w) X.A (eval e X.env) (EP X pins σ Q) X.xe s
def PT(X:Cx)(e:Expr)(t:TT):Prop :=
 ∀(pins:List (Addr×Obj)) (s:Shared) (σ:St) (H:Hp) (Q:Bool->Hp->Prop),Inv X pins σ H s->t σ H Q->wpAny (model X.prog X.w) X.A (isTrue e X.env (eval e X.env)) (TP X pins σ Q) X.xe s
def PW(X:Cx)(e:Expr)(t:TT):Prop :=
 ∀(whole:Sem Value) (pins:List (Addr×Obj)) (s:Shared) (σ:St) (H:Hp) (Q:Bool->Hp->Prop),Inv X pins σ H s->t σ H Q->wpAny (model X.prog X.w) X.A (isTrue e X.env whole) (TP X pins σ Q) X.xe s
variable{e:Expr}{t:TT}
theorem PW.pt(h:PW X e t):PT X e t:=h _
def PA(X:Cx)(es:List Expr)(t:TA):Prop :=
 ∀(pos:Pos) (pins:List (Addr×Obj)) (s:Shared) (σ:St) (H:Hp) (Q:List V->Hp->Prop),Inv X pins σ H s->t σ H Q->wpAny (model X.prog X.w) X.A (spliced (backTo pos (starEach es X.env))) (AP X pins σ Q) X.xe s
def PS(X:Cx)(st:Stmt)(t:TS):Prop :=
 ∀(pins:List (Addr×Obj)) (s:Shared) (σ:St) (H:Hp) (D:Ends),Inv X pins σ H s->t D σ H->wpAny (model X.prog X.w) X.A (exec st X.env) (SP X pins D) X.xe s
def PSs(X:Cx)(st:List Stmt)(t:TS):Prop :=
 ∀(pins:List (Addr×Obj)) (s:Shared) (σ:St) (H:Hp) (D:Ends),Inv X pins σ H s->t D σ H->wpAny (model X.prog X.w) X.A (execs st X.env) (SP X pins D) X.xe s
theorem thn{α:Type}{t:Sem α}{Q Q':α->Shared->Prop}(h:wpAny M A t Q E s)(hQ:∀a s,Q a s->Q' a s):wpAny M A t Q' E s:=wpAny_mono h hQ fun _ _ x=>x
section
variable {X:Cx}
theorem bin{a b:Expr}{ta tb:TE}(ha:PE X a ta)(hb:PE X b tb){pins:List (Addr×Obj)}{s:Shared}{σ:St}{H:Hp}{R:V->V->Hp->Prop}(I:Inv X pins σ H s)(h:ta σ H fun x H1=>tb σ H1 fun y H2=>R x y H2){α:Type}{Q:α->Shared->Prop}{f:Value->Value->Sem α}(hf:∀v u s2 x y H2,Inv X pins σ H2 s2->RelV x v->RelV y u->R x y H2->wpAny (model X.prog X.w) X.A (f v u) Q X.xe s2) :
  wpAny (model X.prog X.w) X.A (eval a X.env) (fun v s₁=>wpAny (model X.prog X.w) X.A (eval b X.env) (fun u s₂=>wpAny (model X.prog X.w) X.A (f v u) Q X.xe s₂) X.xe s₁) X.xe s:=by
 refine thn (ha pins s σ H _ I h) fun v s1 ⟨x,H1,I1,r1,q1⟩=>?_
 refine thn (hb pins s1 σ H1 _ I1 q1) fun u s2 ⟨y,H2,I2,r2,q2⟩=>?_
 exact hf v u s2 x y H2 I2 r1 r2 q2
def tVar(i:Nat):TE:=fun σ H Q=>∃v,σ[i]?=some (some v)/\Q v H
def tC(v:V):TE:=fun _ H Q=>Q v H
theorem zll{i:Nat}{x:Str}{pos:Pos}(hN:X.N[i]?=some x)(hv:Vis X.env.scope x)(hd:(x==("__debug__" : Str))=false:=by decide)(hcd:(x==("__classdict__" : Str))=false:=by decide):PE X (.Name x pos) (tVar i):=by
 intro pins s σ H Q I h
 obtain⟨v,e,h⟩:=h
 obtain⟨m,hn,hl⟩:=I.loc
 obtain⟨u,r,l⟩:=hl i x v hN e hv
 have fin:EP X pins σ Q u s:=⟨v,H,I,r,h⟩
 rcases l with⟨hk,hm⟩ | ⟨hk,c,hc,hcell⟩
 ·exact wpAny_Name (wpAny_loadName_local I.ok.kind hk hn hm fin) hd
 ·rcases hk with hk | hk
  ·exact wpAny_Name (wpAny_loadName_cell I.ok.kind hk hc hcell fin) hd
  ·exact wpAny_Name (wpAny_loadName_free I.ok.kind hk hc hcell fin hcd) hd
theorem zlm{i j pos}:PE X (.Constant (.int i) j pos) (tC (.int i)):=fun _ _ _ H _ I h=>wpAny_Constant_int ⟨.int i,H,I.tok _,⟨_,rfl⟩,h⟩
theorem zns{b j pos}:PE X (.Constant (.bool b) j pos) (tC (.bl b)):=fun _ _ _ H _ I h=>Constant_bool ⟨.bl b,H,I,rfl,h⟩
theorem zi2{x j pos}:PE X (.Constant (.str x) j pos) (tC (.str x)):=fun _ _ _ H _ I h=>Calls.Constant_str ⟨.str x,H,I.tok _,⟨_,rfl⟩,h⟩
def Gl(X:Cx)(x:Str):Prop:=X.env.kindOf x=some .globalImplicit
theorem zcp{E:Value->Shared->Prop}{pins:List (Addr×Obj)}{s:Shared}{σ:St}{H:Hp}{x:Str}{u:Value}{pos:Pos}{Q:Value->Shared->Prop}(I:Inv X pins σ H s)(hg:Gl X x)(hm:X.mg x=some u)(h:Q u s)(hd:(x==("__debug__" : Str))=false:=by decide):wpAny (model X.prog X.w) X.A (eval (.Name x pos) X.env) Q E s :=
 Calls.Name_function_global I.ok.kind hg (Calls.loadGlobal_global (by rw[I.ok.glob];exact I.mod.glob.keeps I.bk) hm h) hd
theorem zfj{E:Value->Shared->Prop}{pins:List (Addr×Obj)}{s:Shared}{σ:St}{H:Hp}{x:Str}{u:Value}{pos:Pos}{Q:Value->Shared->Prop}(I:Inv X pins σ H s)(hg:Gl X x)(hm:X.mg x=none)(hv:bootBuiltins x=some u)(h:Q u s)(hn:x ≠ "__name__":=by decide)(hd:(x==("__debug__" : Str))=false:=by decide):wpAny (model X.prog X.w) X.A (eval (.Name x pos) X.env) Q E s:=by
 obtain⟨mb,h1,h2⟩:=I.mod.blt
 exact Calls.Name_function_global I.ok.kind hg (Calls.loadGlobal_builtin (by rw[I.ok.glob];exact I.mod.glob.keeps I.bk) hm (by rw[I.ok.blt];exact h1.keeps I.bk) ((h2 x hn).trans hv) h) hd
theorem zjn{x:Str}{v:V}{u:Value}{pos:Pos}(hg:Gl X x)(hm:X.mg x=some u)(r:RelV v u)(hd:(x==("__debug__" : Str))=false:=by decide):PE X (.Name x pos) (tC v) :=
 fun _ _ _ H _ I h=>zcp I hg hm ⟨v,H,I,r,h⟩ hd
theorem zgh{x:Str}{v:V}{u:Value}{pos:Pos}(hg:Gl X x)(hm:X.mg x=none)(hv:bootBuiltins x=some u)(r:RelV v u)(hn:x ≠ "__name__":=by decide)(hd:(x==("__debug__" : Str))=false:=by decide):PE X (.Name x pos) (tC v) :=
 fun _ _ _ H _ I h=>zfj I hg hm hv ⟨v,H,I,r,h⟩ hn hd
variable {a b:Expr} {ta tb:TE} {pos:Pos}
def PC(X:Cx)(op:CmpOp)(a b:Expr)(t:TE):Prop :=
 ∀(pins:List (Addr×Obj)) (s:Shared) (σ:St) (H:Hp) (Q:VK),Inv X pins σ H s->t σ H Q ->
  wpAny (model X.prog X.w) X.A (eval a X.env) (fun v s₁=>wpAny (model X.prog X.w) X.A (eval b X.env) (fun u s₂=>wpAny (model X.prog X.w) X.A (compareOp op v u) (EP X pins σ Q) X.xe s₂) X.xe s₁) X.xe s
theorem zhz(b:Expr){op:CmpOp}(h:op≠.In)(h2:op≠.NotIn):behindInMarks op b=false:=by
 have e1:(op==CmpOp.In)=false:=by cases op <;> first | rfl | exact absurd rfl h
 have e2:(op==CmpOp.NotIn)=false:=by cases op <;> first | rfl | exact absurd rfl h2
 cases b <;> simp[behindInMarks,e1,e2]
def tB(t:TE):TT:=fun σ H Q=>t σ H fun x H1=>∃c,x=.bl c/\Q c H1
theorem zo1{op:CmpOp}{t:TE}(h:PC X op a b t)(h1:behindInMarks op b=false:=by first | exact zhz _ (by decide) (by decide) | rfl):PT X (.Compare a [op] [b] pos) (tB t):=by
 intro pins s σ H Q I hw
 refine wpAny_isTrue_Compare1 (thn (h pins s σ H _ I hw) fun v s1 h1=>thn h1 fun u s2 h2=>thn h2 fun c s3 ⟨x,H1,I1,r1,q1⟩=>?_) h1
 obtain⟨d,rfl,q⟩:=q1
 cases r1
 exact wpAny_truthy_bool ⟨H1,I1,q⟩
theorem zln{e:Expr}{t:TE}(h:PE X e t)(he:∀whole,isTrue e X.env whole=(do let v ← whole;standAt e.pos;holding [v] (truthy v)):=by intro _;rfl):PT X e (tB t):=by
 intro pins s σ H Q I hw
 refine isTrue_plain (thn (h pins s σ H _ I hw) fun v s1 ⟨x,H1,I1,r1,q1⟩=>?_) (he _)
 obtain⟨d,rfl,q⟩:=q1
 cases r1
 exact wpAny_truthy_bool ⟨H1,I1,q⟩
variable {tA tB':TT} {rest:List Expr}
def tAnd(t u:TT):TT:=fun σ H Q=>t σ H fun c H1=>if c=true then u σ H1 Q else Q false H1
def tOr(t u:TT):TT:=fun σ H Q=>t σ H fun c H1=>if c=true then Q true H1 else u σ H1 Q
def tNot(t:TT):TT:=fun σ H Q=>t σ H fun c H1=>Q (!c) H1
theorem zjo(ha:PT X a tA):PW X (.BoolOp .And [a] pos) tA:=by
 intro wh pins s σ H Q I h
 refine isTrue_and (thn (ha pins s σ H Q I h) fun c s1 e=>?_)
 cases c with
 | true=>exact isTrue_and_nil e
 | false=>exact e
theorem zlo(ha:PT X a tA):PW X (.BoolOp .Or [a] pos) tA:=by
 intro wh pins s σ H Q I h
 refine isTrue_or (thn (ha pins s σ H Q I h) fun c s1 e=>?_)
 cases c with
 | false=>exact isTrue_or_nil e
 | true=>exact e
theorem zlp(ha:PT X a tA)(hb:PW X (.BoolOp .And (b::rest) pos) tB'):PW X (.BoolOp .And (a::b::rest) pos) (tAnd tA tB'):=by
 intro wh pins s σ H Q I h
 refine isTrue_and (thn (ha pins s σ H _ I h) fun c s1 ⟨H1,I1,q1⟩=>?_)
 cases c with
 | true=>exact hb wh pins s1 σ H1 Q I1 q1
 | false=>exact⟨H1,I1,q1⟩
theorem znt(ha:PT X a tA)(hb:PW X (.BoolOp .Or (b::rest) pos) tB'):PW X (.BoolOp .Or (a::b::rest) pos) (tOr tA tB'):=by
 intro wh pins s σ H Q I h
 refine isTrue_or (thn (ha pins s σ H _ I h) fun c s1 ⟨H1,I1,q1⟩=>?_)
 cases c with
 | true=>exact⟨H1,I1,q1⟩
 | false=>exact hb wh pins s1 σ H1 Q I1 q1
theorem zlq(ha:PT X a tA):PT X (.UnaryOp .Not a pos) (tNot tA):=by
 intro pins s σ H Q I h
 exact isTrue_not (ha pins s σ H (fun c H1=>Q (!c) H1) I h)
def znu(ta tb:TE):TE:=fun σ H Q=>ta σ H fun x H1=>∃c,x=.bl c/\if c=true then tb σ H1 Q else Q (.bl false) H1
def znv(ta:TE):TE:=fun σ H Q=>ta σ H fun x H1=>∃c,x=.bl c/\Q (.bl (!c)) H1
theorem zlr{op}{t:TE}(h:PE X a t):PE X (.BoolOp op [a] pos) t:=fun pins s σ H Q I hw=>BoolOp_one (h pins s σ H Q I hw)
theorem zls(ha:PE X a ta)(hb:PE X (.BoolOp .And (b::rest) pos) tb):PE X (.BoolOp .And (a::b::rest) pos) (znu ta tb):=by
 intro pins s σ H Q I h
 refine BoolOp_and (thn (ha pins s σ H _ I h) fun v s1 ⟨x,H1,I1,r1,q1⟩=>?_)
 obtain⟨c,rfl,q1⟩:=q1
 cases r1
 refine wpAny_truthy_bool ?_
 cases c with
 | true=>exact hb pins s1 σ H1 Q I1 q1
 | false=>exact⟨.bl false,H1,I1,rfl,q1⟩
theorem zlt(ha:PE X a ta):PE X (.UnaryOp .Not a pos) (znv ta):=by
 intro pins s σ H Q I h
 refine UnaryOp_ (thn (ha pins s σ H _ I h) fun v s1 ⟨x,H1,I1,r1,q1⟩=>?_)
 obtain⟨c,rfl,q1⟩:=q1
 cases r1
 exact not_of (wpAny_truthy_bool ⟨.bl (!c),H1,I1,rfl,q1⟩)
end
def SqL(K:PySem.W.Frag)(H:Hp)(a:Addr)(xs:List V):Prop :=
 Rd H a (.lst xs) \/
  ∃(o:Obj) (its:Array Value) (n:Nat),K.lookup a=some o/\o.cls=.type "list"/\o.dict=none/\o.data=.seq its n/\its.size<=sizeLine/\Vals xs its.toList
def SqT(K:PySem.W.Frag)(H:Hp)(a:Addr)(xs:List V):Prop :=
 Rd H a (.tup xs) \/
  ∃(o:Obj) (its:Array Value) (n:Nat),K.lookup a=some o/\o.cls=.type "tuple"/\o.data=.seq its n/\its.size<=sizeLine/\Vals xs its.toList
def absV:Value->Option V
 | .none=>some .non
 | .bool b=>some (.bl b)
 | .int i _=>some (.int i)
 | .str x _=>some (.str x)
 | .bytes b _=>some (.byt b)
 | .float b _=>some (.flt b)
 | .ref a=>some (.ref a)
 | .type n=>some (.ty n)
 | _=>none
theorem RelV.abs{x:V}(r:RelV x u):absV u=some x:=by
 cases x with
 | non=>cases r;rfl
 | bl _=>cases r;rfl
 | int _=>obtain⟨t,rfl⟩:=r;rfl
 | str _=>obtain⟨t,rfl⟩:=r;rfl
 | byt _=>obtain⟨t,rfl⟩:=r;rfl
 | flt _=>obtain⟨t,rfl⟩:=r;rfl
 | ref _=>cases r;rfl
 | ty _=>cases r;rfl
theorem RelV.inj{x y:V}{u:Value}(r:RelV x u)(q:RelV y u):x=y:=Option.some.inj (r.abs.symm.trans q.abs)
theorem Vals.inj:∀ {xs ys:List V} {us:List Value},Vals xs us->Vals ys us->xs=ys
 | _,_,_,.nil,.nil=>rfl
 | _,_,_,.cons r t,.cons r' t'=>by rw[r.inj r',Vals.inj t t']
variable{K:PySem.W.Frag}{xs:List V}
theorem SqL.of(h:H a=some (.lst xs)):SqL K H a xs:=.inl (.inl h)
theorem SqT.of(h:H a=some (.tup xs)):SqT K H a xs:=.inl (.inl h)
variable{σ:St}
theorem Inv.list(I:Inv X pins σ H s)(h:SqL X.K H a xs):∃its:List Value,Vals xs its/\PlainL s.heap a its.toArray/\xs.length<=sizeLine:=by
 rcases h with h | ⟨o,its,n,hk,hc,hd,hs,hz,r⟩
 ·obtain⟨z,its,n,r,e⟩:=h.ok I.hok
  exact⟨its,r,⟨_,n,e,rfl,rfl,rfl⟩,z⟩
 ·refine⟨its.toList,r,⟨o,n,I.kIn a o hk,hc,hd,by simpa using hs⟩,?_⟩
  have e:=r.length
  simp only[Array.length_toList] at e
  omega
theorem Inv.tuple(I:Inv X pins σ H s)(h:SqT X.K H a xs):∃its:List Value,Vals xs its/\IsTup s.heap a its.toArray/\xs.length<=sizeLine:=by
 rcases h with h | ⟨o,its,n,hk,hc,hs,hz,r⟩
 ·obtain⟨z,its,r,p⟩:=h.ok I.hok
  exact⟨its,r,p,z⟩
 ·refine⟨its.toList,r,⟨o,I.kIn a o hk,hc,n,by simpa using hs⟩,?_⟩
  have e:=r.length
  simp only[Array.length_toList] at e
  omega
variable{ys:List V}
theorem Inv.list_inj(I:Inv X pins σ H s)(h:SqL X.K H a xs)(h':SqL X.K H a ys):xs=ys:=by
 obtain⟨its,r,⟨o,n,e,_,_,d⟩,_⟩:=I.list h
 obtain⟨its',r',⟨o',n',e',_,_,d'⟩,_⟩:=I.list h'
 rw[e] at e';cases e'
 rw[d] at d'
 injection d' with d1 _
 have:its=its':=by simpa using congrArg Array.toList d1
 subst this
 exact r.inj r'
theorem Inv.tuple_inj(I:Inv X pins σ H s)(h:SqT X.K H a xs)(h':SqT X.K H a ys):xs=ys:=by
 obtain⟨its,r,⟨o,e,_,n,d⟩,_⟩:=I.tuple h
 obtain⟨its',r',⟨o',e',_,n',d'⟩,_⟩:=I.tuple h'
 rw[e] at e';cases e'
 rw[d] at d'
 injection d' with d1 _
 have:its=its':=by simpa using congrArg Array.toList d1
 subst this
 exact r.inj r'
abbrev Cx.wish(X:Cx)(E:Value->Shared->Prop):Cx:={ X with xe:=E }
abbrev Cx.nox(X:Cx):Cx:=X.wish fun _ _=>False
theorem Cx.Ok.wish(ok:X.Ok)(E:Value->Shared->Prop):(X.wish E).Ok :=
 ⟨ok.mod,ok.kind,ok.glob,ok.blt,ok.above,ok.inj,ok.has,ok.cab,ok.hd,ok.frames,ok.stk,ok.exf,ok.bs,ok.bsz,ok.noex,ok.exfs,ok.funs,ok.frf⟩
theorem Cx.Ok.unwish(ok:(X.wish E).Ok):X.Ok :=
 ⟨ok.mod,ok.kind,ok.glob,ok.blt,ok.above,ok.inj,ok.has,ok.cab,ok.hd,ok.frames,ok.stk,ok.exf,ok.bs,ok.bsz,ok.noex,ok.exfs,ok.funs,ok.frf⟩
theorem Inv.wish(I:Inv X pins σ H s)(E:Value->Shared->Prop):Inv (X.wish E) pins σ H s:=⟨I.ok.wish E,I.os,I.bare,I.base,I.loc,I.cell,I.free,I.freeC,I.pin,I.hok,I.len⟩
theorem Inv.unwish(I:Inv (X.wish E) pins σ H s):Inv X pins σ H s:=⟨I.ok.unwish,I.os,I.bare,I.base,I.loc,I.cell,I.free,I.freeC,I.pin,I.hok,I.len⟩
theorem SP.unwish{D:Ends}{f:Flow}{s':Shared}(h:SP (X.wish E) pins D f s'):SP X pins D f s':=by
 cases f with
 | next=>obtain⟨σ',H',I,q⟩:=h;exact⟨σ',H',I.unwish,q⟩
 | brk=>obtain⟨σ',H',I,q⟩:=h;exact⟨σ',H',I.unwish,q⟩
 | cont=>obtain⟨σ',H',I,q⟩:=h;exact⟨σ',H',I.unwish,q⟩
 | ret u=>obtain⟨v,σ',H',I,r,q⟩:=h;exact⟨v,σ',H',I.unwish,r,q⟩
theorem PE.nox{t:TE}(h:PE X.nox e t):PE X e t:=fun pins s σ H Q I hw =>
 wpAny_mono (h pins s σ H Q (I.wish _) hw) (fun _ _ ⟨v,H',I',r,q⟩=>⟨v,H',I'.unwish,r,q⟩) fun _ _ z=>False.elim z
theorem PT.nox(h:PT X.nox e t):PT X e t:=fun pins s σ H Q I hw =>
 wpAny_mono (h pins s σ H Q (I.wish _) hw) (fun _ _ ⟨H',I',q⟩=>⟨H',I'.unwish,q⟩) fun _ _ z=>False.elim z
variable{t:TA}
theorem PSs.nox{st:List Stmt}{t:TS}(h:PSs X.nox st t):PSs X st t:=fun pins s σ H D I hw =>
 wpAny_mono (h pins s σ H D (I.wish _) hw) (fun _ _ q=>q.unwish) fun _ _ z=>False.elim z
section
variable {X:Cx} {st:Stmt} {rest:List Stmt} {t u:TS} {e:Expr} {te:TE} {pos:Pos}
def znw:TS:=fun D σ H=>D.nx σ H
def tSeq(t u:TS):TS:=fun D σ H=>t { D with nx:=u D } σ H
theorem zjp:PSs X [] znw:=fun _ _ σ H _ I h=>wpAny_execs_nil ⟨σ,H,I,h⟩
theorem zh0(h1:PS X st t)(h2:PSs X rest u):PSs X (st::rest) (tSeq t u):=by
 intro pins s σ H D I h
 refine wpAny_execs_cons (thn (h1 pins s σ H { D with nx:=u D } I h) fun f s1 q=>?_)
 cases f with
 | next =>
   obtain⟨σ',H',I',q⟩:=q
   exact h2 pins s1 σ' H' D I' q
 | ret v=>exact q
 | brk=>exact q
 | cont=>exact q
theorem zjq(h1:PS X st t):PSs X [st] t:=by
 intro pins s σ H D I h
 refine wpAny_execs_cons (thn (h1 pins s σ H D I h) fun f s1 q=>?_)
 cases f with
 | next=>exact wpAny_execs_nil q
 | ret v=>exact q
 | brk=>exact q
 | cont=>exact q
theorem Inv.quiet{pins:List (Addr×Obj)}{σ:St}{H:Hp}{s:Shared}(I:Inv X pins σ H s):interactive X.env=false:=by simp[interactive,I.ok.kind]
def znx(te:TE):TS:=fun D σ H=>te σ H fun _ H1=>D.nx σ H1
theorem zjr(he:PE X e te)(hs:swapsWith e none pos.line X.env=pure false:=by rfl):PS X (.Expr e pos) (znx te):=by
 intro pins s σ H D I h
 exact wpAny_Expr_any (thn (he pins s σ H _ I h) fun v s1 ⟨x,H1,I1,r1,q1⟩=>⟨σ,H1,I1,q1⟩) I.quiet hs
def tRet(te:TE):TS:=fun D σ H=>te σ H D.rt
theorem zi3(he:PE X e te):PS X (.Return (some e) pos) (tRet te):=by
 intro pins s σ H D I h
 exact wpAny_Return_some (thn (he pins s σ H _ I h) fun v s1 ⟨x,H1,I1,r1,q1⟩=>⟨x,σ,H1,I1,r1,q1⟩)
def tIfS(c:TT)(t u:TS):TS:=fun D σ H=>c σ H fun b H1=>if b=true then t D σ H1 else u D σ H1
theorem zny{c:Expr}{a b:List Stmt}{tc:TT}(hc:PT X c tc)(ha:PSs X a t)(hb:PSs X b u):PS X (.If c a b pos) (tIfS tc t u):=by
 intro pins s σ H D I h
 refine wpAny_If (thn (hc pins s σ H _ I h) fun d s1 ⟨H1,I1,q1⟩=>?_)
 cases d with
 | true=>exact ha pins s1 σ H1 D I1 q1
 | false=>exact hb pins s1 σ H1 D I1 q1
end
abbrev TG:=V->St->Hp->(St->Hp->Prop)->Prop
abbrev TGs:=List V->St->Hp->(St->Hp->Prop)->Prop
def PG(X:Cx)(target:Expr)(t:TG):Prop :=
 ∀(pins:List (Addr×Obj)) (s:Shared) (σ:St) (H:Hp) (v:V) (u:Value) (Q:St->Hp->Prop),Inv X pins σ H s->RelV v u->t v σ H Q ->
  wpAny (model X.prog X.w) X.A (assign target X.env u) (fun _ s'=>∃σ' H',Inv X pins σ' H' s'/\Q σ' H') X.xe s
def PGs(X:Cx)(ts:List Expr)(t:TGs):Prop :=
 ∀(pins:List (Addr×Obj)) (s:Shared) (σ:St) (H:Hp) (vs:List V) (us:List Value) (Q:St->Hp->Prop),Inv X pins σ H s->Vals vs us->t vs σ H Q ->
  wpAny (model X.prog X.w) X.A (assignInOrder ((assignEach ts X.env).map (·.2)) us) (fun _ s'=>∃σ' H',Inv X pins σ' H' s'/\Q σ' H') X.xe s
abbrev TIp:=V->V->Hp->VK->Prop
def PIp(X:Cx)(op:Operator)(t:TIp):Prop :=
 ∀(pins:List (Addr×Obj)) (s:Shared) (σ:St) (H:Hp) (x y:V) (v u:Value) (Q:VK),Inv X pins σ H s->RelV x v->RelV y u->t x y H Q ->
  wpAny (model X.prog X.w) X.A (inplaceOp op v u) (EP X pins σ Q) X.xe s
def zcy(i:Nat):TG:=fun v σ H Q=>Q (σ.set i (some v)) H
variable{pos:Pos}
theorem zgi(hN:X.N.Nodup)(hi:X.N[i]?=some x)(hx:Loc X.env.scope x)(hf:X.fn x=true\/X.env.scope.names.lookup x=some .local:=by first | exact .inl rfl | exact .inr rfl | assumption):PG X (.Name x pos) (zcy i):=by
 intro pins s σ H v u Q I r h
 exact wpAny_assign_Name (zc0 I hN hi hx r (fun s' I'=>⟨_,H,I',h⟩) hf)
def gNil:TGs:=fun vs σ H Q=>vs=[]/\Q σ H
def zlu(t:TG)(u:TGs):TGs:=fun vs σ H Q=>∃v r,vs=v::r/\t v σ H fun σ' H'=>u r σ' H' Q
theorem zjs:PGs X [] gNil:=by
 intro pins s σ H vs us Q I r h
 obtain⟨e,h⟩:=h
 subst e
 cases r
 exact assignInOrder_nil ⟨σ,H,I,h⟩
variable{es:List Expr}
theorem zh1{t:TG}{u:TGs}(h1:PG X e t)(h2:PGs X es u)(hs:(assignEach (e::es) X.env).map (·.2)=assign e X.env::(assignEach es X.env).map (·.2):=by rfl):PGs X (e::es) (zlu t u):=by
 intro pins s σ H vs us Q I r h
 obtain⟨v,vr,e1,h⟩:=h
 subst e1
 cases r with
 | cons r rr =>
   rw[hs]
   refine assignInOrder_cons (thn (h1 pins s σ H _ _ _ I r h) fun _ s1 ⟨σ1,H1,I1,q1⟩=>?_)
   exact h2 pins s1 σ1 H1 _ _ Q I1 rr q1
def gTup(K:PySem.W.Frag)(n:Nat)(t:TGs):TG:=fun v σ H Q=>∃a xs,v=.ref a/\SqT K H a xs/\xs.length=n/\t xs σ H Q
variable{k n:Nat}
theorem zlv{t:TGs}(hc:X.calm=true)(h:PGs X es t)(hn:(assignEach es X.env).length=n:=by rfl)(hst:(assignEach es X.env).findIdx? (·.1)=none:=by rfl):PG X (.Tuple es k pos) (gTup X.K n t):=by
 intro pins s σ H v u Q I r hw
 obtain⟨a,xs,e1,hq,hl,hw⟩:=hw
 subst e1
 cases r
 obtain⟨its,rv,ht,hz⟩:=I.tuple hq
 refine assign_Tuple_tuple (I.ok.hd hc) ht (by simp[hn,← hl,rv.length]) hst fun h' hx=>?_
 have I1:Inv X pins σ H { s with heap:=h' }:=I.kept (t':=s.toks) fun b o e=>hx b o (Nat.ne_of_lt (Heap.lt_size e)) e
 exact h pins _ σ H xs _ Q I1 (by simpa using rv) hw
def tAsg(te:TE)(g:TG):TS:=fun D σ H=>te σ H fun x H1=>g x σ H1 D.nx
variable{te:TE}{pos':Pos}
theorem zi4(hN:X.N.Nodup)(hi:X.N[i]?=some x)(hx:Loc X.env.scope x)(he:PE X e te)(hs:swapsWith e (some (.Name x pos')) pos.line X.env=pure false:=by rfl)(hf:X.fn x=true\/X.env.scope.names.lookup x=some .local:=by first | exact .inl rfl | exact .inr rfl | assumption) :
  PS X (.Assign [.Name x pos'] e pos) (tAsg te (zcy i)):=by
 intro pins s σ H D I h
 refine wpAny_Assign_Name (thn (he pins s σ H _ I h) fun v s1 ⟨y,H1,I1,r1,q1⟩=>?_) hs
 exact zc0 I1 hN hi hx r1 (fun s2 I2=>⟨_,H1,I2,q1⟩) hf
def tAug(i:Nat)(te:TE)(ti:TIp):TS:=fun D σ H=>∃x,σ[i]?=some (some x)/\te σ H fun y H1=>ti x y H1 fun z H2=>D.nx (σ.set i (some z)) H2
variable{op:Operator}
theorem zlw{ti:TIp}(hN:X.N.Nodup)(hi:X.N[i]?=some x)(hx:Loc X.env.scope x)(he:PE X e te)(ho:PIp X op ti)(hf:X.fn x=true\/X.env.scope.names.lookup x=some .local:=by first | exact .inl rfl | exact .inr rfl | assumption) :
  PS X (.AugAssign (.Name x pos') op e pos) (tAug i te ti):=by
 intro pins s σ H D I h
 obtain⟨v,e1,h⟩:=h
 obtain⟨m,hn,hl⟩:=I.loc
 have vis:Vis X.env.scope x:=by rcases hx with k | k;exact .inl k;exact .inr (.inl k)
 obtain⟨u,r,l⟩:=hl i x v hi e1 vis
 refine wpAny_AugAssign_Name ?_
 have go:wpAny (model X.prog X.w) X.A (eval e X.env) (fun w s₂=>wpAny (model X.prog X.w) X.A (inplaceOp op u w) (fun r s₃=>wpAny (model X.prog X.w) X.A (storeName X.env x r) (fun _=>SP X pins D .next) X.xe s₃) X.xe s₂) X.xe s:=by
  refine thn (he pins s σ H _ I h) fun w s1 ⟨y,H1,I1,r1,q1⟩=>?_
  refine thn (ho pins s1 σ H1 v y u w _ I1 r r1 q1) fun z s2 ⟨zv,H2,I2,r2,q2⟩=>?_
  exact zc0 I2 hN hi hx r2 (fun s3 I3=>⟨_,H2,I3,q2⟩) hf
 rcases l with⟨hk,hm⟩ | ⟨hk,c,hc,hcell⟩
 ·exact wpAny_loadName_local I.ok.kind hk hn hm go
 ·rcases hk with hk | hk
  ·exact wpAny_loadName_cell I.ok.kind hk hc hcell go
  ·rcases hx with k | k
   ·have:X.env.scope.names.lookup x=some .free:=hk
    rw[k] at this;cases this
   ·have:X.env.scope.names.lookup x=some .free:=hk
    rw[k] at this;cases this
def ipI(f:Int->Int->Int):TIp:=fun x y H Q=>∃i j,x=.int i/\y=.int j/\Q (.int (f i j)) H
theorem zlx:PIp X .Add (ipI fun i j=>i+j):=by
 intro pins s σ H x y v u Q I r1 r2 h
 obtain⟨i,j,e1,e2,q⟩:=h
 subst e1;subst e2
 obtain⟨t,rfl⟩:=r1
 obtain⟨t',rfl⟩:=r2
 exact iadd_int ⟨.int _,H,I.tok _,⟨_,rfl⟩,q⟩
structure It where
 go:Nat->Hp->Prop
 yld:Nat->Hp->V->Hp->Prop
 stop:Nat->Hp->Prop
def FpOk(X:Cx)(pins:List (Addr×Obj))(H:Hp)(b:Addr):Prop :=
 H b=none/\b≠X.env.locals/\b∉X.fs/\(b∈X.ex\/X.s₀.heap.objs.size<=b)/\(∀x c,X.env.cells.lookup x=some c->c≠b)/\∀p∈X.pn++pins,p.1≠b
theorem Inv.fpOk(I:Inv X pins σ H s)(hb:s.heap.objs.size<=b)(hn:H' b=none):FpOk X pins H' b:=by
 refine⟨hn,Nat.ne_of_gt (Nat.lt_of_lt_of_le I.lt hb),I.nofs hb,.inr (Nat.le_trans I.sz hb),fun x c e z=>?_,fun p hp z=>?_⟩
 ·obtain⟨v,q⟩:=I.cell x c e
  exact absurd (Nat.lt_of_lt_of_le q.lt (by rw[z];exact hb)) (Nat.lt_irrefl _)
 ·exact absurd (Nat.lt_of_lt_of_le (Heap.lt_size (I.pin p hp).1) (by rw[z];exact hb)) (Nat.lt_irrefl _)
structure ze4 (Cm:Cx->Prop) (P:Program) (w:World) (K:PySem.W.Frag) (tg:Expr) (J:It) (fp:List Addr) (it:Addr) (tn:Nat->Heap->Prop):Prop where
 mem:it∈fp
 obj:∀i h,tn i h->∀b∈fp,∃o,h.get? b=some o/\∀v,o.data≠.cell v
 keep:∀i h h',tn i h->(∀b∈fp,∀o,h.get? b=some o->h'.get? b=some o)->tn i h'
 item:∀(X:Cx),X.prog=P->X.w=w->X.K=K->Cm X->∀(i:Nat) (pins:List (Addr×Obj)) (s:Shared) (σ:St) (H:Hp) (E:Value->Shared->Prop),Inv X pins σ H s->(∀b∈fp,FpOk X pins H b)->tn i s.heap->J.go i H ->
  wpAny (model P w) X.A (pyNext (.ref it)) (fun r s1=>∃u,r=some u /\
   wpAny (model P w) X.A (letOwnedTupleGo tg (.ref it) u) (fun _ s2=>∃x H',Inv X pins σ H' s2/\RelV x u/\J.yld i H x H'/\tn (i+1) s2.heap/\∀b∈fp,H' b=none) E s1) E s
 done:∀(X:Cx),X.prog=P->X.w=w->X.K=K->Cm X->∀(i:Nat) (pins:List (Addr×Obj)) (s:Shared) (σ:St) (H:Hp) (E:Value->Shared->Prop),Inv X pins σ H s->(∀b∈fp,FpOk X pins H b)->tn i s.heap->J.stop i H ->
  wpAny (model P w) X.A (pyNext (.ref it)) (fun r s1=>r=none/\Inv X pins σ H s1) E s
 self:∀(A:Around) (i:Nat) (s:Shared) (Q:Value->Shared->Prop) (E:Value->Shared->Prop),tn i s.heap->Q (.ref it) s->wpAny (model P w) A (pyIter (.ref it)) Q E s
abbrev Turn:=ze4 fun X=>X.calm=true
abbrev TI:=St->Hp->(It->Hp->Prop)->Prop
def PIEC(Cm:Cx->Prop)(X:Cx)(pins:List (Addr×Obj))(σ:St)(tg:Expr)(R:It->Hp->Prop)(itv:Value)(s2:Shared):Prop :=
 ∃(it:Addr) (fp:List Addr) (tn:Nat->Heap->Prop) (J:It) (H':Hp),itv=.ref it/\Inv X pins σ H' s2/\ze4 Cm X.prog X.w X.K tg J fp it tn/\tn 0 s2.heap/\(∀b∈fp,FpOk X pins H' b)/\R J H'
def PIC(Cm:Cx->Prop)(X:Cx)(tg iter:Expr)(wi:TI):Prop :=
 ∀(pins:List (Addr×Obj)) (s:Shared) (σ:St) (H:Hp) (R:It->Hp->Prop),Inv X pins σ H s->wi σ H R ->
  wpAny (model X.prog X.w) X.A (eval iter X.env) (fun v s1=>wpAny (model X.prog X.w) X.A (pyIter v) (PIEC Cm X pins σ tg R) X.xe s1) X.xe s
abbrev PI:=PIC fun X=>X.calm=true
variable{tg:Expr}{vs:List V}
theorem zh2{n:String}{vs:Array Value}(ho:s.heap.get? it=some o)(hc:o.cls=.type n)(hd:o.data=.fields vs)(hn:["enumerate", "zip", "dict_itemiterator", "dict_reverseitemiterator", "odict_iterator", "itertools.zip_longest", "itertools.pairwise"].contains n=false)(hQ:Q () s):wpAny M A (letOwnedTupleGo tg (.ref it) u) Q E s:=by
 unfold letOwnedTupleGo
 cases tg <;> first
  | exact wpAny_pure hQ
  | (cases u <;> first
      | exact wpAny_pure hQ
      | (refine wpAny_bind (wpAny_load ho ?_)
         rw[hc,hd]
         show wpAny M A (if (["enumerate", "zip", "dict_itemiterator", "dict_reverseitemiterator", "odict_iterator", "itertools.zip_longest", "itertools.pairwise"].contains n && vs[0]?==some (rawInt _))=true then _ else _) Q E s
         rw[if_neg (by intro h;rw[hn,Bool.false_and] at h;cases h)]
         exact wpAny_pure hQ))
def Itl(K:PySem.W.Frag)(a:Addr):It :=
 ⟨fun i H=>∃xs x,SqL K H a xs/\xs[i]?=some x,fun i H x H'=>H'=H/\∀xs,SqL K H a xs->xs[i]?=some x,fun i H=>∃xs,SqL K H a xs/\xs.length<=i⟩
def Itt(K:PySem.W.Frag)(a:Addr):It :=
 ⟨fun i H=>∃xs x,SqT K H a xs/\xs[i]?=some x,fun i H x H'=>H'=H/\∀xs,SqT K H a xs->xs[i]?=some x,fun i H=>∃xs,SqT K H a xs/\xs.length<=i⟩
def Itr(lo:Int)(n:Nat):It:=⟨fun i _=>i<n,fun i H x H'=>H'=H/\x=.int (lo+i),fun i _=>n<=i⟩
theorem zgj(a it:Addr):Turn P w K tg (Itl K a) [it] it (fun i h=>h.IsListIter it a i) where
 mem:=by simp
 obj:=fun i h st b hb=>by
  have e:b=it:=by simpa using hb
  subst e
  obtain⟨o,e,c,d⟩:=st
  exact⟨o,e,fun v z=>by rw[d] at z;cases z⟩
 keep:=fun i h h' st k=>st.at fun o e=>k it (by simp) o e
 item:=by
  intro X hP hw hK hc i pins s σ H E I hf st hg
  subst hP hw hK
  obtain⟨xs,x,hq,hx⟩:=hg
  obtain⟨its,rv,p,hz⟩:=I.list hq
  obtain⟨u,hu,ru⟩:=rv.get hx
  obtain⟨f0,f1,f2,f3,f4,f5⟩:=hf it (by simp)
  refine wpAny_pyNext_list_item st p.isList (x:=u) (by simpa using hu) fun h' st' sb=>?_
  have I1:Inv X pins σ H { s with heap:=h' }:=I.turned (t':=s.toks) (fun b o hb e=>(sb.2 b hb).trans e) f0 f1 f3 f4 f5
  obtain⟨o,e,c,d⟩:=id st'
  exact⟨u,rfl,zh2 (s:={ s with heap:=h' }) e c d (by decide) ⟨x,H,I1,ru,⟨rfl,fun ys hy=>by rw[I.list_inj hy hq];exact hx⟩,st',fun b hb=>(hf b hb).1⟩⟩
 done:=by
  intro X hP hw hK hc i pins s σ H E I hf st hg
  subst hP hw hK
  obtain⟨xs,hq,hx⟩:=hg
  obtain⟨its,rv,p,hz⟩:=I.list hq
  obtain⟨f0,f1,f2,f3,f4,f5⟩:=hf it (by simp)
  have hl:=rv.length
  exact wpAny_pyNext_list_end (I.ok.hd hc) st p.isList (by simp;omega) fun h' eb=>⟨rfl,I.turned (t':=s.toks) (fun b o hb e=>eb b o hb e) f0 f1 f3 f4 f5⟩
 self:=fun _ _ _ _ _ st h=>wpAny_pyIter_listiter st h
theorem zf5(a it:Addr):Turn P w K tg (Itt K a) [it] it (fun i h=>h.IsTupleIter it a i) where
 mem:=by simp
 obj:=fun i h st b hb=>by
  have e:b=it:=by simpa using hb
  subst e
  obtain⟨o,e,c,d⟩:=st
  exact⟨o,e,fun v z=>by rw[d] at z;cases z⟩
 keep:=fun i h h' st k=>st.at fun o e=>k it (by simp) o e
 item:=by
  intro X hP hw hK hc i pins s σ H E I hf st hg
  subst hP hw hK
  obtain⟨xs,x,hq,hx⟩:=hg
  obtain⟨its,rv,p,hz⟩:=I.tuple hq
  obtain⟨u,hu,ru⟩:=rv.get hx
  obtain⟨f0,f1,f2,f3,f4,f5⟩:=hf it (by simp)
  refine wpAny_pyNext_tuple_item st (show s.heap.IsTuple a its.toArray from p) (x:=u) (by simpa using hu) fun h' st' sb=>?_
  have I1:Inv X pins σ H { s with heap:=h' }:=I.turned (t':=s.toks) (fun b o hb e=>(sb.2 b hb).trans e) f0 f1 f3 f4 f5
  obtain⟨o,e,c,d⟩:=id st'
  exact⟨u,rfl,zh2 (s:={ s with heap:=h' }) e c d (by decide) ⟨x,H,I1,ru,⟨rfl,fun ys hy=>by rw[I.tuple_inj hy hq];exact hx⟩,st',fun b hb=>(hf b hb).1⟩⟩
 done:=by
  intro X hP hw hK hc i pins s σ H E I hf st hg
  subst hP hw hK
  obtain⟨xs,hq,hx⟩:=hg
  obtain⟨its,rv,p,hz⟩:=I.tuple hq
  obtain⟨f0,f1,f2,f3,f4,f5⟩:=hf it (by simp)
  have hl:=rv.length
  exact wpAny_pyNext_tuple_end (I.ok.hd hc) st (show s.heap.IsTuple a its.toArray from p) (by simp;omega) fun h' eb=>⟨rfl,I.turned (t':=s.toks) (fun b o hb e=>eb b o hb e) f0 f1 f3 f4 f5⟩
 self:=fun _ _ _ _ _ st h=>wpAny_pyIter_tupleiter st h
theorem zcb(it:Addr)(lo:Int)(n:Nat):Turn P w K tg (Itr lo n) [it] it (fun i h=>IsRangeIter h it (lo+(i:Nat)*1) ((n:Int)-(i:Nat)) 1) where
 mem:=by simp
 obj:=fun i h st b hb=>by
  have e:b=it:=by simpa using hb
  subst e
  exact⟨_,st,fun v z=>by
   have z':Data.fields _=Data.cell v:=z
   cases z'⟩
 keep:=fun i h h' st k=>k it (by simp) _ st
 item:=by
  intro X hP hw hK hc i pins s σ H E I hf st hg
  subst hP hw hK
  obtain⟨f0,f1,f2,f3,f4,f5⟩:=hf it (by simp)
  have W:=Walks.range (prog:=X.prog) (w:=X.w) (I.ok.hd hc) it lo 1 n
  refine W.item i s _ _ hg st fun v h' tk hv st' kk=>?_
  obtain⟨t,rfl⟩:=hv
  have I1:Inv X pins σ H { s with heap:=h',toks:=tk }:=I.turned (fun b o hb e=>kk b o (by simpa using hb) e) f0 f1 f3 f4 f5
  refine⟨_,rfl,zh2 (s:={ s with heap:=h',toks:=tk }) (n:="range_iterator") st' rfl rfl (by decide) ⟨.int (lo+i),H,I1,⟨t,?_⟩,⟨rfl,rfl⟩,st',fun b hb=>(hf b hb).1⟩⟩
  rw[Int.mul_one]
 done:=by
  intro X hP hw hK hc i pins s σ H E I hf st hg
  subst hP hw hK
  obtain⟨f0,f1,f2,f3,f4,f5⟩:=hf it (by simp)
  exact wpAny_pyNext_range_end (I.ok.hd hc) st (by have:n<=i:=hg;omega) fun h' eb=>⟨rfl,I.turned (t':=s.toks) (fun b o hb e=>eb b o hb e) f0 f1 f3 f4 f5⟩
 self:=fun _ _ _ _ _ st h=>wpAny_pyIter_rangeiter st h
def znz(K:PySem.W.Frag)(tl:TE):TI:=fun σ H R=>tl σ H fun x H1=>∃a,x=.ref a/\(∃xs,SqL K H1 a xs)/\R (Itl K a) H1
def iTup(K:PySem.W.Frag)(tl:TE):TI:=fun σ H R=>tl σ H fun x H1=>∃a,x=.ref a/\(∃xs,SqT K H1 a xs)/\R (Itt K a) H1
variable{l:Expr}{tl:TE}
theorem zjt(hl:PE X l tl):PI X tg l (znz X.K tl):=by
 intro pins s σ H R I h
 refine thn (hl pins s σ H _ I h) fun v s1 ⟨x,H1,I1,r1,q1⟩=>?_
 obtain⟨a,e,⟨xs,hq⟩,q⟩:=q1
 subst e
 cases r1
 obtain⟨its,rv,p,hz⟩:=I1.list hq
 refine wpAny_pyIter_list p.isList ?_
 refine⟨s1.heap.objs.size,[s1.heap.objs.size],_,_,H1,rfl,I1.kept (t':=s1.toks) fun b o e=>Heap.get?_push_of_some _ e,zgj a _,⟨_,Heap.get?_push_size _ rfl,rfl,rfl⟩,fun b hb=>?_,q⟩
 have e:b=s1.heap.objs.size:=by simpa using hb
 subst e
 exact I1.fpOk (Nat.le_refl _) (I1.hok.fresh (Nat.le_refl _))
theorem zly(hl:PE X l tl):PI X tg l (iTup X.K tl):=by
 intro pins s σ H R I h
 refine thn (hl pins s σ H _ I h) fun v s1 ⟨x,H1,I1,r1,q1⟩=>?_
 obtain⟨a,e,⟨xs,hq⟩,q⟩:=q1
 subst e
 cases r1
 obtain⟨its,rv,p,hz⟩:=I1.tuple hq
 refine wpAny_pyIter_tuple (show s1.heap.IsTuple a its.toArray from p) ?_
 refine⟨s1.heap.objs.size,[s1.heap.objs.size],_,_,H1,rfl,I1.kept (t':=s1.toks) fun b o e=>Heap.get?_push_of_some _ e,zf5 a _,⟨_,Heap.get?_push_size _ rfl,rfl,rfl⟩,fun b hb=>?_,q⟩
 have e:b=s1.heap.objs.size:=by simpa using hb
 subst e
 exact I1.fpOk (Nat.le_refl _) (I1.hok.fresh (Nat.le_refl _))
variable{Cm:Cx->Prop}
theorem zh3(hT:∀(it:Addr) (lo:Int) (n:Nat),ze4 Cm X.prog X.w X.K tg (Itr lo n) [it] it (fun i h=>IsRangeIter h it (lo+(i:Nat)*1) ((n:Int)-(i:Nat)) 1)){R:It->Hp->Prop}{lo hi:Int}{t u v:Tok}{tk:Nat}(I:Inv X pins σ H s)(h1:-(2 ^ 62)<=lo)(h2:lo<2 ^ 62)(h3:-(2 ^ 62)<=hi)(h4:hi<2 ^ 62)(q:R (Itr lo (hi-lo).toNat) H):wpAny (model X.prog X.w) X.A (pyIter (.ref s.heap.objs.size)) (PIEC Cm X pins σ tg R) E { s with heap:=s.heap.push { cls:=.type "range",data:=.fields #[.int lo t,.int hi u,.int 1 v] },toks:=tk }:=by
 refine wpAny_pyIter_range (IsRange.new ..) (small_one h1 h2 h3 h4) ?_
 have I1:Inv X pins σ H { s with heap:=s.heap.push { cls:=.type "range",data:=.fields #[.int lo t,.int hi u,.int 1 v] },toks:=tk }:=I.kept fun b o e=>Heap.get?_push_of_some _ e
 refine⟨(s.heap.push { cls:=.type "range",data:=.fields #[.int lo t,.int hi u,.int 1 v] }).objs.size,[(s.heap.push { cls:=.type "range",data:=.fields #[.int lo t,.int hi u,.int 1 v] }).objs.size],_,_,H,rfl,
  I1.kept (t':=tk) fun b o e=>Heap.get?_push_of_some _ e,hT _ lo (hi-lo).toNat,?_,fun b hb=>?_,q⟩
 ·have e1:lo+((0:Nat):Int)*1=lo:=by simp
  have e2:(((hi-lo).toNat:Nat):Int)-((0:Nat):Int)=Builtin.Range.rangeSize lo hi 1:=by rw[rangeSize_one];split <;> omega
  show IsRangeIter _ _ (lo+((0:Nat):Int)*1) ((((hi-lo).toNat:Nat):Int)-((0:Nat):Int)) 1
  rw[e1,e2]
  exact Heap.get?_push_size _ rfl
 ·have e:b=(s.heap.push { cls:=.type "range",data:=.fields #[.int lo t,.int hi u,.int 1 v] }).objs.size:=by simpa using hb
  subst e
  exact I1.fpOk (Nat.le_refl _) (I1.hok.fresh (Nat.le_refl _))
def zn0(ta:TA):TI:=fun σ H R=>ta σ H fun vs H1=>∃j:Int,vs=[.int j]/\-(2 ^ 62)<=j/\j<2 ^ 62/\R (Itr 0 j.toNat) H1
variable{a:Expr}{ta:TE}{p:Pos}
theorem zf6(hT:∀(it:Addr) (lo:Int) (n:Nat),ze4 Cm X.prog X.w X.K tg (Itr lo n) [it] it (fun i h=>IsRangeIter h it (lo+(i:Nat)*1) ((n:Int)-(i:Nat)) 1)){ta:TA}(hg:Gl X "range")(hm:X.mg "range" = none)(ha:PA X [a] ta)(hs:starEach [a] X.env=[(false,eval a X.env)]:=by rfl):PIC Cm X tg (.Call (.Name "range" p) [a] [] pos) (zn0 ta):=by
 intro pins s σ H R I h
 refine Call_ (zfj I hg hm boot_range (PyProof.Rows.callWith_type1 (thn (ha pos pins s σ H _ I h) fun us s1 ⟨vs,H1,I1,r1,q1⟩=>?_) hs rfl))
 obtain⟨j,e,q1,q2,q⟩:=q1
 subst e
 cases r1 with
 | cons r rr =>
   cases rr
   obtain⟨t,rfl⟩:=r
   exact call_range_1 (zh3 hT I1 (by omega) (by omega) q1 q2 (by simpa using q))
def tFor(wi:TI)(g:TG)(tb:TS):TS:=fun D σ H=>wi σ H fun J H1=>∃W:Nat->Nat->St->Hp->Prop,(∃m,W 0 m σ H1)/\∀i m σ H,W i m σ H ->
 (J.stop i H/\D.nx σ H)\/(J.go i H/\∃N:St->Hp->Prop,(∀σ' H',N σ' H'->∃m',m'<m/\W (i+1) m' σ' H')/\∀x H',J.yld i H x H'->g x σ H' fun σ2 H2=>tb { D with nx:=N,ct:=N,bk:=D.nx } σ2 H2)
def zea(fp:List Addr)(h:Heap):List (Addr×Obj):=fp.filterMap fun b=>(h.get? b).map fun o=>(b,o)
variable{fp:List Addr}
theorem zcc(hb:b∈fp)(e:h.get? b=some o):(b,o)∈zea fp h:=List.mem_filterMap.mpr ⟨b,hb,by rw[e];rfl⟩
theorem zgk{p:Addr×Obj}(hp:p∈zea fp h):p.1∈fp/\h.get? p.1=some p.2:=by
 obtain⟨b,hb,e⟩:=List.mem_filterMap.mp hp
 cases q:h.get? b with
 | none=>rw[q] at e;cases e
 | some o =>
   rw[q] at e
   have e':(b,o)=p:=Option.some.inj e
   subst e'
   exact⟨hb,q⟩
theorem Inv.pinned(I:Inv X pins σ H s)(hf:∀b∈fp,FpOk X pins H b)(ho:∀b∈fp,∃o,s.heap.get? b=some o/\∀v,o.data≠.cell v):Inv X (pins++zea fp s.heap) σ H s :=
 I.pins_of fun p hp=>(List.mem_append.mp hp).elim (fun z=>I.pin p (List.mem_append_right _ z)) fun z=>by
  obtain⟨hb,e⟩:=zgk z
  obtain⟨f0,f1,f2,_⟩:=hf p.1 hb
  obtain⟨o,e',d⟩:=ho p.1 hb
  rw[e] at e';cases e'
  exact⟨e,f0,f1,f2,d⟩
theorem Inv.unpinned{pins pl:List (Addr×Obj)}(I:Inv X (pins++pl) σ H s):Inv X pins σ H s:=I.pins_of fun p hp=>I.pin p (List.mem_append_right _ (List.mem_append_left _ hp))
variable{body:List Stmt}{g:Int->Int->Int}{tb:TE}
theorem zi5{iter:Expr}{wi:TI}{g:TG}{tb:TS}(hp:PassesOwn (model X.prog X.w) X.A X.env X.xe)(hc:X.calm=true)(hi:PI X tg iter wi)(hg:PG X tg g)(hb:PSs X body tb)(hs:∀x,foldedSetIterable iter X.env x=pure x:=by intro _;rfl):PS X (.For tg iter body [] pos) (tFor wi g tb):=by
 intro pins s σ H D I h
 refine wpAny_For (thn (hi pins s σ H _ I h) fun v s1 h1=>thn h1 fun itv s2 h2=>?_) hs
 obtain⟨it,fp,tn,J,H2,e,I2,T,st2,f2,W,⟨m0,w0⟩,turn⟩:=h2
 subst e
 have stat:∀ {H':Hp},(∀b∈fp,H' b=none)->∀b∈fp,FpOk X pins H' b:=fun hn b hb=>⟨hn b hb,(f2 b hb).2⟩
 refine codeAny_forLoop_any (fun n s'=>∃i σ' H',Inv X pins σ' H' s'/\tn i s'.heap/\(∀b∈fp,H' b=none)/\W i n σ' H') ?_ m0 ⟨0,σ,H2,I2,st2,fun b hb=>(f2 b hb).1,w0⟩
 rintro n s3 ⟨i,σ3,H3,I3,st3,fr3,w3⟩
 rcases turn i n σ3 H3 w3 with⟨stop,qn⟩ | ⟨go,N,hN,step⟩
 ·refine wpAny_passesOwn hp (thn (T.done X rfl rfl rfl hc i pins s3 σ3 H3 X.xe I3 (stat fr3) st3 stop) fun r s4 ⟨hr,I4⟩=>?_)
  subst hr
  exact wpAny_execs_nil ⟨σ3,H3,I4,qn⟩
 ·refine wpAny_passesOwn hp (thn (T.item X rfl rfl rfl hc i pins s3 σ3 H3 X.xe I3 (stat fr3) st3 go) fun r s4 ⟨u,hr,h4⟩=>?_)
  subst hr
  refine wpAny_passesOwn hp (thn h4 fun _ s5 ⟨x,H5,I5,r5,y5,st5,fr5⟩=>?_)
  have I5':=I5.pinned (stat fr5) (T.obj _ _ st5)
  refine wpAny_passesOwn hp (thn (hg _ s5 σ3 H5 x u _ I5' r5 (step x H5 y5)) fun _ s6 ⟨σ6,H6,I6,q6⟩=>?_)
  refine wpAny_passesOwn hp (thn (hb _ s6 σ6 H6 _ I6 q6) fun f s7 q7=>?_)
  have again:∀ {σ7:St} {H7:Hp},Inv X (pins++zea fp s5.heap) σ7 H7 s7->N σ7 H7->∃m,m<n/\∃i σ' H',Inv X pins σ' H' s7/\tn i s7.heap/\(∀b∈fp,H' b=none)/\W i m σ' H':=fun {σ7 H7} I7 n7=>by
   obtain⟨m',hm,w7⟩:=hN σ7 H7 n7
   refine⟨m',hm,i+1,σ7,H7,I7.unpinned,T.keep _ _ _ st5 fun b hb o e=>(I7.pin (b,o) (List.mem_append_right _ (List.mem_append_right _ (zcc hb e)))).1,fun b hb=>?_,w7⟩
   obtain⟨o,e,d⟩:=T.obj _ _ st5 b hb
   exact(I7.pin (b,o) (List.mem_append_right _ (List.mem_append_right _ (zcc hb e)))).2.1
  cases f with
  | next=>obtain⟨σ7,H7,I7,n7⟩:=q7;exact again I7 n7
  | cont=>obtain⟨σ7,H7,I7,n7⟩:=q7;exact again I7 n7
  | brk=>obtain⟨σ7,H7,I7,q7⟩:=q7;exact⟨σ7,H7,I7.unpinned,q7⟩
  | ret v=>obtain⟨x7,σ7,H7,I7,r7,q7⟩:=q7;exact⟨x7,σ7,H7,I7.unpinned,r7,q7⟩
abbrev R2:=V->V->Hp->VK->Prop
def OpR(X:Cx)(f:Value->Value->Sem Value)(r:R2):Prop :=
 ∀(pins:List (Addr×Obj)) (s:Shared) (σ:St) (H:Hp) (x y:V) (v u:Value) (Q:VK),Inv X pins σ H s->RelV x v->RelV y u->r x y H Q ->
  wpAny (model X.prog X.w) X.A (f v u) (EP X pins σ Q) X.xe s
def UnR(X:Cx)(f:Value->Sem Value)(r:V->Hp->VK->Prop):Prop :=
 ∀(pins:List (Addr×Obj)) (s:Shared) (σ:St) (H:Hp) (x:V) (v:Value) (Q:VK),Inv X pins σ H s->RelV x v->r x H Q ->
  wpAny (model X.prog X.w) X.A (f v) (EP X pins σ Q) X.xe s
def CallR(X:Cx)(f:Value)(r:List V->Hp->VK->Prop):Prop :=
 ∀(pins:List (Addr×Obj)) (s:Shared) (σ:St) (H:Hp) (xs:List V) (us:List Value) (Q:VK),Inv X pins σ H s->Vals xs us->r xs H Q ->
  wpAny (model X.prog X.w) X.A (call f us) (EP X pins σ Q) X.xe s
def tOp(r:R2)(ta tb:TE):TE:=fun σ H Q=>ta σ H fun x H1=>tb σ H1 fun y H2=>r x y H2 Q
def tUn(r:V->Hp->VK->Prop)(ta:TE):TE:=fun σ H Q=>ta σ H fun x H1=>r x H1 Q
def rI(C:Int->Int->Prop)(g:Int->Int->V):R2:=fun x y H Q=>∃i j,x=.int i/\y=.int j/\C i j/\Q (g i j) H
def rI0(g:Int->Int->V):R2:=fun x y H Q=>∃i j,x=.int i/\y=.int j/\Q (g i j) H
def rU(g:Int->V):V->Hp->VK->Prop:=fun x H Q=>∃i,x=.int i/\Q (g i) H
variable{b:Expr}{Q:Value->Shared->Prop}{f:Value->Value->Sem Value}
theorem binT(ha:PE X a ta)(hb:PE X b tb){R:V->V->Hp->Prop}(I:Inv X pins σ H s)(h:ta σ H fun x H1=>tb σ H1 fun y H2=>R x y H2)(hf:∀v u s2 x y H2,Inv X pins σ H2 s2->RelV x v->RelV y u->R x y H2->wpAny (model X.prog X.w) X.A (f v u) Q X.xe s2) :
  wpAny (model X.prog X.w) X.A (eval a X.env) (fun v s₁=>wpAny (model X.prog X.w) X.A (eval b X.env) (fun u s₂=>wpAny (model X.prog X.w) X.A (f v u) Q X.xe s₂) X.xe s₁) X.xe s:=by
 refine thn (ha pins s σ H _ I h) fun v s1 ⟨x,H1,I1,r1,q1⟩=>?_
 refine thn (hb pins s1 σ H1 _ I1 q1) fun u s2 ⟨y,H2,I2,r2,q2⟩=>?_
 exact hf v u s2 x y H2 I2 r1 r2 q2
variable{r:R2}
theorem zju(ho:OpR X (binaryOp op) r)(ha:PE X a ta)(hb:PE X b tb):PE X (.BinOp a op b pos) (tOp r ta tb):=by
 intro pins s σ H Q I h
 exact wpAny_BinOp (binT ha hb I h fun v u s2 x y H2 I2 rx ry q=>ho pins s2 σ H2 x y v u Q I2 rx ry q)
variable{op:CmpOp}
theorem zn1{op:UnaryOp}{r:V->Hp->VK->Prop}(ho:UnR X (unaryOp op) r)(ha:PE X a ta):PE X (.UnaryOp op a pos) (tUn r ta):=by
 intro pins s σ H Q I h
 exact UnaryOp_ (thn (ha pins s σ H _ I h) fun v s1 ⟨x,H1,I1,r1,q1⟩=>ho pins s1 σ H1 x v Q I1 r1 q1)
variable{C:Addr}
theorem opI{C:Int->Int->Prop}(rule:∀(i j:Int) (t u:Tok) (s:Shared) (Q:Value->Shared->Prop) (E:Value->Shared->Prop),C i j->Q (.int (g i j) s.toks) { s with toks:=s.toks+1 }->wpAny (model X.prog X.w) X.A (f (.int i t) (.int j u)) Q E s) :
  OpR X f (rI C fun i j=>.int (g i j)):=by
 intro pins s σ H x y v u Q I rx ry h
 obtain⟨i,j,rfl,rfl,hc,q⟩:=h
 obtain⟨t,rfl⟩:=rx
 obtain⟨t',rfl⟩:=ry
 exact rule i j t t' s _ _ hc ⟨.int (g i j),H,I.tok _,⟨_,rfl⟩,q⟩
theorem opI0(rule:∀(i j:Int) (t u:Tok) (s:Shared) (Q:Value->Shared->Prop) (E:Value->Shared->Prop),Q (.int (g i j) s.toks) { s with toks:=s.toks+1 }->wpAny (model X.prog X.w) X.A (f (.int i t) (.int j u)) Q E s) :
  OpR X f (rI0 fun i j=>.int (g i j)):=by
 intro pins s σ H x y v u Q I rx ry h
 obtain⟨i,j,rfl,rfl,q⟩:=h
 obtain⟨t,rfl⟩:=rx
 obtain⟨t',rfl⟩:=ry
 exact rule i j t t' s _ _ ⟨.int (g i j),H,I.tok _,⟨_,rfl⟩,q⟩
theorem opB0{g:Int->Int->Bool}(rule:∀(i j:Int) (t u:Tok) (s:Shared) (Q:Value->Shared->Prop) (E:Value->Shared->Prop),Q (.bool (g i j)) s->wpAny (model X.prog X.w) X.A (f (.int i t) (.int j u)) Q E s) :
  OpR X f (rI0 fun i j=>.bl (g i j)):=by
 intro pins s σ H x y v u Q I rx ry h
 obtain⟨i,j,rfl,rfl,q⟩:=h
 obtain⟨t,rfl⟩:=rx
 obtain⟨t',rfl⟩:=ry
 exact rule i j t t' s _ _ ⟨.bl (g i j),H,I,rfl,q⟩
def CDiv(i j:Int):Prop:=0<j/\j<1073741824
def CPow(i j:Int):Prop:=0<=j/\j<=1000000/\i.natAbs<2 ^ 64
def CMul(i j:Int):Prop:=(-(2 ^ 64)<i/\i<2 ^ 64)\/(-(2 ^ 64)<j/\j<2 ^ 64)
variable{i:Int}
theorem CMul.ok(h:CMul i j):IntMulOk i j:=by
 rcases h with⟨h1,h2⟩ | ⟨h1,h2⟩
 ·exact .of_left (intBits_le_64 h1 h2)
 ·exact .of_right (intBits_le_64 h1 h2)
theorem zlz:OpR X (binaryOp .Add) (rI0 fun i j=>.int (i+j)):=opI0 fun _ _ _ _ _ _ _ q=>add_int q
theorem zl0:OpR X (binaryOp .Sub) (rI0 fun i j=>.int (i-j)):=opI0 fun _ _ _ _ _ _ _ q=>sub_int q
theorem zl1:OpR X (binaryOp .Mult) (rI CMul fun i j=>.int (i*j)):=opI fun _ _ _ _ _ _ _ hc q=>mul_int q hc.ok
theorem zjv:OpR X (binaryOp .FloorDiv) (rI CDiv fun i j=>.int (i / j)):=opI fun i j _ _ _ _ _ hc q=>by
 have h1:(0:Int)<j:=hc.1
 have h2:j<1073741824:=hc.2
 exact floordiv_int (by omega) (by rw[Int.fdiv_eq_ediv_of_nonneg i (by omega)];exact q) (.inl (PyProof.noPylong_small (by omega)))
theorem zl2:OpR X (binaryOp .Mod) (rI (fun _ j=>0<j) fun i j=>.int (i % j)):=opI fun i j _ _ _ _ _ hc q=>by
 have h1:(0:Int)<j:=hc
 exact mod_int' (by omega) (by rw[Int.fmod_eq_emod_of_nonneg i (by omega)];exact q)
theorem zl3:OpR X (binaryOp .Pow) (rI CPow fun i j=>.int (i ^ j.toNat)):=opI fun _ _ _ _ _ _ _ hc q=>pow_int_small hc.1 hc.2.1 hc.2.2 q
theorem unI{f:Value->Sem Value}{g:Int->Int}(rule:∀(i:Int) (t:Tok) (s:Shared) (Q:Value->Shared->Prop) (E:Value->Shared->Prop),Q (.int (g i) s.toks) { s with toks:=s.toks+1 }->wpAny (model X.prog X.w) X.A (f (.int i t)) Q E s) :
  UnR X f (rU fun i=>.int (g i)):=by
 intro pins s σ H x v Q I rx h
 obtain⟨i,rfl,q⟩:=h
 obtain⟨t,rfl⟩:=rx
 exact rule i t s _ _ ⟨.int (g i),H,I.tok _,⟨_,rfl⟩,q⟩
theorem zl4:UnR X (unaryOp .USub) (rU fun i=>.int (-i)):=unI fun _ _ _ _ _ q=>neg_int q
def scal:V->V->Bool
 | .non,.non=>true | .non,.int _=>true | .int _,.non=>true | .non,.bl _=>true | .bl _,.non=>true | .non,.str _=>true | .str _,.non=>true
 | .int _,.int _=>true | .bl _,.bl _=>true | .str _,.str _=>true | .byt _,.byt _=>true
 | .int _,.str _=>true | .str _,.int _=>true | .bl _,.str _=>true | .str _,.bl _=>true
 | _,_=>false
def rEq:R2:=fun x y H Q=>scal x y=true/\Q (.bl (decide (x=y))) H
def rNe:R2:=fun x y H Q=>scal x y=true/\Q (.bl (!decide (x=y))) H
theorem zgl:decide (V.int i=V.int j)=(i==j):=by
 rw[Bool.eq_iff_iff]
 simp
theorem zi6{i j:Bool}:decide (V.bl i=V.bl j)=(i==j):=by
 rw[Bool.eq_iff_iff]
 simp
theorem zgm{i j:Str}:decide (V.str i=V.str j)=(i==j):=by
 rw[Bool.eq_iff_iff]
 simp
theorem zgn{i j:Array UInt8}:decide (V.byt i=V.byt j)=(i.toList==j.toList):=by
 rw[Bool.eq_iff_iff]
 cases i
 cases j
 simp
theorem zam{Q:VK}{k k':Bool}(I:Inv X pins σ H s)(q:Q (.bl k) H)(e:k=k'):EP X pins σ Q (.bool k') s:=by
 subst e
 exact⟨.bl k,H,I,rfl,q⟩
theorem zl5:OpR X (compareOp .Eq) rEq:=by
 intro pins s σ H x y v u Q I rx ry h
 obtain⟨hs,q⟩:=h
 cases x with
 | non =>
   cases rx
   cases y with
   | non=>cases ry;exact PySem.EqNone.eq_none_none (zam I q (by simp))
   | bl j=>cases ry;exact PySem.EqNone.eq_none_bool (zam I q (by simp))
   | int j=>obtain⟨t',rfl⟩:=ry;exact PySem.EqNone.eq_none_int (zam I q (by simp))
   | str j=>obtain⟨t',rfl⟩:=ry;exact PySem.EqNone.eq_none_str (zam I q (by simp))
   | _=>exact absurd (show false=true from hs) Bool.false_ne_true
 | bl i =>
   cases rx
   cases y with
   | non=>cases ry;exact PySem.EqNone.eq_bool_none (zam I q (by simp))
   | bl j=>cases ry;exact eq_bool (zam I q zi6)
   | str j=>obtain⟨t',rfl⟩:=ry;exact PySem.EqMixed.eq_bool_str (zam I q (by simp))
   | _=>exact absurd (show false=true from hs) Bool.false_ne_true
 | int i =>
   obtain⟨t,rfl⟩:=rx
   cases y with
   | non=>cases ry;exact PySem.EqNone.eq_int_none (zam I q (by simp))
   | int j=>obtain⟨t',rfl⟩:=ry;exact eq_int (zam I q zgl)
   | str j=>obtain⟨t',rfl⟩:=ry;exact PySem.EqMixed.eq_int_str (zam I q (by simp))
   | _=>exact absurd (show false=true from hs) Bool.false_ne_true
 | str i =>
   obtain⟨t,rfl⟩:=rx
   cases y with
   | non=>cases ry;exact PySem.EqNone.eq_str_none (zam I q (by simp))
   | bl j=>cases ry;exact PySem.EqMixed.eq_str_bool (zam I q (by simp))
   | int j=>obtain⟨t',rfl⟩:=ry;exact PySem.EqMixed.eq_str_int (zam I q (by simp))
   | str j=>obtain⟨t',rfl⟩:=ry;exact eq_str (zam I q zgm)
   | _=>exact absurd (show false=true from hs) Bool.false_ne_true
 | byt i =>
   obtain⟨t,rfl⟩:=rx
   cases y with
   | byt j=>obtain⟨t',rfl⟩:=ry;exact PySem.W.eq_bytes (zam I q zgn)
   | _=>exact absurd (show false=true from hs) Bool.false_ne_true
 | _=>cases y <;> exact absurd (show false=true from hs) Bool.false_ne_true
theorem zn2:OpR X (compareOp .NotEq) rNe:=by
 intro pins s σ H x y v u Q I rx ry h
 obtain⟨hs,q⟩:=h
 cases x with
 | non =>
   cases rx
   cases y with
   | non=>cases ry;exact PySem.EqNone.ne_none_none (zam I q (by simp))
   | bl j=>cases ry;exact PySem.EqNone.ne_none_bool (zam I q (by simp))
   | int j=>obtain⟨t',rfl⟩:=ry;exact PySem.EqNone.ne_none_int (zam I q (by simp))
   | str j=>obtain⟨t',rfl⟩:=ry;exact PySem.EqNone.ne_none_str (zam I q (by simp))
   | _=>exact absurd (show false=true from hs) Bool.false_ne_true
 | bl i =>
   cases rx
   cases y with
   | non=>cases ry;exact PySem.EqNone.ne_bool_none (zam I q (by simp))
   | bl j=>cases ry;exact ne_bool (zam I q (congrArg not zi6))
   | str j=>obtain⟨t',rfl⟩:=ry;exact PySem.EqMixed.ne_bool_str (zam I q (by simp))
   | _=>exact absurd (show false=true from hs) Bool.false_ne_true
 | int i =>
   obtain⟨t,rfl⟩:=rx
   cases y with
   | non=>cases ry;exact PySem.EqNone.ne_int_none (zam I q (by simp))
   | int j=>obtain⟨t',rfl⟩:=ry;exact ne_int (zam I q (congrArg not zgl))
   | str j=>obtain⟨t',rfl⟩:=ry;exact PySem.EqMixed.ne_int_str (zam I q (by simp))
   | _=>exact absurd (show false=true from hs) Bool.false_ne_true
 | str i =>
   obtain⟨t,rfl⟩:=rx
   cases y with
   | non=>cases ry;exact PySem.EqNone.ne_str_none (zam I q (by simp))
   | bl j=>cases ry;exact PySem.EqMixed.ne_str_bool (zam I q (by simp))
   | int j=>obtain⟨t',rfl⟩:=ry;exact PySem.EqMixed.ne_str_int (zam I q (by simp))
   | str j=>obtain⟨t',rfl⟩:=ry;exact ne_str (zam I q (congrArg not zgm))
   | _=>exact absurd (show false=true from hs) Bool.false_ne_true
 | byt i =>
   obtain⟨t,rfl⟩:=rx
   cases y with
   | byt j=>obtain⟨t',rfl⟩:=ry;exact PySem.W.ne_bytes (zam I q (congrArg not zgn))
   | _=>exact absurd (show false=true from hs) Bool.false_ne_true
 | _=>cases y <;> exact absurd (show false=true from hs) Bool.false_ne_true
theorem zn3:OpR X (compareOp .Lt) (rI0 fun i j=>.bl (decide (i<j))):=opB0 fun _ _ _ _ _ _ _ q=>lt_int q
theorem zn4:OpR X (compareOp .LtE) (rI0 fun i j=>.bl (decide (i<=j))):=opB0 fun _ _ _ _ _ _ _ q=>le_int q
theorem zn5:OpR X (compareOp .Gt) (rI0 fun i j=>.bl (decide (j<i))):=opB0 fun _ _ _ _ _ _ _ q=>gt_int q
theorem OpR.or{r':R2}(h:OpR X f r)(h':OpR X f r'):OpR X f (fun x y H Q=>r x y H Q\/r' x y H Q):=by
 intro pins s σ H x y v u Q I rx ry q
 rcases q with q | q
 ·exact h pins s σ H x y v u Q I rx ry q
 ·exact h' pins s σ H x y v u Q I rx ry q
theorem zdj(b:Expr)(h:op≠.In:=by decide)(h2:op≠.NotIn:=by decide):behindInMarks op b=false:=by
 have e1:(op==CmpOp.In)=false:=by cases op <;> first | rfl | exact absurd rfl h
 have e2:(op==CmpOp.NotIn)=false:=by cases op <;> first | rfl | exact absurd rfl h2
 cases b <;> simp[behindInMarks,e1,e2]
theorem zjw(ho:OpR X (compareOp op) r)(ha:PE X a ta)(hb:PE X b tb)(hm:behindInMarks op b=false):PE X (.Compare a [op] [b] pos) (tOp r ta tb):=by
 intro pins s σ H Q I h
 exact wpAny_Compare1 (binT ha hb I h fun v u s2 x y H2 I2 rx ry q=>ho pins s2 σ H2 x y v u Q I2 rx ry q) hm
def zl6(t:TE):TT:=fun σ H Q=>t σ H fun x H'=>∃k,x=.bl k/\Q k H'
theorem zjx(ho:OpR X (compareOp op) r)(ha:PE X a ta)(hb:PE X b tb)(hm:behindInMarks op b=false):PT X (.Compare a [op] [b] pos) (zl6 (tOp r ta tb)):=by
 intro pins s σ H Q I h
 refine wpAny_isTrue_Compare1 (thn (ha pins s σ H _ I h) fun v s1 ⟨x,H1,I1,r1,q1⟩=>thn (hb pins s1 σ H1 _ I1 q1) fun u s2 ⟨y,H2,I2,r2,q2⟩ =>
  thn (ho pins s2 σ H2 x y v u _ I2 r1 r2 q2) fun c s3 ⟨z,H3,I3,r3,k,e,q3⟩=>?_) hm
 subst e
 cases r3
 exact wpAny_truthy_bool ⟨H3,I3,q3⟩
theorem zfk:(sizeLine:Nat)<2 ^ 63:=by rw[sizeLine_eq];decide
variable{us:List Value}
theorem zgo{x:V}(r:Vals [x] us):∃u,us=[u]/\RelV x u:=by
 cases r with
 | cons r1 r2=>cases r2;exact⟨_,rfl,r1⟩
theorem zjy{x y:V}(r:Vals [x,y] us):∃u w',us=[u,w']/\RelV x u/\RelV y w':=by
 cases r with
 | cons r1 r2 =>
   cases r2 with
   | cons r3 r4=>cases r4;exact⟨_,_,rfl,r1,r3⟩
theorem zgp(hc:X.calm=true):CallR X (.builtin "min") (fun xs H Q=>∃i j,xs=[.int i,.int j]/\Q (.int (if j<i then j else i)) H):=by
 intro pins s σ H xs us Q I r h
 obtain⟨i,j,rfl,q⟩:=h
 obtain⟨u,w',rfl,⟨t,rfl⟩,⟨t',rfl⟩⟩:=zjy r
 refine min_two_ints (I.ok.hd hc) fun h' tk k=>⟨_,H,I.kept k,?_,q⟩
 by_cases hj:j<i
 ·rw[if_pos hj,if_pos hj];exact⟨_,rfl⟩
 ·rw[if_neg hj,if_neg hj];exact⟨_,rfl⟩
structure ObjM (h:Heap) (x dx C:Addr) (mA:Str->Option Value):Prop where
 obj:h.get? x=some (PySem.W.instObj C dx)
 ns:h.Ns1 dx mA
 ne:dx≠x
variable{dx:Addr}{mA:Str->Option Value}
theorem zgq(n:h.Ns1 dx mA):∃od,h.get? dx=some od/\∀name,PySem.W.lookIn name od=some (mA name):=by
 obtain⟨o,es,ep,ho,hd,hk,_,hm⟩:=n
 refine⟨o,ho,fun name=>?_⟩
 have e:=hm name
 unfold nsFind findBy at e
 rw[← Array.find?_toList] at e
 unfold PySem.W.lookIn
 rw[hd]
 dsimp only
 split
 ·rename_i y q
  rw[q] at e
  exact congrArg some e
 ·rename_i q
  rw[q] at e
  have a:es.toList.any (·.refKey)=false:=by
   rw[List.any_eq_false]
   intro y hy
   obtain⟨z,t,hkey⟩:=hk y (Array.mem_toList_iff.mp hy)
   simp[DictEntry.refKey,hkey]
  have a':¬es.toList.any (·.refKey)=true:=by rw[a];exact Bool.false_ne_true
  rw[if_neg a']
  exact congrArg some e
theorem ObjM.look{x:Addr}(I:ObjM h x dx C mA):∃od,PySem.W.InstAt h x (PySem.W.instObj C dx) C (some od)/\∀name,PySem.W.lookIn name od=some (mA name) :=
 let ⟨od,ho,hl⟩:=zgq I.ns
 ⟨od,⟨I.obj,rfl,rfl,ho⟩,hl⟩
variable{a:Addr}{fs:List (Str×V)}
theorem zjz(hok:HOk P w H h)(e:H a=some (.ins C dx fs)):∃mA,ObjM h a dx C mA/\(∀f,RelO (fs.lookup f) (mA f))/\PySem.Within mA (fs.map (·.1))/\fs.length<=1000/\H dx=some (.own a):=by
 obtain⟨d,z,ne,ob,mA,n,r,q⟩:=(show ObjOk P w H h a (.ins C dx fs) from hok a _ e)
 exact⟨mA,⟨ob,n,ne⟩,r,q,z,d⟩
structure Cls (K:PySem.W.Frag) (C:Addr):Prop where
 pg:PySem.W.plainGet K C Str.empty=true
 hd:PySem.W.hasDictIn K C=true
 po:PySem.W.plainOver K C=true
 sa:PySem.W.findIn K (.ref C) "__setattr__" = some (some (.builtin "object.__setattr__"))
theorem Cls.get(c:Cls K C)(f:Str):PySem.W.plainGet K C f=true:=c.pg
structure Con (K:PySem.W.Frag) (C:Addr) (f:Str) (v:V) (u:Value):Prop where
 at_:PySem.W.findIn K (.ref C) f=some (some u)
 rel:RelV v u
 get:PySem.W.specialIn K u "__get__" = some none
 cp:PySem.W.copiedNames.contains f=false
structure Meth (K:PySem.W.Frag) (C:Addr) (m:Str) (f:Addr):Prop where
 at_:PySem.W.findIn K (.ref C) m=some (some (.ref f))
 fn:PySem.W.isFn K (.ref f)=true
 kp:PySem.W.keepIn K (.ref f)=true
inductive TyOf (K:PySem.W.Frag) (H:Hp):V->Value->Prop where
 | non:TyOf K H .non (.type "NoneType")
 | bl (x:Bool):TyOf K H (.bl x) (.type "bool")
 | int (i:Int):TyOf K H (.int i) (.type "int")
 | str (x:Str):TyOf K H (.str x) (.type "str")
 | flt (x:UInt64):TyOf K H (.flt x) (.type "float")
 | lst {a:Addr} {xs:List V} (e:H a=some (.lst xs)):TyOf K H (.ref a) (.type "list")
 | frz {a:Addr} {o:Obj} {xs:List V} (e:H a=some (.frz o (.lst xs))):TyOf K H (.ref a) (.type "list")
 | tup {a:Addr} {xs:List V} (e:H a=some (.tup xs)):TyOf K H (.ref a) (.type "tuple")
 | dK {a:Addr} {kvs:List (Key×V)} (e:H a=some (.dK kvs)):TyOf K H (.ref a) (.type "dict")
 | dT {a:Addr} {kvs:List (List Key×V)} (e:H a=some (.dT kvs)):TyOf K H (.ref a) (.type "dict")
 | ins {a C dx:Addr} {fs:List (Str×V)} (e:H a=some (.ins C dx fs)) (cl:Cls K C) (ha:PySem.W.findIn K (.ref C) "__class__" = some (some (.builtin "object.__class__")))
    (hn:PySem.W.specialIn K (.builtin "object.__class__") "__get__" = some (some (.builtin "getset_descriptor.__get__"))) (htk:PySem.W.takesIn K (.builtin "object.__class__")=some true)
    (hm:PySem.W.mroIn K C (.type "object")=some true):TyOf K H (.ref a) (.ref C)
variable{b:Bool}{c:Value}
theorem zgr{x:V}{t:Value}(I:Inv X pins σ H s)(rx:RelV x u)(ty:TyOf X.K H x t)(e:PySem.W.kitOne X.K t c=some b)(h:∀tk,Q (.bool b) { s with toks:=tk }) :
  wpAny (model X.prog X.w) A (call (.builtin "isinstance") [u,c]) Q E s:=by
 cases ty with
 | non=>cases (show u=Value.none from rx);exact PySem.W.kia_one PySem.W.kitx_none I.kIn True.intro e (fun z=>nomatch z) h
 | bl y=>cases (show u=Value.bool y from rx);exact PySem.W.kia_one PySem.W.kitx_bool I.kIn True.intro e (fun z=>nomatch z) h
 | int i=>obtain⟨t,q⟩:=(show ∃t,u=Value.int i t from rx);cases q;exact PySem.W.kia_one PySem.W.kitx_int I.kIn True.intro e (fun z=>nomatch z) h
 | str y=>obtain⟨t,q⟩:=(show ∃t,u=Value.str y t from rx);cases q;exact PySem.W.kia_one PySem.W.kitx_str I.kIn True.intro e (fun z=>nomatch z) h
 | flt y=>obtain⟨t,q⟩:=(show ∃t,u=Value.float y t from rx);cases q;exact PySem.W.kia_one PySem.W.kitx_float I.kIn True.intro e (fun z=>nomatch z) h
 | @lst a xs ea =>
   cases (show u=Value.ref a from rx)
   obtain⟨_,_,n,_,h1⟩:=(show ObjOk X.prog X.w H s.heap a (.lst xs) from I.hok a _ ea)
   exact PySem.W.kia_one PySem.W.kitx_list I.kIn ⟨_,h1,rfl⟩ e (fun z=>nomatch z) h
 | @frz a ob xs ea =>
   cases (show u=Value.ref a from rx)
   obtain⟨_,_,_,n,_,h1⟩:=(show ObjOk X.prog X.w H s.heap a (.frz ob (.lst xs)) from I.hok a _ ea)
   exact PySem.W.kia_one PySem.W.kitx_list I.kIn ⟨_,h1,rfl⟩ e (fun z=>nomatch z) h
 | @tup a xs ea =>
   cases (show u=Value.ref a from rx)
   obtain⟨_,_,_,p⟩:=(show ObjOk X.prog X.w H s.heap a (.tup xs) from I.hok a _ ea)
   obtain⟨o,h1,h2,_⟩:=p
   exact PySem.W.kia_one PySem.W.kitx_tuple I.kIn ⟨o,h1,h2⟩ e (fun z=>nomatch z) h
 | @dK a kvs ea =>
   cases (show u=Value.ref a from rx)
   obtain⟨_,_,vs,_,p⟩:=(show ObjOk X.prog X.w H s.heap a (.dK kvs) from I.hok a _ ea)
   obtain⟨o,es,ep,h1,h2,_⟩:=p
   exact PySem.W.kia_one PySem.W.kitx_dict I.kIn ⟨o,h1,h2.1⟩ e (fun z=>nomatch z) h
 | @dT a kvs ea =>
   cases (show u=Value.ref a from rx)
   obtain⟨_,_,xs,_,o,es,ep,h1,h2,_⟩:=(show ObjOk X.prog X.w H s.heap a (.dT kvs) from I.hok a _ ea)
   exact PySem.W.kia_one PySem.W.kitx_dict I.kIn ⟨o,h1,h2.1⟩ e (fun z=>nomatch z) h
 | @ins a C dx fs ea cl ha hn htk hm =>
   cases (show u=Value.ref a from rx)
   obtain⟨mA,O,_⟩:=zjz I.hok ea
   obtain⟨od,J,_⟩:=O.look
   exact PySem.W.kia_one (PySem.W.kitx_own (cl.get _) cl.hd ha hn htk hm) I.kIn J e (fun z=>nomatch z) h
structure Room (k:Nat) (A:Around):Prop where
 hd:A.handled=none
 dp:A.depth+3*k+5<recursionLimit
 un:A.units+16*k+200<cLine
theorem Room.mono{j:Nat}(r:Room k A)(h:j<=k):Room j A:=⟨r.hd,by have:=r.dp;omega,by have:=r.un;omega⟩
theorem Room.deeper(r:Room (k+1) A)(env:Env):Room k (A.deeper env) :=
 ⟨r.hd,by have:=r.dp;show A.depth+1+3*k+5<_;omega,by have:=r.un;show A.units+3+16*k+200<_;omega⟩
theorem Room.in1(r:Room (k+1) A):Room k A.in1 :=
 ⟨r.hd,by have:=r.dp;show A.depth+3*k+5<_;omega,by have:=r.un;show A.units+1+16*k+200<_;omega⟩
theorem Room.depth(r:Room k A):A.depth<recursionLimit:=by have:=r.dp;omega
theorem Room.units(r:Room k A):A.units+64<cLine:=by have:=r.un;omega
def tNil:TA:=fun _ H Q=>Q [] H
def zn6(ta:TE)(tr:TA):TA:=fun σ H Q=>ta σ H fun x H1=>tr σ H1 fun xs H2=>Q (x::xs) H2
theorem zc4:PA X [] tNil:=fun _ _ _ _ H Q I h=>Calls.spliced_nil ⟨[],H,I,.nil,h⟩
theorem zbz(ha:PE X e te)(hr:PA X es t)(hs:starEach (e::es) X.env=(false,eval e X.env)::starEach es X.env:=by rfl):PA X (e::es) (zn6 te t):=by
 intro pos pins s σ H Q I h
 rw[hs]
 show wpAny _ _ (spliced ((false,eval e X.env)::backTo pos (starEach es X.env))) _ _ s
 refine Calls.spliced_cons (thn (ha pins s σ H _ I h) fun u s1 ⟨x,H1,I1,r1,q1⟩=>?_)
 exact thn (hr pos pins s1 σ H1 _ I1 q1) fun us s2 ⟨xs,H2,I2,r2,q2⟩=>⟨x::xs,H2,I2,.cons r1 r2,q2⟩
def tTup(t:TA):TE:=fun σ H Q=>t σ H fun xs H1=>xs.length<=sizeLine/\∀p,H1 p=none->Q (.ref p) (upd H1 p (.tup xs))
def tLst(t:TA):TE:=fun σ H Q=>t σ H fun xs H1=>xs.length<=sizeLine/\∀p,H1 p=none->Q (.ref p) (upd H1 p (.lst xs))
theorem zl7{x1}(h:PA X es t):PE X (.Tuple es x1 pos) (tTup t):=by
 intro pins s σ H Q I hq
 refine wpAny_Tuple_spliced (thn (h pos pins s σ H _ I hq) fun us s1 ⟨xs,H1,I1,r,z,q⟩=>⟨by rw[← r.length];exact z,?_⟩)
 have hf:H1 s1.heap.objs.size=none:=I1.hok.fresh (Nat.le_refl _)
 refine⟨.ref s1.heap.objs.size,upd H1 s1.heap.objs.size (.tup xs),I1.laid (t':=s1.toks) (fun b u e=>Heap.get?_push_of_some _ e) (Nat.le_refl _) ?_,rfl,q _ hf⟩
 exact⟨z,us,r,⟨_,Heap.get?_push_size _ rfl,rfl,_,rfl⟩⟩
theorem zl8(h:PA X es t):PE X (.List es pos) (tLst t):=by
 intro pins s σ H Q I hq
 refine wpAny_List_spliced (thn (h pos pins s σ H _ I hq) fun us s1 ⟨xs,H1,I1,r,z,q⟩=>⟨by rw[← r.length];exact z,?_⟩)
 have hf:H1 s1.heap.objs.size=none:=I1.hok.fresh (Nat.le_refl _)
 refine⟨.ref s1.heap.objs.size,upd H1 s1.heap.objs.size (.lst xs),I1.laid (t':=s1.toks) (fun b u e=>Heap.get?_push_of_some _ e) (Nat.le_refl _) ?_,rfl,q _ hf⟩
 exact⟨z,us,0,r,Heap.get?_push_size _ rfl⟩
abbrev Sp:=List V->Hp->VK->XK->Prop
abbrev CXT:=List Env->Hp->Shared->XK->Value->Shared->Prop
structure Env0 (P:Program) (w:World) (K:PySem.W.Frag) (mg:Str->Option Value) (base:Heap) (A:Around) (outer:List Env) (s:Shared) (H:Hp):Prop where
 frames:A.frames=some outer
 mod:Mod K mg base
 bs:∀b o,base.get? b=some o->s.heap.get? b=some o/\H b=none
 bsz:base.objs.size<=s.heap.objs.size
 funs:s.heap.FunFrames base outer
 frf:∀b∈frs outer,H b=none
 hok:HOk P w H s.heap
 bare:AllBare s.gens
def CE(outer:List Env)(P:Program)(w:World)(H:Hp)(s:Shared)(Q:VK)(u:Value)(s':Shared):Prop :=
 ∃v H',s'.os=s.os/\AllBare s'.gens/\Un (frs outer) [] H H' s.heap s'.heap/\HOk P w H' s'.heap/\RelV v u/\Q v H'
def CR(CX:CXT)(outer:List Env)(P:Program)(w:World)(H:Hp)(s:Shared)(Q:VK)(E:XK)(r:Result)(s':Shared):Prop :=
 match r with
 | .ok (.ret u)=>CE outer P w H s Q u s'
 | .ok _=>False
 | .error e=>CX outer H s E e s'
structure FnOk (P:Program) (w:World) (K:PySem.W.Frag) (mg:Str->Option Value) (base:Heap) (CX:CXT) (k:Nat) (f:Addr) (fd:FuncData) (ps:List Str) (sp:Sp):Prop where
 len:∀vs H Q E,sp vs H Q E->vs.length=ps.length
 run:∀(A:Around) (outer:List Env) (s:Shared) (H:Hp) (args:Args) (us:List Value) (vs:List V) (Q:VK) (E:XK),Room k A->Env0 P w K mg base A outer s H->BindsTo s fd args (ps.zip us)->Vals vs us->sp vs H Q E ->
  codeAny (model P w) A (.call (.ref f) args) (CR CX outer P w H s Q E) s
theorem FnOk.mono{P:Program}{w:World}{K:PySem.W.Frag}{mg:Str->Option Value}{base:Heap}{CX:CXT}{j k:Nat}{f:Addr}{fd:FuncData}{ps:List Str}{sp:Sp}(F:FnOk P w K mg base CX j f fd ps sp)(h:j<=k) :
  FnOk P w K mg base CX k f fd ps sp:=⟨F.len,fun A outer s H args us vs Q E hr=>F.run A outer s H args us vs Q E (hr.mono h)⟩
variable{f:Addr}{mg:Str->Option Value}{base:Heap}{CX:CXT}{fd:FuncData}{ps:List Str}{sp:Sp}
theorem FnOk.imp{sp':Sp}(F:FnOk P w K mg base CX k f fd ps sp)(h:∀vs H Q E,sp' vs H Q E->sp vs H Q E):FnOk P w K mg base CX k f fd ps sp' :=
 ⟨fun vs H Q E q=>F.len vs H Q E (h _ _ _ _ q),fun A outer s H args us vs Q E hr he hb hv hs=>F.run A outer s H args us vs Q E hr he hb hv (h _ _ _ _ hs)⟩
variable{outer:List Env}
theorem Env0.in1(e:Env0 P w K mg base A outer s H) :
  Env0 P w K mg base A.in1 outer s H:=⟨e.frames,e.mod,e.bs,e.bsz,e.funs,e.frf,e.hok,e.bare⟩
protected theorem Inv.env0(I:Inv X pins σ H s):Env0 X.prog X.w X.K X.mg X.base X.A X.stack s H :=
 ⟨I.ok.frames,I.ok.mod,I.bs,Nat.le_trans I.ok.bsz I.sz,I.stack,I.stkFree,I.hok,I.bare⟩
variable{Q:VK}
theorem Inv.after(I:Inv X pins σ H s)(h:CE X.stack X.prog X.w H s Q u s'):EP X pins σ Q u s':=by
 obtain⟨v,H',os,bare,un,hok,r,q⟩:=h
 obtain⟨hh,g,d,t,os'⟩:=s'
 obtain rfl:os'=s.os:=os
 exact⟨v,H',I.call (h':=hh) (g':=g) (d':=d) (t':=t) (ch:=[]) un hok bare (fun b z=>absurd z (by simp)),r,q⟩
def zl9(sp:Sp)(dvs:List V)(E:XK)(t:TA):TE:=fun σ H Q=>t σ H fun vs H1=>sp (vs++dvs) H1 Q E
def Binds(K:PySem.W.Frag)(fd:FuncData)(ps:List Str)(ds:List Value):Prop :=
 ∀(s:Shared) (us:List Value),K.In s.heap->(us++ds).length=ps.length->BindsTo s fd ⟨us,[]⟩ (ps.zip (us++ds))
theorem Binds.all(h:∀us:List Value,us.length=ps.length->bindArgs fd ⟨us,[]⟩=pure (ps.zip us)):Binds K fd ps []:=fun s us _ hl=>by
 rw[List.append_nil] at hl ⊢
 exact .of_eq (h us hl)
def zgs(CX:CXT)(X:Cx)(E:XK):Prop:=∀(pins:List (Addr×Obj)) (σ:St) (H:Hp) (s:Shared) (e:Value) (s':Shared),Inv X pins σ H s->CX X.stack H s E e s'->X.xe e s'
variable{E:XK}{dvs:List V}{ds:List Value}
theorem zma(F:FnOk X.prog X.w X.K X.mg X.base CX k f fd ps sp)(hr:Room k X.A)(hb:Binds X.K fd ps ds)(hd:Vals dvs ds)(hx:zgs CX X E)(I:Inv X pins σ H s)(r:Vals vs us)(h:sp (vs++dvs) H Q E):wpAny (model X.prog X.w) X.A (call (.ref f) us) (EP X pins σ Q) X.xe s:=by
 have r2:Vals (vs++dvs) (us++ds):=r.append hd
 have hl:(us++ds).length=ps.length:=by rw[← r2.length];exact F.len _ _ _ _ h
 refine wpAny_call (codeAny_mono (F.run X.A X.stack s H ⟨us,[]⟩ (us++ds) (vs++dvs) Q E hr I.env0 (hb s us I.kIn hl) r2 h) fun r s' hq=>?_)
 cases r with
 | error e=>exact hx pins σ H s e s' I hq
 | ok fl =>
   cases fl with
   | ret u=>exact I.after hq
   | next=>exact False.elim hq
   | brk=>exact False.elim hq
   | cont=>exact False.elim hq
theorem zj0(F:FnOk X.prog X.w X.K X.mg X.base CX k f fd ps sp)(hr:Room k X.A)(hg:Gl X x)(hm:X.mg x=some (.ref f))(hk:PySem.W.keepIn X.K (.ref f)=true)(hb:Binds X.K fd ps ds)(hd:Vals dvs ds)(hx:zgs CX X E)(ha:PA X (e::es) t)(hdb:(x==("__debug__" : Str))=false:=by decide)(he:starEach (e::es) X.env=(false,eval e X.env)::starEach es X.env:=by rfl)(hpl:(backTo pos (starEach es X.env)).any (·.1)=false:=by rfl) :
  PE X (.Call (.Name x p) (e::es) [] pos) (zl9 sp dvs E t):=by
 intro pins s σ H Q I h
 refine wpAny_Call_Name_kw (zcp I hg hm ?_ hdb)
 refine PySem.W.callWith_K (h₀:=X.base) I.ok.mod.kin hk (thn (ha pos pins s σ H _ I h) fun us s1 ⟨vs,H1,I1,r,q⟩=>⟨I1.kIn,?_⟩) he hpl
 exact zma F hr hb hd hx I1 r q
structure Mk (K:PySem.W.Frag) (C f:Addr):Prop where
 makes:PySem.W.makesIn K C=true
 init:PySem.W.findIn K (.ref C) "__init__" = some (some (.ref f))
 fn:PySem.W.isFn K (.ref f)=true
 kp:PySem.W.keepIn K (.ref C)=true
section
variable {X:Cx} {CX:CXT} {k:Nat} {f C:Addr} {fd:FuncData} {ps ks:List Str} {sp:Sp} {E:XK} {x m:Str} {p pos apos kpos:Pos} {e o:Expr} {es:List Expr} {kws:List Keyword} {te ta:TE} {t tk:TA} {nm:Option Str}
structure zo2 (K:PySem.W.Frag) (fd:FuncData) (ps ks:List Str) (g:List Value->List Value->List Value) (gV:List V->List V->List V):Prop where
 to:∀(s:Shared) (us ws:List Value),K.In s.heap->(g us ws).length=ps.length->BindsTo s fd ⟨us,ks.zip ws⟩ (ps.zip (g us ws))
 rel:∀ {vs:List V} {us:List Value} {zs:List V} {ws:List Value},Vals vs us->Vals zs ws->Vals (gV vs zs) (g us ws)
variable {g:List Value->List Value->List Value} {gV:List V->List V->List V}
end
structure zb0 (N P:List Str) (sc:Scope):Prop where
 kind:sc.kind=.function
 co:sc.isCoroutine=false
 gen:sc.isGenerator=false
 nd:N.Nodup
 pre:N.take P.length=P
 par:∀x∈P,sc.names.lookup x=some .local\/sc.names.lookup x=some .cell
 nofree:∀y∈sc.names,y.2≠.free
theorem zeb{kindOf:Str->Option NameKind}{x:Str}:∀ {binds:List (Str×Value)} {m:Str->Option Value},(∀v,(x,v)∉binds)->bindL kindOf binds m x=m x
 | [],_,_=>rfl
 | (n,v)::r,m,h=>by
   unfold bindL
   rw[zeb fun w hw=>h w (List.mem_cons_of_mem _ hw)]
   split
   ·have:x≠n:=by rintro rfl;exact h v List.mem_cons_self
    simp[this]
   ·rfl
theorem zec{kindOf:Str->Option NameKind}{x:Str}:∀ {binds:List (Str×Value)} {m:Str->Option Value},(∀v,(x,v)∉binds)->bindC kindOf binds m x=m x
 | [],_,_=>rfl
 | (n,v)::r,m,h=>by
   unfold bindC
   rw[zec fun w hw=>h w (List.mem_cons_of_mem _ hw)]
   split
   ·rfl
   ·have:x≠n:=by rintro rfl;exact h v List.mem_cons_self
    simp[this]
theorem zed{kindOf:Str->Option NameKind}{x:Str}{v:Value}:∀ {P:List Str} {vs:List Value} {i:Nat} {m:Str->Option Value},P.Nodup->P[i]?=some x->vs[i]?=some v->kindOf x=some .local ->
  bindL kindOf (P.zip vs) m x=some v
 | [],_,_,_,_,h,_,_=>by simp at h
 | _::_,[],_,_,_,_,h,_=>by simp at h
 | p::P,w::vs,0,m,nd,h1,h2,hk=>by
   simp at h1 h2;subst h1;subst h2
   show bindL kindOf ((p,w)::P.zip vs) m p=_
   unfold bindL
   rw[zeb fun v hv=>(List.nodup_cons.mp nd).1 (List.of_mem_zip hv).1,if_pos hk]
   simp
 | p::P,w::vs,i+1,m,nd,h1,h2,hk=>by
   show bindL kindOf ((p,w)::P.zip vs) m x=_
   unfold bindL
   exact zed (i:=i) (List.nodup_cons.mp nd).2 (by simpa using h1) (by simpa using h2) hk
theorem zee{kindOf:Str->Option NameKind}{x:Str}{v:Value}:∀ {P:List Str} {vs:List Value} {i:Nat} {m:Str->Option Value},P.Nodup->P[i]?=some x->vs[i]?=some v->kindOf x≠some .local ->
  bindC kindOf (P.zip vs) m x=some v
 | [],_,_,_,_,h,_,_=>by simp at h
 | _::_,[],_,_,_,_,h,_=>by simp at h
 | p::P,w::vs,0,m,nd,h1,h2,hk=>by
   simp at h1 h2;subst h1;subst h2
   show bindC kindOf ((p,w)::P.zip vs) m p=_
   unfold bindC
   rw[zec fun v hv=>(List.nodup_cons.mp nd).1 (List.of_mem_zip hv).1,if_neg hk]
   simp
 | p::P,w::vs,i+1,m,nd,h1,h2,hk=>by
   show bindC kindOf ((p,w)::P.zip vs) m x=_
   unfold bindC
   exact zee (i:=i) (List.nodup_cons.mp nd).2 (by simpa using h1) (by simpa using h2) hk
def zbv(N:List Str)(vs:List V):St:=vs.map some++List.replicate (N.length-vs.length) none
def cxOf(CX:CXT)(P:Program)(w:World)(K:PySem.W.Frag)(mg:Str->Option Value)(base:Heap)(N:List Str)(qual:Str)(scope:Scope)(f:Addr)(cd:Value)(A:Around)(outer:List Env)(s:Shared)(H:Hp)(E:XK):Cx where
 prog:=P
 w:=w
 K:=K
 mg:=mg
 base:=base
 A:=A.deeper (envOfC qual scope s.heap.objs.size f cd)
 N:=N
 s₀:=s
 H₀:=H
 env:=envOfC qual scope s.heap.objs.size f cd
 outer:=outer
 stack:=envOfC qual scope s.heap.objs.size f cd::outer
 ex:=[]
 calm:=true
 fn:=fun _=>true
 pn:=[]
 xe:=fun e s'=>wpAny (model P w) (A.deeper (envOfC qual scope s.heap.objs.size f cd)) (leaving (envOfC qual scope s.heap.objs.size f cd) e) (fun _ s''=>CX outer H s E e s'') (fun e' s''=>CX outer H s E e' s'') s'
theorem zfl{sc:Scope}(h:sc.names.lookup x=some .cell):∃c,(cellsFrom n sc.names []).lookup x=some c:=by
 have q:=PySem.W.cellsFrom_some sc.names n [] (.inl h)
 exact Option.isSome_iff_exists.mp q
variable{qual:Str}{scope:Scope}
theorem zef{cd:Value}{s1:Shared}(S:zb0 N ps scope)(hd:A.handled=none)(e0:Env0 P w K mg base A outer s H)(hl:vs.length=ps.length)(r:Vals vs us)(x:InCallC s s.heap.objs.size (bindL (envOfC qual scope s.heap.objs.size f cd).kindOf (ps.zip us) fun _=>none) (cellsFrom (s.heap.objs.size+1) scope.names []) (bindC (envOfC qual scope s.heap.objs.size f cd).kindOf (ps.zip us) fun _=>none) s1) :
  Inv (cxOf CX P w K mg base N qual scope f cd A outer s H E) [] (zbv N vs) H s1:=by
 have hpl:ps.length<=N.length:=by have:=congrArg List.length S.pre;rw[List.length_take] at this;omega
 obtain⟨h1,tk,rfl,hk⟩:=x.done
 have noA:∀b:Addr,b∉(cxOf CX P w K mg base N qual scope f cd A outer s H E).ex:=fun b z=>absurd (show b∈([]:List Addr) from z) (by simp)
 refine⟨⟨e0.mod,S.kind,rfl,rfl,Nat.le_refl _,fun y z c h1 h2=>?_,fun y hy=>?_,fun y c _ h=>?_,fun _=>hd,Around.frames_deeper e0.frames,.inr ⟨rfl,rfl⟩,fun b z=>absurd z (noA b),e0.bs,e0.bsz,fun b _ _=>noA b,fun b z=>absurd z (noA b),e0.funs,e0.frf⟩,
  rfl,e0.bare,Un.kept hk,⟨_,x.toInCall.ns,fun i y v h1 h2 h3=>?_⟩,fun y c h=>⟨_,x.cell y c h⟩,e0.hok.fresh (Nat.le_refl _),fun y c h=>?_,fun p hp=>absurd (show p∈([]:List (Addr×Obj)) from hp) (by simp),e0.hok.kept hk,?_⟩
 ·exact name_of_addr x.apart (PySem.mem_of_lookup h1) (PySem.mem_of_lookup h2)
 ·have hy:scope.names.lookup y=some .cell\/scope.names.lookup y=some .free:=hy
  rcases hy with hy | hy
  ·exact zfl hy
  ·exact absurd rfl (S.nofree _ (PySem.mem_of_lookup hy))
 ·exact Nat.le_of_lt (x.above y c (PySem.mem_of_lookup h))
 ·have hi:i<vs.length:=by
   unfold zbv at h2
   by_cases hi:i<vs.length
   ·exact hi
   ·rw[List.getElem?_append_right (by simpa using hi)] at h2
    rw[List.getElem?_replicate] at h2
    split at h2 <;> cases h2
  have ha:vs[i]?=some v:=by
   unfold zbv at h2
   rw[List.getElem?_append_left (by simpa using hi),List.getElem?_map] at h2
   cases e:vs[i]? with
   | none=>rw[e] at h2;cases h2
   | some a=>rw[e] at h2;cases h2;rfl
  obtain⟨u,hu,rv⟩:=r.get ha
  have hp:ps[i]?=some y:=by
   rw[← S.pre,List.getElem?_take_of_lt (by omega)];exact h1
  have ndP:ps.Nodup:=by rw[← S.pre];exact S.nd.sublist (List.take_sublist _ _)
  refine⟨u,rv,?_⟩
  rcases S.par y (List.mem_of_getElem? hp) with k | k
  ·exact .inl ⟨k,zed ndP hp hu k⟩
  ·obtain⟨c,e⟩:=zfl (n:=s.heap.objs.size+1) k
   refine .inr ⟨.inl k,c,e,?_⟩
   have q:=x.cell y c e
   rw[zee ndP hp hu (by show scope.names.lookup y≠_;rw[k];decide)] at q
   exact q
 ·exact e0.hok.fresh (Nat.le_of_lt (x.above y c (PySem.mem_of_lookup h)))
 ·unfold zbv
  show _=N.length
  rw[List.length_append,List.length_map,List.length_replicate]
  omega
theorem zmb{name:Str}{params:Arguments}{dV kV doc pm cdv ct oc:Value}{an od:Option Addr}{osl:Array (Option Value)}(lk:K.lookup f=some ⟨oc,od,.func (PySem.W.fnOf name qual params body scope dV kV doc pm an cdv ct),osl⟩)(hcd:PySem.W.codeIn K cdv qual=true)(S:zb0 N ps scope)(len:∀vs H Q E,sp vs H Q E->vs.length=ps.length)(hbody:∀(A:Around) (outer:List Env) (s:Shared) (H:Hp) (vs:List V) (Q:VK) (E:XK),Room k (A.deeper (envOfC qual scope s.heap.objs.size f cdv))->sp vs H Q E ->
   ∃t,PSs (cxOf CX P w K mg base N qual scope f cdv A outer s H E) body t/\t { nx:=fun _ H'=>Q .non H',rt:=Q } (zbv N vs) H) :
  FnOk P w K mg base CX (k+1) f (PySem.W.fnOf name qual params body scope dV kV doc pm an cdv ct) ps sp:=by
 refine⟨len,fun A outer s H args us vs Q E hr e0 hb r hsp=>?_⟩
 have hl:=len _ _ _ _ hsp
 have KX:K.In s.heap:=e0.mod.kin.keeps fun b o e=>(e0.bs b o e).1
 have lim:s.heap.NoLimit:=e0.mod.nolimit.keeps fun b o e=>(e0.bs b o e).1
 have hkind:∀y∈ps.zip us,scope.names.lookup y.1=some .local\/(scope.names.lookup y.1=some .cell/\((cellsFrom (s.heap.objs.size+1) scope.names []).lookup y.1).isSome=true):=fun⟨n,v⟩ hy=>by
  rcases S.par n (List.of_mem_zip hy).1 with q | q
  ·exact .inl q
  ·exact .inr ⟨q,PySem.W.cellsFrom_some _ _ _ (.inl q)⟩
 refine codeAny_call_function hr.depth (KX _ _ lk) rfl S.co S.gen rfl (PySem.W.codeRec_of KX hcd) (hb _ _ _ _ ?_)
 refine wpAny_newFunctionEnv_cells S.kind hkind fun env he s1 x=>?_
 subst he
 refine⟨lim.keeps x.toInCall.keep,codeAny_func ?_⟩
 obtain⟨t,ht,hq⟩:=hbody A outer s H vs Q E (hr.deeper _) hsp
 have I:Inv (cxOf CX P w K mg base N qual scope f cdv A outer s H E) [] (zbv N vs) H s1:=zef S hr.hd e0 hl r x
 refine wpAny_mono (ht [] s1 (zbv N vs) H _ I hq) (fun fl s' hs=>?_) fun e s' hs=>hs
 have fin:∀ {σ':St} {H':Hp} {v:V} {u:Value},Inv (cxOf CX P w K mg base N qual scope f cdv A outer s H E) [] σ' H' s'->RelV v u->Q v H'->CE outer P w H s Q u s' :=
  fun {σ' H' v u} J rv q=>⟨v,H',J.os,J.bare,J.base,J.hok,rv,q⟩
 cases fl with
 | ret u =>
   obtain⟨v,σ',H',J,rv,q⟩:=hs
   exact fin J rv q
 | next =>
   obtain⟨σ',H',J,q⟩:=hs
   exact fin (v:=V.non) (u:=Value.none) J rfl q
 | brk =>
   obtain⟨_,_,_,q⟩:=hs
   exact False.elim q
 | cont =>
   obtain⟨_,_,_,q⟩:=hs
   exact False.elim q
def tCB(r:List V->Hp->VK->Prop)(t:TA):TE:=fun σ H Q=>t σ H fun vs H1=>r vs H1 Q
variable{r:List V->Hp->VK->Prop}{id:String}
theorem zc1(hc:CallR X (.builtin id) r)(hg:Gl X x)(hm:X.mg x=none)(hv:bootBuiltins x=some (.builtin id))(ha:PA X (e::es) t)(hn:x ≠ "__name__":=by decide)(hdb:(x==("__debug__" : Str))=false:=by decide)(he:starEach (e::es) X.env=(false,eval e X.env)::starEach es X.env:=by rfl)(hpl:(backTo pos (starEach es X.env)).any (·.1)=false:=by rfl):PE X (.Call (.Name x p) (e::es) [] pos) (tCB r t):=by
 intro pins s σ H Q I h
 refine wpAny_Call_Name_kw (zfj I hg hm hv ?_ hn hdb)
 exact PyProof.Rows.callWith_builtin1 (thn (ha pos pins s σ H _ I h) fun us s1 ⟨vs,H1,I1,r1,q1⟩=>hc pins s1 σ H1 vs us Q I1 r1 q1) he hpl
variable{T:String}
theorem zeg(hc:CallR X (.type T) r)(hg:Gl X x)(hm:X.mg x=none)(hv:bootBuiltins x=some (.type T))(ha:PA X (e::es) t)(hn:x ≠ "__name__":=by decide)(hdb:(x==("__debug__" : Str))=false:=by decide)(he:starEach (e::es) X.env=(false,eval e X.env)::starEach es X.env:=by rfl)(hpl:(backTo pos (starEach es X.env)).any (·.1)=false:=by rfl):PE X (.Call (.Name x p) (e::es) [] pos) (tCB r t):=by
 intro pins s σ H Q I h
 refine wpAny_Call_Name_kw (zfj I hg hm hv ?_ hn hdb)
 exact PyProof.Rows.callWith_type1 (thn (ha pos pins s σ H _ I h) fun us s1 ⟨vs,H1,I1,r1,q1⟩=>hc pins s1 σ H1 vs us Q I1 r1 q1) he hpl
end L2
namespace HT
open PySem PyProof.Rows
section
open PySem.SeqAt
open PySem.AutoSeq1 (wpAny_loadPart')
open PySem.MeetsSeq PySem.MeetsSeq2 PySem.MeetsSeq3
end
def sIx(n d:Nat):Option Int->Nat
 | none=>d
 | some v=>if v<0 then(v+(n:Int)).toNat else min v.toNat n
theorem sIx_none(n d:Nat):sIx n d none=d:=rfl
theorem sIx_nat(n d k:Nat):sIx n d (some (k:Int))=min k n:=by
 show(if (k:Int)<0 then((k:Int)+(n:Int)).toNat else min (k:Int).toNat n)=min k n
 rw[if_neg (by omega),Int.toNat_natCast]
end HT
namespace L2
open PySem PySem.Spec PyProof.Rows
abbrev TO:=St->Hp->(Option Int->Hp->Prop)->Prop
def PO(X:Cx)(e:Option Expr)(t:TO):Prop :=
 ∀(pins:List (Addr×Obj)) (s:Shared) (σ:St) (H:Hp) (Q:Option Int->Hp->Prop),Inv X pins σ H s->t σ H Q ->
  wpAny (model X.prog X.w) X.A (evalPart e X.env) (fun u s'=>∃o H',Inv X pins σ H' s'/\IsPart u o/\Q o H') X.xe s
def zj1:TO:=fun _ H Q=>Q none H
def zn7(t:TE):TO:=fun σ H Q=>t σ H fun x H1=>∃i,x=.int i/\Q (some i) H1
theorem zf7{ns:List Int}:∀ {us:List Value},Vals (ns.map V.int) us->IntsAre us ns:=by
 induction ns with
 | nil=>intro us r;rw[List.map_nil] at r;cases r;exact .nil
 | cons n ns ih =>
   intro us r
   rw[List.map_cons] at r
   cases r with
   | cons r1 r2 =>
     obtain⟨t,e⟩:=r1
     subst e
     exact .cons n t (ih r2)
variable{X:Cx}
theorem zj2:PO X none zj1:=by
 intro pins s σ H Q I h
 rw[evalPart_none]
 exact wpAny_pure ⟨none,H,I,.none,h⟩
variable{e:Expr}{te:TE}
theorem zj3(h:PE X e te):PO X (some e) (zn7 te):=by
 intro pins s σ H Q I hw
 rw[evalPart_some]
 refine thn (h pins s σ H _ I hw) fun u s1 ⟨x,H1,I1,r1,q1⟩=>?_
 obtain⟨i,rfl,q⟩:=q1
 obtain⟨t,rfl⟩:=r1
 exact⟨some i,H1,I1,.int i t,q⟩
variable{lo hi:Option Expr}
def SlR(X:Cx)(r:V->Option Int->Option Int->Hp->VK->Prop):Prop :=
 ∀(pins:List (Addr×Obj)) (s:Shared) (σ:St) (H:Hp) (x:V) (v vl vu:Value) (lo hi:Option Int) (sl:Addr) (Q:VK),Inv X pins σ H s->RelV x v->s.heap.IsSliceOf sl vl vu .none->IsPart vl lo->IsPart vu hi->r x lo hi H Q ->
  ∃T id,typeLookup (.type T) "__getitem__" = pure (some (.builtin id))/\s.TypeIs v T/\wpAny (model X.prog X.w) X.A (getItem v (.ref sl)) (EP X pins σ Q) X.xe s
variable{r:V->Option Int->Option Int->Hp->VK->Prop}
theorem SlR.or{r':V->Option Int->Option Int->Hp->VK->Prop}(h:SlR X r)(h':SlR X r'):SlR X (fun x lo hi H Q=>r x lo hi H Q\/r' x lo hi H Q):=by
 intro pins s σ H x v vl vu lo hi sl Q I rx hs pl pu q
 rcases q with q | q
 ·exact h pins s σ H x v vl vu lo hi sl Q I rx hs pl pu q
 ·exact h' pins s σ H x v vl vu lo hi sl Q I rx hs pl pu q
def tSl(r:V->Option Int->Option Int->Hp->VK->Prop)(te:TE)(tl th:TO):TE:=fun σ H Q=>te σ H fun x H1=>tl σ H1 fun l H2=>th σ H2 fun u H3=>r x l u H3 Q
variable{tl th:TO}{pos p2:Pos}
theorem zh4(hr:SlR X r)(he:PE X e te)(hl:PO X lo tl)(hu:PO X hi th):PE X (.Subscript e (.Slice lo hi none p2) pos) (tSl r te tl th):=by
 intro pins s σ H Q I h
 refine Subscript_ (thn (he pins s σ H _ I h) fun v s1 ⟨x,H1,I1,r1,q1⟩=>?_)
 refine wpAny_Slice (thn (hl pins s1 σ H1 _ I1 q1) fun vl s2 ⟨l,H2,I2,pl,q2⟩=>thn (hu pins s2 σ H2 _ I2 q2) fun vu s3 ⟨u,H3,I3,pu,q3⟩=>?_)
 rw[evalPart_none]
 refine wpAny_pure ?_
 have I4:Inv X pins σ H3 { s3 with heap:=s3.heap.push { cls:=.type "slice",data:=.fields #[vl,vu,.none] } }:=I3.kept (t':=s3.toks) fun b ob q=>Heap.get?_push_of_some _ q
 obtain⟨T,id,hT,ht,hg⟩:=hr pins { s3 with heap:=s3.heap.push { cls:=.type "slice",data:=.fields #[vl,vu,.none] } } σ H3 x v vl vu l u s3.heap.objs.size Q I4 r1 (Heap.IsSliceOf.new ..) pl pu q3
 show wpAny (model X.prog X.w) X.A (subscriptTail e (.Slice lo hi none p2) v (.ref s3.heap.objs.size)) (EP X pins σ Q) X.xe { s3 with heap:=s3.heap.push { cls:=.type "slice",data:=.fields #[vl,vu,.none] } }
 exact tail_any (ops:=[.ref s3.heap.objs.size,v]) ht hT hg (by with_unfolding_all rfl)
def cutV(xs:List V)(lo hi:Option Int):List V:=(xs.drop (HT.sIx xs.length 0 lo)).take (HT.sIx xs.length xs.length hi-HT.sIx xs.length 0 lo)
theorem ze5(xs:List V)(lo hi:Option Int):(cutV xs lo hi).length<=xs.length:=by
 unfold cutV
 rw[List.length_take,List.length_drop]
 omega
def ixN(n:Nat)(i:Int):Option Nat:=if 0<=i then(if i<n then some i.toNat else none) else if -(n:Int)<=i then some (i+n).toNat else none
variable{α:Type}
def atI(xs:List α)(i:Int):Option α:=(ixN xs.length i).bind fun j=>xs[j]?
variable{n:Nat}{i:Int}
theorem zj4{j:Nat}(h:ixN n i=some j):seqIndex? i n=some j/\j<n/\-(n:Int)<=i/\i<n:=by
 unfold ixN at h
 by_cases h0:0<=i
 ·rw[if_pos h0] at h
  by_cases h1:i<n
  ·rw[if_pos h1] at h
   have e:i.toNat=j:=Option.some.inj h
   exact⟨by rw[seqIndex_of h0 h1,e],by omega,by omega,h1⟩
  ·rw[if_neg h1] at h;cases h
 ·rw[if_neg h0] at h
  by_cases h1:-(n:Int)<=i
  ·rw[if_pos h1] at h
   have e:(i+n).toNat=j:=Option.some.inj h
   exact⟨by rw[seqIndex_neg (by omega) h1,e],by omega,h1,by omega⟩
  ·rw[if_neg h1] at h;cases h
theorem ze6{xs:List α}{v:α}(h:atI xs i=some v):∃j,seqIndex? i xs.length=some j/\xs[j]?=some v/\j<xs.length/\-(xs.length:Int)<=i/\i<xs.length:=by
 unfold atI at h
 cases e:ixN xs.length i with
 | none=>rw[e] at h;cases h
 | some j =>
   rw[e] at h
   obtain⟨h1,h2,h3,h4⟩:=zj4 e
   exact⟨j,h1,h,h2,h3,h4⟩
def zdu(b:Expr):Prop:=∀o i,subscripted b false o i=operate [o,i] (getItem o i)
def IxR(X:Cx)(r:R2):Prop :=
 ∀(value slice:Expr) (pins:List (Addr×Obj)) (s:Shared) (σ:St) (H:Hp) (x y:V) (v u:Value) (Q:VK),Inv X pins σ H s->RelV x v->RelV y u->r x y H Q ->
  subscripted slice false v u=operate [v,u] (getItem v u)->wpAny (model X.prog X.w) X.A (subscriptTail value slice v u) (EP X pins σ Q) X.xe s
def MtR(X:Cx)(id:String)(r:V->List V->Hp->VK->Prop):Prop :=
 ∀(pins:List (Addr×Obj)) (s:Shared) (σ:St) (H:Hp) (x:V) (xs:List V) (v:Value) (us:List Value) (Q:VK),Inv X pins σ H s->RelV x v->Vals xs us->r x xs H Q ->
  wpAny (model X.prog X.w) X.A (call (.builtin id) (v::us)) (EP X pins σ Q) X.xe s
variable{r:V->List V->Hp->VK->Prop}
theorem IxR.or{r r':R2}(h:IxR X r)(h':IxR X r'):IxR X (fun x y H Q=>r x y H Q\/r' x y H Q):=by
 intro value slice pins s σ H x y v u Q I rx ry q hs
 rcases q with q | q
 ·exact h value slice pins s σ H x y v u Q I rx ry q hs
 ·exact h' value slice pins s σ H x y v u Q I rx ry q hs
variable{id:String}
theorem MtR.or{r':V->List V->Hp->VK->Prop}(h:MtR X id r)(h':MtR X id r'):MtR X id (fun x xs H Q=>r x xs H Q\/r' x xs H Q):=by
 intro pins s σ H x xs v us Q I rx rs q
 rcases q with q | q
 ·exact h pins s σ H x xs v us Q I rx rs q
 ·exact h' pins s σ H x xs v us Q I rx rs q
variable{a b:Expr}{ta tb:TE}
theorem zmc{r:R2}(hr:IxR X r)(ha:PE X a ta)(hb:PE X b tb)(hs:zdu b):PE X (.Subscript a b pos) (tOp r ta tb):=by
 intro pins s σ H Q I h
 exact Subscript_ (binT ha hb I h fun v u s2 x y H2 I2 rx ry q=>hr a b pins s2 σ H2 x y v u Q I2 rx ry q (hs _ _))
def rIxL(K:PySem.W.Frag):R2:=fun x y H Q=>∃p xs i v,x=.ref p/\y=.int i/\SqL K H p xs/\atI xs i=some v/\Q v H
def rIxT(K:PySem.W.Frag):R2:=fun x y H Q=>∃p xs i v,x=.ref p/\y=.int i/\SqT K H p xs/\atI xs i=some v/\Q v H
def rIxS:R2:=fun x y H Q=>∃z i c,x=.str z/\y=.int i/\z.length<=sizeLine/\atI z.cps.toList i=some c/\Q (.str ⟨#[c]⟩) H
theorem zj5:IxR X (rIxL X.K):=by
 intro value slice pins s σ H x y v u Q I rx ry h hs
 obtain⟨p,xs,i,z,rfl,rfl,hq,he,q⟩:=h
 cases rx
 obtain⟨t,rfl⟩:=ry
 obtain⟨its,r,pl,hz⟩:=I.list hq
 obtain⟨j,h1,h2,h3,h4,h5⟩:=ze6 he
 obtain⟨w,ew,rw'⟩:=r.get h2
 have hl:=r.length
 have hn:=zfk
 have fin:EP X pins σ Q w s:=⟨z,H,I,rw',q⟩
 by_cases h0:0<=i
 ·have hj:i.toNat=j:=by
   rw[seqIndex_of h0 h5] at h1
   exact Option.some.inj h1
  exact item_listR pl.isList h0 (by omega) (by rw[hj];simpa using ew) fin hs
 ·have hj:(i+(its.toArray.size:Int)).toNat=j:=by
   rw[seqIndex_neg (by omega) h4] at h1
   rw[List.size_toArray,← hl]
   exact Option.some.inj h1
  exact subscriptTail_builtinR (x:=w) pl.isList.typeIs slot_list_getitem.lookup
   (wpAny_getItem_list_neg (Q:=fun r s'=>r=w/\EP X pins σ Q r s') pl.isList (by omega) (by rw[List.size_toArray] <;> omega) (by omega) (by rw[hj];simpa using ew) ⟨rfl,fin⟩) hs
theorem zmd:IxR X (rIxT X.K):=by
 intro value slice pins s σ H x y v u Q I rx ry h hs
 obtain⟨p,xs,i,z,rfl,rfl,hq,he,q⟩:=h
 cases rx
 obtain⟨t,rfl⟩:=ry
 obtain⟨its,r,pl,hz⟩:=I.tuple hq
 obtain⟨j,h1,h2,h3,h4,h5⟩:=ze6 he
 obtain⟨w,ew,rw'⟩:=r.get h2
 have hl:=r.length
 have hn:=zfk
 have fin:EP X pins σ Q w s:=⟨z,H,I,rw',q⟩
 exact subscriptTail_builtinR (x:=w) pl.typeIs slot_tuple_getitem.lookup
  (getItem_tuple (j:=j) (Q:=fun r s'=>r=w/\EP X pins σ Q r s') pl (by omega) (by omega) (by rw[List.size_toArray,← hl];exact h1) (by simpa using ew) ⟨rfl,fin⟩) hs
theorem zme:IxR X rIxS:=by
 intro value slice pins s σ H x y v u Q I rx ry h hs
 obtain⟨z,i,c,rfl,rfl,hz,he,q⟩:=h
 obtain⟨t,rfl⟩:=rx
 obtain⟨t',rfl⟩:=ry
 obtain⟨j,h1,h2,h3,h4,h5⟩:=ze6 he
 have hl:z.cps.toList.length=z.length:=by simp[Str.length]
 rw[hl] at h1 h4 h5
 have hn:=zfk
 exact tail_any (typeIs_str s z t) slot_str_getitem.lookup (getItem_str (c:=c) (by
  have e1:decide (i < -(2 ^ 63:Int))=false:=decide_eq_false (by omega)
  have e2:decide (i >= 2 ^ 63)=false:=decide_eq_false (by omega)
  rw[e1,e2,Bool.or_false]) (by rw[h1];simpa using h2) ⟨.str ⟨#[c]⟩,H,I.tok _,⟨_,rfl⟩,q⟩) hs
def rIx(K:PySem.W.Frag):R2:=fun x y H Q=>rIxL K x y H Q\/rIxT K x y H Q\/rIxS x y H Q
theorem zi7:IxR X (rIx X.K):=zj5.or (zmd.or zme)
theorem Inv.lst{pins:List (Addr×Obj)}{σ:St}{H:Hp}{s:Shared}{p:Addr}{xs:List V}(I:Inv X pins σ H s)(h:H p=some (.lst xs)) :
  ∃(its:List Value) (n:Nat),Vals xs its/\s.heap.get? p=some { cls:=.type "list",data:=.seq its.toArray n }/\xs.length<=sizeLine:=by
 obtain⟨z,its,n,r,e⟩:=I.hok p _ h
 exact⟨its,n,r,e,z⟩
theorem zeh(lo hi:Option Int)(n:Nat):(sliceBounds lo hi none n).1=((HT.sIx n 0 lo:Nat):Int)/\(sliceBounds lo hi none n).2.1=((HT.sIx n n hi:Nat):Int)/\(sliceBounds lo hi none n).2.2=1:=by
 refine⟨?_,?_,rfl⟩
 ·cases lo with
  | none=>simp[sliceBounds,HT.sIx]
  | some i =>
    simp only[sliceBounds,HT.sIx,Option.getD_none,show(1:Int) > 0 by decide,if_true]
    by_cases h:i<0
    ·simp only[h,if_true] <;> omega
    ·simp only[h,if_false] <;> omega
 ·cases hi with
  | none=>simp[sliceBounds,HT.sIx]
  | some i =>
    simp only[sliceBounds,HT.sIx,Option.getD_none,show(1:Int) > 0 by decide,if_true]
    by_cases h:i<0
    ·simp only[h,if_true] <;> omega
    ·simp only[h,if_false] <;> omega
theorem zdv(its:List Value)(lo hi:Option Int):slicePick its.toArray lo hi none=((its.drop (HT.sIx its.length 0 lo)).take (HT.sIx its.length its.length hi-HT.sIx its.length 0 lo)).toArray:=by
 obtain⟨h1,h2,h3⟩:=zeh lo hi its.toArray.size
 unfold slicePick
 rw[h1,h2,h3]
 simp only[sliceRange_one,pick_run,List.size_toArray] <;> rfl
def rSlL(K:PySem.W.Frag):V->Option Int->Option Int->Hp->VK->Prop:=fun x lo hi H Q=>∃a xs,x=.ref a/\SqL K H a xs/\∀p,H p=none->Q (.ref p) (upd H p (.lst (cutV xs lo hi)))
theorem zj6:SlR X (rSlL X.K):=by
 intro pins s σ H x v vl vu lo hi sl Q I rx hs pl pu h
 obtain⟨a,xs,rfl,hx,q⟩:=h
 cases rx
 obtain⟨its,r,ht,hz⟩:=I.list hx
 have hlen:=r.length
 refine⟨"list",_,slot_list_getitem.lookup,ht.isList.typeIs,?_⟩
 refine wpAny_getItem_list_slice ht.isList hs pl pu .none (by simp) ?_ (by rw[List.size_toArray] <;> omega)
 rw[zdv,← hlen]
 refine⟨.ref s.heap.objs.size,_,I.laid (t':=s.toks) (o:=.lst (cutV xs lo hi)) (fun b ob q=>Heap.get?_push_of_some _ q) (Nat.le_refl _) ?_,rfl,q _ (I.hok.fresh (Nat.le_refl _))⟩
 exact⟨Nat.le_trans (ze5 xs lo hi) hz,_,0,(r.drop (HT.sIx xs.length 0 lo)).take (HT.sIx xs.length xs.length hi-HT.sIx xs.length 0 lo),Heap.get?_push_size _ rfl⟩
theorem zei:CallR X (.builtin "len") (fun xs H Q=>∃p ys,xs=[.ref p]/\(SqL X.K H p ys\/SqT X.K H p ys)/\Q (.int ys.length) H):=by
 intro pins s σ H xs us Q I r h
 obtain⟨p,ys,rfl,hq,q⟩:=h
 obtain⟨u,rfl,rx⟩:=zgo r
 cases rx
 have hn:=zfk
 rcases hq with hq | hq
 ·obtain⟨its,r',pl,hz⟩:=I.list hq
  have hlen:=r'.length
  exact Calls.call_len_list pl.isList (by simp only[List.size_toArray] <;> omega) ⟨.int ys.length,H,I.tok _,⟨s.toks+1,by rw[List.size_toArray,hlen]⟩,q⟩
 ·obtain⟨its,r',pl,hz⟩:=I.tuple hq
  have hlen:=r'.length
  exact len_tuple pl (by simp only[List.size_toArray] <;> omega) ⟨.int ys.length,H,I.tok _,⟨s.toks+1,by rw[List.size_toArray,hlen]⟩,q⟩
theorem CallR.or{f:Value}{r r':List V->Hp->VK->Prop}(h:CallR X f r)(h':CallR X f r'):CallR X f (fun xs H Q=>r xs H Q\/r' xs H Q):=by
 intro pins s σ H xs us Q I rs q
 rcases q with q | q
 ·exact h pins s σ H xs us Q I rs q
 ·exact h' pins s σ H xs us Q I rs q
theorem zej:CallR X (.type "list") (fun xs H Q=>∃p ys,xs=[.ref p]/\(SqL X.K H p ys\/SqT X.K H p ys)/\∀l,H l=none->Q (.ref l) (upd H l (.lst ys))):=by
 intro pins s σ H xs us Q I r h
 obtain⟨p,ys,rfl,hq,q⟩:=h
 obtain⟨u,rfl,rx⟩:=zgo r
 cases rx
 have fin:∀(its:List Value),Vals ys its->ys.length<=sizeLine->∀(h':Heap) (c':Nat),(∀b o',s.heap.get? b=some o'->h'.get? b=some o') ->
   h'.get? s.heap.objs.size=some { cls:=.type "list",dict:=none,data:=.seq its.toArray c',slots:=#[] }->EP X pins σ Q (.ref s.heap.objs.size) { s with heap:=h' }:=fun its r' hz h' c' kp e =>
  ⟨.ref s.heap.objs.size,_,I.laid (t':=s.toks) kp (Nat.le_refl _) (show ObjOk X.prog X.w _ h' _ (.lst ys) from⟨hz,its,c',r',e⟩),rfl,q _ (I.hok.fresh (Nat.le_refl _))⟩
 rcases hq with hq | hq
 ·obtain⟨its,r',pl,hz⟩:=I.list hq
  have hlen:=r'.length
  obtain⟨o,ho,hc,n,hd⟩:=pl.isList
  exact call_list_seq p (.inl rfl) ho hc hd (fun h' c' kp e=>fin its r' hz h' c' kp e) (by simp only[List.size_toArray] <;> omega)
 ·obtain⟨its,r',pl,hz⟩:=I.tuple hq
  have hlen:=r'.length
  obtain⟨o,ho,hc,n,hd⟩:=pl
  exact call_list_seq p (.inr rfl) ho hc hd (fun h' c' kp e=>fin its r' hz h' c' kp e) (by simp only[List.size_toArray] <;> omega)
theorem zdw:CallR X (.type "tuple") (fun xs H Q=>∃p ys,xs=[.ref p]/\((SqL X.K H p ys/\∀l,H l=none->Q (.ref l) (upd H l (.tup ys)))\/(SqT X.K H p ys/\Q (.ref p) H))):=by
 intro pins s σ H xs us Q I r h
 obtain⟨p,ys,rfl,h⟩:=h
 obtain⟨u,rfl,rx⟩:=zgo r
 cases rx
 rcases h with⟨hq,q⟩ | ⟨hq,q⟩
 ·obtain⟨its,r',pl,hz⟩:=I.list hq
  have hlen:=r'.length
  refine call_tuple_list pl.isList (fun h' kp=>?_) (by simp only[List.size_toArray] <;> omega)
  have I1:Inv X pins σ H { s with heap:=h' }:=I.kept (t':=s.toks) kp
  have I2:Inv X pins σ (upd H h'.objs.size (.tup ys)) { s with heap:=h'.push { cls:=.type "tuple",data:=.seq its.toArray } } :=
   I1.laid (t':=s.toks) (fun b o e=>Heap.get?_push_of_some _ e) (Nat.le_refl _) (show ObjOk X.prog X.w _ _ _ (.tup ys) from⟨hz,its,r',IsTup.new _ _⟩)
  exact⟨.ref h'.objs.size,_,I2,rfl,q _ (I1.hok.fresh (Nat.le_refl _))⟩
 ·obtain⟨its,r',pl,hz⟩:=I.tuple hq
  exact call_tuple_same pl ⟨.ref p,H,I,rfl,q⟩
def tyV(K:PySem.W.Frag)(T:String)(x:V)(H:Hp):Prop:=match x with
 | .str _=>T = "str"
 | .int _=>T = "int"
 | .ref p=>(T = "list"/\∃xs,SqL K H p xs)\/(T = "tuple"/\∃o,K.lookup p=some o/\o.cls=.type "tuple"/\o.dict=none) \/
    (T = "dict"/\((∃kvs,H p=some (.dK kvs))\/∃kvs,H p=some (.dT kvs)))\/(T = "set"/\∃S n,H p=some (.set S n))
 | _=>False
variable{pins:List (Addr×Obj)}{σ:St}{H:Hp}{s:Shared}{T:String}
theorem zmf{x:V}{v:Value}(I:Inv X pins σ H s)(r:RelV x v)(ty:tyV X.K T x H) :
  s.TypeIs v T/\∀a,v=.ref a->∃ob,s.heap.get? a=some ob/\ob.dict=none:=by
 cases x with
 | str z =>
   obtain⟨t,rfl⟩:=r
   cases (show T = "str" from ty)
   exact⟨typeIs_str s z t,fun _ e=>nomatch e⟩
 | int i =>
   obtain⟨t,rfl⟩:=r
   cases (show T = "int" from ty)
   exact⟨typeIs_int s i t,fun _ e=>nomatch e⟩
 | ref p =>
   cases r
   rcases ty with⟨rfl,xs,hq⟩ | ⟨rfl,o,hk,hc,hd⟩ | ⟨rfl,hk⟩ | ⟨rfl,S,n,hk⟩
   ·obtain⟨its,_,pl,_⟩:=I.list hq
    refine⟨pl.isList.typeIs,fun a e=>?_⟩
    cases e
    obtain⟨o,n,e,c,hd,_⟩:=pl
    exact⟨o,e,hd⟩
   ·refine⟨⟨o,I.kIn p o hk,hc⟩,fun a e=>?_⟩
    cases e
    exact⟨o,I.kIn _ o hk,hd⟩
   ·have z:∃o,s.heap.get? p=some o/\o.ExactDict:=by
     rcases hk with⟨kvs,hk⟩ | ⟨kvs,hk⟩
     ·obtain⟨_,_,_,_,o,_,_,e,ex,_⟩:=I.hok p _ hk
      exact⟨o,e,ex⟩
     ·obtain⟨_,_,_,_,o,_,_,e,ex,_⟩:=I.hok p _ hk
      exact⟨o,e,ex⟩
    obtain⟨o,e,ex⟩:=z
    refine⟨⟨o,e,ex.1⟩,fun a e2=>?_⟩
    cases e2
    exact⟨o,e,ex.2.1⟩
   ·obtain⟨o,_,_,_,e,ex,_⟩:=I.hok p _ hk
    refine⟨⟨o,e,ex.1⟩,fun a e2=>?_⟩
    cases e2
    exact⟨o,e,ex.2.1⟩
 | _=>exact False.elim ty
def tBM(K:PySem.W.Frag)(T:String)(r:V->List V->Hp->VK->Prop)(to:TE)(t:TA):TE:=fun σ H Q=>to σ H fun x H1=>tyV K T x H1/\t σ H1 fun xs H2=>r x xs H2 Q
variable{o:Expr}{es:List Expr}{to:TE}{t:TA}{name:Str}{apos cpos:Pos}
theorem zn8(pa:PlainAttrs T)(slot:Slot T name id)(hty:typeOf (.builtin id)=pure (.type "method_descriptor"))(hm:MtR X id r)(ho:PE X o to)(ha:PA X (e::es) t)(hbase:attributeBase o name X.env (eval o X.env)=eval o X.env:=by rfl)(hfew:((backTo cpos (starEach (e::es) X.env)).all (fun x=>!x.1) && (backToKw cpos (keywordEach [] X.env)).all (fun x=>x.1.isSome)
   && decide ((e::es).length+([]:List Keyword).length+(if ([]:List Keyword).isEmpty then 0 else 1)<30))=true:=by rfl)(hline:(apos.endLine==cpos.line)=true:=by rfl)(hs:starEach (e::es) X.env=(false,eval e X.env)::starEach es X.env:=by rfl)(hplain:(backTo cpos (starEach es X.env)).any (·.1)=false:=by rfl) :
  PE X (.Call (.Attribute o name apos) (e::es) [] cpos) (tBM X.K T r to t):=by
 intro pins s σ H Q I h
 refine wpAny_Call_method_late hbase hfew hline rfl (thn (ho pins s σ H _ I h) fun v s1 ⟨x,H1,I1,r1,ty,q1⟩=>?_)
 obtain⟨h1,h2⟩:=zmf I1 r1 ty
 refine⟨T,id,pa,slot,hty,h1,h2,?_⟩
 have hA:=ha cpos pins s1 σ H1 _ I1 q1
 rw[hs] at hA ⊢
 refine Calls.callWith_builtin (by show(false || (backTo cpos (starEach es X.env)).any (·.1))=false;rw[hplain] <;> rfl) (Calls.evalArgs_plain ?_)
 exact thn hA fun us s2 ⟨vs,H2,I2,r2,q2⟩=>hm pins s2 σ H2 x vs v us Q I2 r1 r2 q2
def MtM(X:Cx)(id:String)(r:V->List V->Hp->VK->Prop):Prop :=
 ∀(pins:List (Addr×Obj)) (s:Shared) (σ:St) (H:Hp) (x:V) (xs:List V) (v:Value) (us:List Value) (Q:VK),Inv X pins σ H s->RelV x v->Vals xs us->r x xs H Q ->
  wpAny (model X.prog X.w) X.A (call (.builtin id) (v::us)) (EP X pins σ Q) X.xe s
theorem Vals.one:∀ {x:V} {us:List Value},Vals [x] us->∃u,us=[u]/\RelV x u
 | _,_,.cons r .nil=>⟨_,rfl,r⟩
variable{xs:List V}{us:List Value}
theorem Vals.dropLast(h:Vals xs us):Vals xs.dropLast us.dropLast:=by
 induction h with
 | nil=>exact .nil
 | cons r t ih =>
   cases t with
   | nil=>exact .nil
   | cons q t'=>exact .cons r ih
theorem Vals.eraseIdx:∀ {xs:List V} {us:List Value} (i:Nat),Vals xs us->Vals (xs.eraseIdx i) (us.eraseIdx i)
 | _,_,_,.nil=>.nil
 | _,_,0,.cons _ t=>t
 | _,_,i+1,.cons r t=>.cons r (Vals.eraseIdx i t)
theorem Vals.reverse(h:Vals xs us):Vals xs.reverse us.reverse:=by
 induction h with
 | nil=>exact .nil
 | cons r t ih=>rw[List.reverse_cons,List.reverse_cons];exact Vals.append ih (.cons r .nil)
theorem Vals.rep{xs:List V}{us:List Value}(h:Vals xs us):∀k:Nat,Vals (List.replicate k xs).flatten (List.replicate k us).flatten
 | 0=>.nil
 | k+1=>by
   rw[List.replicate_succ,List.replicate_succ,List.flatten_cons,List.flatten_cons]
   exact Vals.append h (Vals.rep h k)
theorem zek(its:List Value):∀(k:Nat) (acc:List Value),
  List.foldl (fun x1 x2=>x1++x2) acc.toArray (List.replicate k its.toArray)=(acc++(List.replicate k its).flatten).toArray
 | 0,acc=>by simp
 | k+1,acc=>by
   have e:acc.toArray++its.toArray=(acc++its).toArray:=by simp
   have e2:(acc++its)++(List.replicate k its).flatten=acc++(List.replicate (k+1) its).flatten:=by
    rw[List.replicate_succ,List.flatten_cons,List.append_assoc]
   rw[← e2,← zek its k (acc++its),← e,List.replicate_succ,List.foldl_cons]
variable{its:List Value}{t':Nat}{l:Addr}{ys:List V}
theorem Inv.lset{its':List Value}{f:Array Value->Array Value}(I:Inv X pins σ H s)(hH:H l=some (.lst xs))(e:s.heap.get? l=some { cls:=.type "list",data:=.seq its.toArray n })(hf:f its.toArray=its'.toArray)(hv:Vals ys its')(hz:ys.length<=sizeLine) :
  Inv X pins σ (upd H l (.lst ys)) { s with heap:=s.heap.update l (Obj.mapSeq f),toks:=t' }:=by
 have q:=PySem.IsL.update e f
 rw[hf] at q
 refine I.write (x:=l) (e:=l) (by rw[hH];exact trivial) (.inl rfl) (fun b' u hb hu=>(Heap.get?_update_other s.heap (Obj.mapSeq f) (Ne.symm hb)).trans hu) ⟨_,q⟩ ?_
 exact⟨hz,its',_,hv,q⟩
theorem Inv.lnew(I:Inv X pins σ H s)(hv:Vals ys its)(hz:ys.length<=sizeLine) :
  Inv X pins σ (upd H s.heap.objs.size (.lst ys)) { s with heap:=s.heap.push { cls:=.type "list",data:=.seq its.toArray },toks:=t' } :=
 I.laid (fun _ _ q=>Heap.get?_push_of_some _ q) (Nat.le_refl _) ⟨hz,its,0,hv,Heap.get?_push_size _ rfl⟩
theorem Inv.fresh(I:Inv X pins σ H s):H s.heap.objs.size=none:=I.hok.fresh (Nat.le_refl _)
theorem Inv.lstM(I:Inv X pins σ H s)(hH:H l=some (.lst xs)):xs.length<=sizeLine/\∃(its:List Value) (n:Nat),Vals xs its/\xs.length=its.length/\s.heap.get? l=some { cls:=.type "list",data:=.seq its.toArray n }:=by
 obtain⟨z,its,n,r,e⟩:=I.hok l _ hH
 exact⟨z,its,n,r,r.length,e⟩
theorem zh5(h:n<=sizeLine):Builtin.List.listTooLong n=false:=by
 unfold Builtin.List.listTooLong
 exact decide_eq_false (by omega)
def zj7:V->List V->Hp->VK->Prop:=fun x vs H Q=>∃l xs y,x=.ref l/\vs=[y]/\H l=some (.lst xs)/\xs.length<sizeLine/\Q .non (upd H l (.lst (xs++[y])))
theorem zgt:MtM X "list.append" zj7:=by
 intro pins s σ H x vs v us Q I rx rv h
 obtain⟨l,xs,y,rfl,rfl,hH,hz,q⟩:=h
 cases rx
 obtain⟨u,rfl,ru⟩:=rv.one
 obtain⟨z,its,n,r,hl,e⟩:=I.lstM hH
 refine call_meets F.slot_list_append ⟨_,e,rfl⟩ F.entry_list_append (F.args_list_append_2 _ _) (PySem.list_append l its.toArray n u (by rw[List.size_toArray];omega)) ⟨e,?_⟩
 refine⟨.non,_,I.lset (its':=its++[u]) hH e (by simp) (r.append (.cons ru .nil)) ?_,rfl,q⟩
 rw[List.length_append,List.length_singleton]
 omega
def rRep:R2:=fun x y H Q=>∃l k xs,x=.ref l/\y=.int k/\H l=some (.lst xs)/\-(2 ^ 63)<=k/\k<2 ^ 63/\xs.length*k.toNat<=sizeLine /\
 ∀p,H p=none->Q (.ref p) (upd H p (.lst (List.replicate k.toNat xs).flatten))
theorem zj8(xs:List α)(k:Nat):(List.replicate k xs).flatten.length=k*xs.length:=by
 induction k with
 | zero=>simp
 | succ k ih=>rw[List.replicate_succ,List.flatten_cons,List.length_append,ih,Nat.succ_mul,Nat.add_comm]
theorem zmg:OpR X (binaryOp .Mult) rRep:=by
 intro pins s σ H x y v u Q I rx ry h
 obtain⟨l,k,xs,rfl,rfl,hH,h1,h2,hz,q⟩:=h
 cases rx
 obtain⟨t,rfl⟩:=ry
 obtain⟨z,its,n,r,hl,e⟩:=I.lstM hH
 have hlen:its.toArray.size*k.toNat<=sizeLine:=by rw[List.size_toArray,← hl];exact hz
 have hcap:¬its.toArray.size*k.toNat > (2 ^ 63-1) / 8:=by
  have:(sizeLine:Nat)<=(2 ^ 63-1) / 8:=by decide
  omega
 have hfit:¬(!Builtin.List.listFitsIndex k)=true:=by
  rw[fitsIndex_both h1 h2]
  exact Bool.false_ne_true
 have hlong:¬Builtin.List.listTooLong (its.toArray.size*k.toNat)=true:=by
  rw[zh5 hlen]
  exact Bool.false_ne_true
 have hnew:List.foldl (fun x1 x2=>x1++x2) #[] (List.replicate (if its.toArray.isEmpty=true then 0 else k.toNat) its.toArray)=(List.replicate k.toNat its).flatten.toArray:=by
  have f0:∀m:Nat,List.foldl (fun x1 x2=>x1++x2) #[] (List.replicate m its.toArray)=(List.replicate m its).flatten.toArray:=fun m=>by
   have:=zek its m []
   rw[List.nil_append] at this
   exact this
  rw[f0]
  cases its with
  | nil=>simp
  | cons a r'=>rw[if_neg (by simp)]
 refine wpAny_binaryOp_repeat_ref (T:="list") (U:="int") (by decide) ⟨_,e,rfl⟩ (fun s'=>typeIs_int s' k t) noFill_list_mul F.fills_int_mul F.slot_int_rmul repeat_list F.slot_int_index.lookup
  (call_meets F.slot_int_rmul (typeIs_int s k t) F.entry_int_rmul (F.args_int_rmul_2 _ _) (int___rmul___int_list k t l its.toArray n)
    ⟨e,rfl,⟨_,e,rfl⟩,call_meets F.slot_list_mul ⟨_,e,rfl⟩ F.entry_list_mul (F.args_list_mul_2 _ _) (AutoListH.list___mul___list_int_3 l its.toArray n k t hfit hcap hlong) ⟨e,?_⟩⟩)
 rw[hnew]
 exact⟨.ref _,_,I.lnew (t':=s.toks) (r.rep k.toNat) (by rw[zj8,Nat.mul_comm];exact hz),rfl,q _ I.fresh⟩
end L2
namespace Att
open PySem PySem.W PySem.Calls PyProof.Rows
variable{P:Params}{h:Heap}
theorem zc5:∀(ns:List Int) (vs:List Value),WellAll P h vs (ns.map WData.int)->IntsAre vs ns:=by
 intro ns
 induction ns with
 | nil =>
   intro vs w
   rw[List.map_nil] at w
   cases w
   exact .nil
 | cons n ns ih =>
   intro vs w
   rw[List.map_cons] at w
   cases w with
   | cons a b =>
     cases a
     exact .cons _ _ (ih _ b)
variable{l:OpenLaw}{n:Nat}
theorem zgu(hn:l.most=some n){args:List WData}{vals:List Value}(hpre:l.row.toRowW.claim.pre args=true)(hwl:WellAll P h vals args) :
  ∃a vs ns,vals=[Value.ref a]/\args=[WData.list (ns.map WData.int)]/\h.get? a=some { cls:=.type "list",data:=.seq vs.toArray }/\IntsAre vs ns/\ns.length<=n:=by
 have hsh:WShape.hasAll [] args [.list .int]=true:=(pre_splitW hpre).1
 have hc:l.pre.holds [] { args:=args }=true:=(pre_splitW hpre).2
 obtain⟨d,r,rfl,h1,h2⟩:=hasAllW_cons hsh
 obtain rfl:=hasAllW_nil h2
 obtain⟨xs,rfl,h3⟩:=hasW_list h1
 obtain⟨ns,rfl⟩:=items_int h3
 have hlen:ns.length<=n:=by
  unfold OpenLaw.pre at hc
  have h4:(WTm.not (.lt (.lit (.int (n:Int))) (.len (.arg 0)))).holds [] { args:=[.list (ns.map .int)] }=true:=by
   have h4:=(holds_andW hc).1
   rw[hn] at h4
   exact h4
  have h5:=condW_of h4 (w_not (w_lt w_lit (w_len_list (w_arg rfl))))
  rw[List.length_map] at h5
  refine Nat.le_of_not_lt fun q=>?_
  have q':(n:Int)<((ns.length:Nat):Int):=by omega
  first
   | (rw[decide_eq_true q'] at h5;exact absurd h5 (by decide))
   | (simp at h5;omega)
 cases hwl with
 | cons w1 w2 =>
   cases w2
   cases w1 with
   | list ho hall=>exact⟨_,_,ns,rfl,rfl,ho,zc5 ns _ hall,hlen⟩
theorem zgv(l:OpenLaw)(args:List WData):l.row.toRowW.claim.post args (.bool true) args=true :=
 postW_of (r:=l.row.toRowW) (X:=(true==true))
  (show WShape.has [] (.bool true) .bool=true by first | rfl | decide | simp[WShape.has,WShape.arms,WShape.armsAll])
  (show(WTm.eq .res (.lit (.bool true))).value [] { args:=args,res:=some (.bool true),after:=args }=some (.bool (true==true)) from w_eq_bool (w_res rfl) w_lit) rfl
theorem attach_call{q:Program}{loose:List Str}{XP:(Str->Option Value)->Heap->Prop}{YP:World->Heap->Prop}{d:DefRec}(hn:l.most=some n)(hdf:d.params.defaults=[])(call:∀(w:World) (s₀ s₁:Shared) (mg mb:Str->Option Value) (fa:Addr) (o:Obj) (pm cd doc:Value) (a:Addr) (vs:List Value) (ns:List Int),
   Ground q loose [] XP w s₀ mg mb s₁.heap->YP w s₁.heap ->
   s₁.heap.get? fa=some o->o.data=.func (docDef d.name d.params d.body d.scope pm cd doc)->s₁.heap.CodeRec cd d.name->mg d.name=some (.ref fa) ->
   s₁.heap.get? a=some { cls:=.type "list",data:=.seq vs.toArray }->IntsAre vs ns->ns.length<=n->s₁.gens=#[] ->
   codeAny (model l.prog w) callerA (.call (.ref fa) ⟨[.ref a],[]⟩) (fun r s'=>r=.ok (.ret (.bool true))/\OldK s₁.heap s'.heap/\s'.os=s₁.os/\AllBare s'.gens) s₁) :
  WalkO q loose XP YP l.row.toRowW d [] (fun f vs=>PySem.call f vs):=by
 intro w s₀ s₁ mg mb G Y fa o pm cd doc dV kV ho hd hcd hD hmg hg args vals as hpre hlay hrd hwl hlo
 obtain rfl:dV=.none:=Dflts.none hD hdf
 obtain rfl:kV=.none:=Dflts.noKw hD
 obtain⟨a,vs,ns,rfl,rfl,hobj,hints,hlen⟩:=zgu hn hpre hwl
 refine enter_call (codeAny_mono (call w s₀ s₁ mg mb fa o pm cd doc a vs ns G Y ho (fd_plain hd) hcd hmg hobj hints hlen hg) fun r s' hq=>?_)
 obtain⟨rfl,h2,h3,h4⟩:=hq
 exact⟨.inl ⟨.bool true,.bool true,[],rfl,fun _=>rfl,.bool true,zgv l _,fun _=>⟨List.Pairwise.nil,fun _ hm=>(nomatch hm)⟩⟩,h2,h3,h4⟩
end Att
namespace L2
open PySem PySem.Spec PyProof.Rows
theorem zel:∀ {vs:List Value} {ns:List Int},IntsAre vs ns->Vals (ns.map V.int) vs
 | _,_,.nil=>.nil
 | _,_,.cons n t h=>.cons ⟨t,rfl⟩ (zel h)
def Only(H:Hp):Prop:=∀b,H b=none\/∃o xs,H b=some (.frz o (.lst xs))
variable{P:Program}{w:World}{K:PySem.W.Frag}{mg:Str->Option Value}{k:Nat}{a:Addr}{fd:FuncData}{x:Str}{sp:Sp}{vs:List Value}
theorem zh6{mb:Str->Option Value}{CX:CXT}{fa:Addr}{s₁:Shared}{ns:List Int}(KX:K.In s₁.heap)(hns:s₁.heap.Ns mainGlobals mg)(hb:s₁.heap.Ns builtinsNs mb)(hbb:∀x:Str,x ≠ "__name__"->mb x=bootBuiltins x)(hlim:s₁.heap.NoLimit)(hg:s₁.gens=#[])(ha:s₁.heap.get? a=some { cls:=.type "list",data:=.seq vs.toArray })(hi:IntsAre vs ns)(hl:ns.length<=sizeLine)(hr:Room k callerA)(F:∀base:Heap,K.In base->base.Ns mainGlobals mg->FnOk P w K mg base CX k fa fd [x] sp)(hbind:∀(s:Shared) (u:Value),BindsTo s fd ⟨[u],[]⟩ [(x,u)])(hsp:∀H:Hp,Only H->SqL K H a (ns.map V.int)->sp [.ref a] H (fun v _=>v=.bl true) fun _ _ _=>False)(hCX:∀H e s',CX [] H s₁ (fun _ _ _=>False) e s'->False) :
  codeAny (model P w) callerA (.call (.ref fa) ⟨[.ref a],[]⟩) (fun r s'=>r=.ok (.ret (.bool true))/\OldK s₁.heap s'.heap/\s'.os=s₁.os/\AllBare s'.gens) s₁:=by
 have rv:=zel hi
 have lenV:=hi.length
 have core:∀H:Hp,Only H->SqL K H a (ns.map V.int)->HOk P w H s₁.heap->(∀b,H b≠none->b=a)->(H a≠none->K.lookup a=none) ->
   codeAny (model P w) callerA (.call (.ref fa) ⟨[.ref a],[]⟩) (fun r s'=>r=.ok (.ret (.bool true))/\OldK s₁.heap s'.heap/\s'.os=s₁.os/\AllBare s'.gens) s₁:=by
  intro H hO hS hok hA hK
  have base_of:∀ {b:Addr} {o:Obj},s₁.heap.get? b=some o->H b=none->(hidT s₁.heap H).get? b=some o:=fun e n=>zhy e n
  have noA:∀ {b:Addr} {o:Obj} {es:Array DictEntry} {ep:Nat},s₁.heap.get? b=some o->o.data=.dict es ep->H b=none:=fun {b o es ep} e d=>by
   cases q:H b with
   | none=>rfl
   | some u =>
     have e':b=a:=hA b (by rw[q];simp)
     subst e'
     rw[ha] at e;cases e
     have d':Data.seq vs.toArray _=Data.dict es ep:=d
     cases d'
  have nsK:∀ {b:Addr} {m:Str->Option Value},s₁.heap.Ns b m->(hidT s₁.heap H).Ns b m:=fun {b m} ⟨o,es,ep,e,d,r⟩=>⟨o,es,ep,base_of e (noA e d),d,r⟩
  have hKb:K.In (hidT s₁.heap H):=fun b o e=>base_of (KX b o e) (by
   cases q:H b with
   | none=>rfl
   | some u =>
     have e':b=a:=hA b (by rw[q];simp)
     subst e'
     rw[hK (by rw[q];simp)] at e;cases e)
  have hM:Mod K mg (hidT s₁.heap H):=⟨hKb,nsK hns,⟨mb,nsK hb,hbb⟩,let ⟨mc,h1,h2⟩:=hlim;⟨mc,nsK h1,h2⟩⟩
  have e0:Env0 P w K mg (hidT s₁.heap H) callerA [] s₁ H:=⟨rfl,hM,fun b o e=>zjl e,Nat.le_of_eq (zgg _ _),trivial,fun b hb=>absurd (show b∈([]:List Addr) from hb) (by simp),hok,.of_eq hg⟩
  refine codeAny_mono ((F _ hKb (nsK hns)).run callerA [] s₁ H ⟨[.ref a],[]⟩ [.ref a] [.ref a] _ _ hr e0 (hbind s₁ (.ref a)) (.cons rfl .nil) (hsp H hO hS)) fun r s' h=>?_
  cases r with
  | error e=>exact(hCX H e s' h).elim
  | ok fl =>
    cases fl with
    | next=>exact False.elim h
    | brk=>exact False.elim h
    | cont=>exact False.elim h
    | ret u =>
      obtain⟨v,H',os,bare,un,hok',r',q⟩:=h
      have q':v=.bl true:=q
      subst q'
      obtain rfl:u=Value.bool true:=r'
      refine⟨rfl,OldK.of_keep fun b o e=>?_,os,bare⟩
      cases q:H b with
      | none=>exact un.keep b o e q (by intro z;exact absurd (show b∈([]:List Addr) from z) (by simp)) (by simp)
      | some u =>
        rcases hO b with z | ⟨ob,xs,z⟩
        ·rw[q] at z;cases z
        ·have z2:=un.frzs b ob _ z
         obtain⟨e1,_⟩:=hok b _ z
         obtain⟨e2,_⟩:=hok' b _ z2
         rw[e] at e1;cases e1
         exact e2
 cases hk:K.lookup a with
 | some o =>
   have e:=KX a o hk
   rw[ha] at e
   cases e
   refine core (fun _=>none) (fun _=>.inl rfl) (.inr ⟨_,vs.toArray,_,hk,rfl,rfl,rfl,by rw[List.size_toArray,lenV];exact hl,by simpa using rv⟩) (fun b u z=>by have z':(none:Option HO)=some u:=z;cases z') (fun b z=>absurd rfl z) fun z=>absurd rfl z
 | none =>
   refine core (fun b=>if b=a then some (.frz { cls:=.type "list",data:=.seq vs.toArray } (.lst (ns.map V.int))) else none) (fun b=>?_) (.inl (.inr ⟨{ cls:=.type "list",data:=.seq vs.toArray },if_pos rfl⟩)) (fun b u z=>?_) (fun b z=>?_) fun _=>hk
   ·by_cases hb:b=a
    ·exact .inr ⟨_,_,if_pos hb⟩
    ·exact .inl (if_neg hb)
   ·by_cases hb:b=a
    ·have z':=(if_pos hb).symm.trans z
     cases z'
     subst hb
     exact⟨ha,by rw[List.length_map];exact hl,vs,_,rv,ha⟩
    ·have z':=(if_neg hb).symm.trans z
     cases z'
   ·by_cases hb:b=a
    ·exact hb
    ·exact absurd (if_neg hb) z
variable{l:Addr}{d:D}
theorem zj9{l:PySem.W.OpenLaw}{n:Nat}{q:Program}{loose:List Str}{XP:(Str->Option Value)->Heap->Prop}{YP:World->Heap->Prop}{d:DefRec}{K:Params->PySem.W.Frag}{CX:World->CXT}{sp:World->Sp}(hn:l.most=some n)(hn2:n<=sizeLine)(hdf:d.params.defaults=[])(hr:Room k callerA)(hY:∀(w:World) (h:Heap),YP w h->(K w.params).In h)(F:∀(w:World) (mg:Str->Option Value) (fa:Addr) (h:Heap),(K w.params).In h->h.Ns mainGlobals mg->mg d.name=some (.ref fa) ->
   ∃fd:FuncData,(∀(s:Shared) (u:Value),BindsTo s fd ⟨[u],[]⟩ [(x,u)]) /\
    ∀base:Heap,(K w.params).In base->base.Ns mainGlobals mg->FnOk l.prog w (K w.params) mg base (CX w) k fa fd [x] (sp w))(hsp:∀(w:World) (H:Hp) (a:Addr) (ns:List Int),ns.length<=n->Only H->SqL (K w.params) H a (ns.map V.int)->sp w [.ref a] H (fun v _=>v=.bl true) fun _ _ _=>False)(hCX:∀(w:World) (H:Hp) (s:Shared) (e:Value) (s':Shared),CX w [] H s (fun _ _ _=>False) e s'->False) :
  PySem.W.WalkO q loose XP YP l.row.toRowW d [] (fun f vs=>PySem.call f vs):=by
 refine Att.attach_call hn hdf fun w s₀ s₁ mg mb fa o pm cd doc a vs ns G Y ho hd hcd hmg hobj hints hlen hg=>?_
 have KX:=hY w _ Y
 obtain⟨fd,hb,hF⟩:=F w mg fa _ KX G.T.g hmg
 exact zh6 KX G.T.g G.T.b G.T.builtins G.T.nolimit hg hobj hints (Nat.le_trans hlen hn2) hr hF hb (fun H hO hS=>hsp w H a ns hlen hO hS) fun H e s'=>hCX w H s₁ e s'
def zch(s:Stmt):Arguments:=match s with
 | .FunctionDef _ a _ _ _ _ _ _ _ _=>a
 | _=>{ posonlyargs:=[],args:=[],vararg:=none,kwonlyargs:=[],kw_defaults:=[],kwarg:=none,defaults:=[] }
def zat(s:Stmt):List Stmt:=match s with
 | .FunctionDef _ _ b _ _ _ _ _ _ _=>b
 | _=>[]
def zac(s:Stmt):Scope:=match s with
 | .FunctionDef _ _ _ _ _ _ sc _ _ _=>sc
 | _=>{ kind:=.function,names:=[],isGenerator:=false,isCoroutine:=false }
abbrev CX0:CXT:=fun _ _ _ _ _ _=>False
abbrev E0:XK:=fun _ _ _=>False
variable{X:Cx}
theorem zn9:zgs CX0 X E0:=fun _ _ _ _ _ _ _ h=>h.elim
structure Fun (K:PySem.W.Frag) (x qual:Str) (st:Stmt) (f:Addr) (fd:FuncData):Prop where
 ex:∃(oc:Value) (od:Option Addr) (kV doc pm:Value) (an:Option Addr) (cdv ct:Value) (osl:Array (Option Value)),
  fd=PySem.W.fnOf x qual (zch st) (zat st) (zac st) .none kV doc pm an cdv ct/\K.lookup f=some ⟨oc,od,.func fd,osl⟩/\PySem.W.codeIn K cdv qual=true
 kp:PySem.W.keepIn K (.ref f)=true
variable{qual:Str}{st:Stmt}{f:Addr}{N:List Str}{ps:List Pt}{base:Heap}
theorem Fun.ok{ps:List Str}(F:Fun K x qual st f fd)(S:zb0 N ps (zac st))(len:∀vs H Q E,sp vs H Q E->vs.length=ps.length)(hbody:∀(cdv:Value) (A:Around) (outer:List Env) (s:Shared) (H:Hp) (vs:List V) (Q:VK) (E:XK),Room k (A.deeper (envOfC qual (zac st) s.heap.objs.size f cdv))->sp vs H Q E ->
   ∃t,PSs (cxOf CX0 P w K mg base N qual (zac st) f cdv A outer s H E).nox (zat st) t/\t { nx:=fun _ H'=>Q .non H',rt:=Q } (zbv N vs) H):FnOk P w K mg base CX0 (k+1) f fd ps sp:=by
 obtain⟨oc,od,kV,doc,pm,an,cdv,ct,osl,rfl,lk,hcd⟩:=F.ex
 refine zmb lk hcd S len fun A outer s H vs Q E hr hsp=>?_
 obtain⟨t,h,q⟩:=hbody cdv A outer s H vs Q E hr hsp
 exact⟨t,h.nox,q⟩
theorem zi8{oc:Value}{od an:Option Addr}{osl:Array (Option Value)}{kV doc pm cdv ct:Value}(l:K.lookup f=some ⟨oc,od,.func (PySem.W.fnOf x qual (zch st) (zat st) (zac st) .none kV doc pm an cdv ct),osl⟩)(c:PySem.W.codeIn K cdv qual=true)(k:PySem.W.keepIn K (.ref f)=true):Fun K x qual st f (PySem.W.fnOf x qual (zch st) (zat st) (zac st) .none kV doc pm an cdv ct):=⟨⟨oc,od,kV,doc,pm,an,cdv,ct,osl,rfl,l,c⟩,k⟩
def Same(H H':Hp):Prop:=∀b o,H b=some o->H' b=some o
theorem Same.refl(H:Hp):Same H H:=fun _ _ h=>h
variable{H H1 H2:Hp}
theorem Same.trans(a:Same H H1)(b:Same H1 H2):Same H H2:=fun c o h=>b c o (a c o h)
variable{H':Hp}
theorem Same.free(e:Same H H')(h:H' l=Option.none):H l=Option.none:=by
 cases q:H l with
 | none=>rfl
 | some o =>
   rw[e l o q] at h
   cases h
theorem Same.seq{xs:List V}(e:Same H H')(h:SqL K H a xs):SqL K H' a xs:=by
 rcases h with(h | ⟨o,h⟩) | h
 ·exact .inl (.inl (e _ _ h))
 ·exact .inl (.inr ⟨o,e _ _ h⟩)
 ·exact .inr h
theorem zci{env:Env}:∀(names:List (Str×NameKind)) (acc:List (Str×Addr)),
  (∀y∈names,y.2=.free->∃c,env.cells.lookup y.1=some c)->(∀y c,acc.lookup y=some c->env.cells.lookup y=some c) ->
  ∃cl,(forIn names acc fun(x:Str×NameKind) (cs:List (Str×Addr))=>if (x.2==NameKind.free)=true then(do let c ← cellOf env x.1;pure (ForInStep.yield ((x.1,c)::cs)):Sem _) else pure (ForInStep.yield cs))=pure cl /\
   (∀y c,cl.lookup y=some c->env.cells.lookup y=some c)/\(∀y c,acc.lookup y=some c->∃c',cl.lookup y=some c')/\∀y∈names,y.2=.free->∃c,cl.lookup y.1=some c
 | [],acc,_,ha=>⟨acc,rfl,ha,fun y c e=>⟨c,e⟩,fun _ h=>nomatch h⟩
 | (n,k)::r,acc,hn,ha=>by
   by_cases hk:k=.free
   ·subst hk
    obtain⟨c,hc⟩:=hn (n,.free) List.mem_cons_self rfl
    have hc:env.cells.lookup n=some c:=hc
    obtain⟨cl,e,h1,h2,h3⟩:=zci r ((n,c)::acc) (fun y hy=>hn y (List.mem_cons_of_mem _ hy)) (fun y c' e=>by
     rw[List.lookup_cons] at e
     cases hq:y==n with
     | true=>rw[hq] at e;cases e;rw[eq_of_beq hq];exact hc
     | false=>rw[hq] at e;exact ha y c' e)
    have hself:List.lookup n ((n,c)::acc)=some c:=by simp[List.lookup_cons]
    refine⟨cl,?_,h1,fun y c' e'=>?_,fun y hy hf=>?_⟩
    ·rw[List.forIn_cons]
     have e1:cellOf env n=pure c:=by unfold cellOf;rw[hc]
     simp only[beq_self_eq_true,if_true,e1,pure_bind]
     exact e
    ·cases hq:y==n with
     | true=>rw[eq_of_beq hq];exact h2 n c hself
     | false=>exact h2 y c' (by rw[List.lookup_cons,hq];exact e')
    ·rcases List.mem_cons.mp hy with rfl | hy
     ·exact h2 n c hself
     ·exact h3 y hy hf
   ·obtain⟨cl,e,h1,h2,h3⟩:=zci r acc (fun y hy=>hn y (List.mem_cons_of_mem _ hy)) ha
    refine⟨cl,?_,h1,h2,fun y hy hf=>?_⟩
    ·rw[List.forIn_cons]
     have hb:(k==NameKind.free)=false:=by cases k <;> first | rfl | exact absurd rfl hk
     simp only[hb,Bool.false_eq_true,if_false,pure_bind]
     exact e
    ·rcases List.mem_cons.mp hy with rfl | hy
     ·exact absurd hf hk
     ·exact h3 y hy hf
variable{sc:Scope}{env:DE0}
theorem zdk{env:Env}(h:∀y∈sc.names,y.2=.free->∃c,env.cells.lookup y.1=some c) :
  ∃cl,closureFor sc env=pure cl/\(∀y c,cl.lookup y=some c->env.cells.lookup y=some c)/\∀y∈sc.names,y.2=.free->∃c,cl.lookup y.1=some c:=by
 obtain⟨cl,e,h1,_,h3⟩:=zci (env:=env) sc.names [] h (fun y c e=>by simp at e)
 refine⟨cl,?_,h1,h3⟩
 unfold closureFor
 rw[show(pure cl:Sem _)=(pure cl >>= fun cs=>pure cs) by rw[pure_bind],← e]
theorem za0{env:Env}:∀ {names:List (Str×NameKind)} {x:Str} {k:NameKind},
  (names.map fun(n,k)=>if (k==NameKind.free && env.scope.kind==.function && env.kindOf n==some .cell) then(n,NameKind.cell) else(n,k)).lookup x=some k ->
  names.lookup x=some k\/(names.lookup x=some .free/\k=.cell)
 | [],_,_,h=>by simp at h
 | (n,k0)::r,x,k,h=>by
   have ih:=@za0 env r x k
   have h:List.lookup x ((if (k0==NameKind.free && env.scope.kind==.function && env.kindOf n==some .cell)=true then(n,NameKind.cell) else(n,k0))::_)=_:=h
   cases hx:x==n with
   | true =>
     by_cases hc:(k0==NameKind.free && env.scope.kind==.function && env.kindOf n==some .cell)=true
     ·rw[if_pos hc] at h
      simp only[List.lookup_cons,hx] at h ⊢
      simp only[Bool.and_eq_true,beq_iff_eq] at hc
      cases h
      exact .inr ⟨by rw[hc.1.1],rfl⟩
     ·rw[if_neg hc] at h
      simp only[List.lookup_cons,hx] at h ⊢
      exact .inl h
   | false =>
     by_cases hc:(k0==NameKind.free && env.scope.kind==.function && env.kindOf n==some .cell)=true
     ·rw[if_pos hc] at h
      simp only[List.lookup_cons,hx] at h ⊢
      exact ih h
     ·rw[if_neg hc] at h
      simp only[List.lookup_cons,hx] at h ⊢
      exact ih h
theorem zaq{env:Env}:∀ {names:List (Str×NameKind)} {x:Str},names.lookup x=some .free ->
  (names.map fun(n,k)=>if (k==NameKind.free && env.scope.kind==.function && env.kindOf n==some .cell) then(n,NameKind.cell) else(n,k)).lookup x=some .cell \/
  (names.map fun(n,k)=>if (k==NameKind.free && env.scope.kind==.function && env.kindOf n==some .cell) then(n,NameKind.cell) else(n,k)).lookup x=some .free
 | [],_,h=>by simp at h
 | (n,k0)::r,x,h=>by
   have ih:=@zaq env r x
   show List.lookup x ((if (k0==NameKind.free && env.scope.kind==.function && env.kindOf n==some .cell)=true then(n,NameKind.cell) else(n,k0))::_)=_\/List.lookup x ((if (k0==NameKind.free && env.scope.kind==.function && env.kindOf n==some .cell)=true then(n,NameKind.cell) else(n,k0))::_)=_
   cases hx:x==n with
   | true =>
     simp only[List.lookup_cons,hx] at h
     cases h
     by_cases hc:(NameKind.free==NameKind.free && env.scope.kind==.function && env.kindOf n==some .cell)=true
     ·rw[if_pos hc];simp only[List.lookup_cons,hx];exact .inl trivial
     ·rw[if_neg hc];simp only[List.lookup_cons,hx];exact .inr trivial
   | false =>
     simp only[List.lookup_cons,hx] at h
     by_cases hc:(k0==NameKind.free && env.scope.kind==.function && env.kindOf n==some .cell)=true
     ·rw[if_pos hc];simp only[List.lookup_cons,hx];exact ih h
     ·rw[if_neg hc];simp only[List.lookup_cons,hx];exact ih h
def zak(X:Cx)(x:Str)(N':List Str)(sc:Scope)(cl:List (Str×Addr))(C:Addr)(s₂:Shared)(H₂:Hp)(fp:List Addr):Cx :=
 { X with N:=x::N',s₀:=s₂,H₀:=H₂,env:=compEnvC sc cl C X.env,outer:=X.stack,stack:=X.stack,ex:=fp,fn:=fun _=>false,pn:=[],xe:=fun _ _=>False }
def PIfs(X:Cx)(ifs:List Expr)(tt:TT):Prop :=
 ∀(pins:List (Addr×Obj)) (s:Shared) (σ:St) (H:Hp) (Q:Bool->Hp->Prop),Inv X pins σ H s->tt σ H Q ->
  wpAny (model X.prog X.w) X.A (forIn ifs true fun c r=>if r=true then do let ok ← isTrue c X.env (eval c X.env);pure (ForInStep.yield ok) else pure (ForInStep.yield r)) (TP X pins σ Q) X.xe s
theorem zh7{c:Expr}{tc:TT}(h:PT X c tc):PIfs X [c] tc:=fun pins s σ H Q I q=>wpAny_tests_one (h pins s σ H Q I q)
def zh8(wi:TI)(ix:List Nat)(tt:TT)(te:TE):TE:=fun σ H Q=>wi σ H fun J H1=>∃W:Nat->Nat->Hp->List V->Prop,(∃m,W 0 m H1 [])/\∀i m H ys,W i m H ys ->
 (J.stop i H/\ys.length<=sizeLine/\∀D,H D=none->Q (.ref D) (upd H D (.lst ys))) \/
 (J.go i H/\∀x H',J.yld i H x H'->tt (some x::ix.map (fun j=>σ.getD j none)) H' fun b H2 =>
   if b=true then te (some x::ix.map (fun j=>σ.getD j none)) H2 fun v H3=>ys.length<sizeLine/\∃m',m'<m/\W (i+1) m' H3 (ys++[v]) else ∃m',m'<m/\W (i+1) m' H2 ys)
abbrev lobj(ys:List Value):Obj:={ cls:=.type "list",data:=.seq ys.toArray ys.length }
variable{pins:List (Addr×Obj)}{σ:St}{s2:Shared}{fp:List Addr}{cl:List (Str×Addr)}{h₁:Heap}{m₁:Str->Option Value}{ix:List Nat}{N':List Str}
theorem zgw{tk:Nat}(hN:N'=ix.map fun i=>X.N.getD i ("" : Str))(hk:sc.kind=.function)(hcell:∀y∈sc.names,y.2≠.cell)(hfree:∀y∈sc.names,y.2=.free->X.env.kindOf y.1=some .cell\/X.env.kindOf y.1=some .free)(hfv:∀y∈N',sc.names.lookup y=some .free)(h1:∀y c,cl.lookup y=some c->X.env.cells.lookup y=some c)(h3:∀y∈sc.names,y.2=.free->∃c,cl.lookup y.1=some c)(I:Inv X pins σ H2 s2)(hf:∀b∈fp,FpOk X pins H2 b)(hfo:∀b∈fp,∃o,s2.heap.get? b=some o)(old:∀b o,s2.heap.get? b=some o->h₁.get? b=some o)(hns:h₁.Ns (s2.heap.objs.size+1) m₁)(hD:h₁.get? s2.heap.objs.size=some (lobj [])) :
  Inv (zak X x N' sc cl (s2.heap.objs.size+1) s2 H2 fp) [(s2.heap.objs.size,lobj [])] (none::ix.map (fun j=>σ.getD j none)) H2 { s2 with heap:=h₁,toks:=tk }:=by
 have lts:∀b∈fp,b<s2.heap.objs.size:=fun b hb=>by obtain⟨o,e⟩:=hfo b hb;exact Heap.lt_size e
 have nstk:∀b,s2.heap.objs.size<=b->b∉frs X.stack:=fun b hb z=>by
  rcases List.mem_cons.mp (I.stkSub b z) with e | z
  ·exact absurd (Nat.lt_of_lt_of_le I.lt (e ▸ hb)) (Nat.lt_irrefl _)
  ·exact I.nofs hb z
 refine⟨⟨I.ok.mod,hk,I.ok.glob,I.ok.blt,Nat.le_succ _,fun y z c e1 e2=>I.ok.inj y z c (h1 _ _ e1) (h1 _ _ e2),fun y hy=>?_,fun y c z _=>(by cases z),I.ok.hd,I.ok.frames,.inl rfl,fun b hb=>⟨?_,fun y c e=>?_⟩,I.bs,Nat.le_trans I.ok.bsz I.sz,fun b o e hb=>?_,fun b hb z=>?_,I.stack,I.stkFree⟩,
  rfl,I.bare,Un.kept old,⟨m₁,hns,fun i y v e1 e2 e3=>?_⟩,fun y c e=>?_,I.hok.fresh (Nat.le_succ _),fun y c e=>I.freeC y c (h1 y c e),fun p hp=>?_,I.hok.kept old,?_⟩
 ·have hy':(relabel sc X.env).names.lookup y=some .cell\/(relabel sc X.env).names.lookup y=some .free:=hy
  have hq:sc.names.lookup y=some .free:=by
   rcases hy' with q | q
   ·rcases za0 q with q | ⟨q,_⟩
    ·exact absurd rfl (hcell _ (PySem.mem_of_lookup q))
    ·exact q
   ·rcases za0 q with q | ⟨_,q⟩
    ·exact q
    ·cases q
  exact h3 (y,.free) (PySem.mem_of_lookup hq) rfl
 ·exact Nat.ne_of_lt (Nat.lt_succ_of_lt (lts b hb))
 ·exact(hf b hb).2.2.2.2.1 y c (h1 y c e)
 ·rcases(hf b hb).2.2.2.1 with z | z
  ·exact I.ok.noex b o e z
  ·exact absurd (Nat.lt_of_lt_of_le (Heap.lt_size e) (Nat.le_trans I.ok.bsz z)) (Nat.lt_irrefl _)
 ·have z:b∈frs X.stack:=z
  rcases List.mem_cons.mp (I.stkSub b z) with e | z
  ·exact(hf b hb).2.1 e
  ·exact(hf b hb).2.2.1 z
 ·cases i with
  | zero=>simp at e2
  | succ j =>
    have e1:N'[j]?=some y:=by simpa[zak] using e1
    have e2:(ix.map (fun j=>σ.getD j none))[j]?=some (some v):=by simpa using e2
    rw[hN,List.getElem?_map] at e1
    rw[List.getElem?_map] at e2
    cases q:ix[j]? with
    | none=>rw[q] at e1;cases e1
    | some k =>
      rw[q] at e1 e2
      have e1:X.N.getD k "" = y:=Option.some.inj e1
      have e2:σ.getD k none=some v:=Option.some.inj e2
      have e2':σ[k]?=some (some v):=by
       rw[List.getD_eq_getElem?_getD] at e2
       cases q2:σ[k]? with
       | none=>rw[q2] at e2;cases e2
       | some z=>rw[q2] at e2;rw[show z=some v from e2]
      have hlt:k<X.N.length:=by rw[← I.len];exact(List.getElem?_eq_some_iff.mp e2').1
      have e1':X.N[k]?=some y:=by
       rw[List.getD_eq_getElem?_getD,List.getElem?_eq_getElem hlt] at e1
       rw[List.getElem?_eq_getElem hlt];exact congrArg some e1
      have hyN:y∈N':=by
       rw[hN,← e1]
       exact List.mem_map.mpr ⟨k,List.mem_of_getElem? q,rfl⟩
      have hyf:=hfv y hyN
      have hkd:=hfree (y,.free) (PySem.mem_of_lookup hyf) rfl
      have hvis:Vis X.env.scope y:=by
       rcases hkd with z | z
       ·exact .inr (.inl z)
       ·exact .inr (.inr z)
      obtain⟨m,hn,hl⟩:=I.loc
      obtain⟨u,ru,lk⟩:=hl k y v e1' e2' hvis
      refine⟨u,ru,.inr ⟨?_,?_⟩⟩
      ·exact zaq hyf
      ·rcases lk with⟨z,_⟩ | ⟨_,c,hc,hcv⟩
       ·rcases hkd with w | w <;> rw[show X.env.kindOf y=_ from w] at z <;> cases z
       ·obtain⟨c',hc'⟩:=h3 (y,.free) (PySem.mem_of_lookup hyf) rfl
        have:=h1 y c' hc'
        rw[hc] at this;cases this
        exact⟨c,hc',hcv.keeps old⟩
 ·obtain⟨v,q⟩:=I.cell y c (h1 y c e)
  exact⟨v,q.keeps old⟩
 ·have hp:p∈[(s2.heap.objs.size,lobj [])]:=hp
  rw[List.mem_singleton.mp hp]
  exact⟨hD,I.hok.fresh (Nat.le_refl _),Nat.ne_of_lt (Nat.lt_succ_self _),nstk _ (Nat.le_refl _),fun v z=>by cases z⟩
 ·simp[zak,hN]
variable{ys:List V}{y:Str}
theorem Vals.snoc{y:V}{u:Value}(h:Vals ys vs)(r:RelV y u):Vals (ys++[y]) (vs++[u]):=Vals.append h (.cons r .nil)
theorem zgx(vs:List Value)(u:Value):({ cls:=.type "list",data:=.seq (vs.toArray.push u) (vs.length+1) }:Obj)=lobj (vs++[u]):=LCg.lst_snoc vs u
theorem zfm{σ':St}{s4:Shared}{h':Heap}(I:Inv X pins σ H2 s2)(hf:∀b∈fp,FpOk X pins H2 b)(hfo:∀b∈fp,∃o,s2.heap.get? b=some o)(J:Inv (zak X x N' sc cl (s2.heap.objs.size+1) s2 H2 fp) [(s2.heap.objs.size,lobj vs)] σ' H' s4)(hv:Vals ys vs)(hl:ys.length<=sizeLine)(sb:Heap.SameBut (s2.heap.objs.size+1) s4.heap h') :
  Inv X pins σ (upd H' s2.heap.objs.size (.lst ys)) { s4 with heap:=h' }:=by
 have pD:=J.pin (s2.heap.objs.size,lobj vs) (List.mem_append_right _ List.mem_cons_self)
 have hDn:H' s2.heap.objs.size=none:=pD.2.1
 have hCn:H' (s2.heap.objs.size+1)=none:=J.free
 have u0:Un (frs X.stack) fp H2 H' s2.heap s4.heap:=J.base
 have ne:∀b o,s2.heap.get? b=some o->b≠s2.heap.objs.size/\b≠s2.heap.objs.size+1:=fun b o e=>by
  have:=Heap.lt_size e
  exact⟨Nat.ne_of_lt this,Nat.ne_of_lt (Nat.lt_succ_of_lt this)⟩
 have f2:∀b,s2.heap.objs.size<=b->H2 b=none:=fun b hb=>I.hok.fresh hb
 have ou:∀b o,H2 b=some o->b≠s2.heap.objs.size:=fun b o e z=>by rw[z,f2 _ (Nat.le_refl _)] at e;cases e
 have u1:Un (frs X.stack) fp H2 (upd H' s2.heap.objs.size (.lst ys)) s2.heap h':=by
  refine⟨fun b o e n hb hx=>(sb.2 b (ne b o e).2).trans (u0.keep b o e n hb hx),fun b o e n hb hx=>?_,fun b o e n hx=>?_,fun b o e hx=>?_,fun b xs e=>?_,fun b o u e=>?_,fun b ps e=>?_⟩
  ·obtain⟨sl,q⟩:=u0.slot b o e n hb hx
   exact⟨sl,(sb.2 b (ne b o e).2).trans q⟩
  ·rw[zal (ne b o e).1];exact u0.free b o e n hx
  ·obtain⟨o',q⟩:=u0.there b o e hx
   exact⟨o',(sb.2 b (ne b o e).2).trans q⟩
  ·rw[zal (ou b _ e)];exact u0.tups b xs e
  ·rw[zal (ou b _ e)];exact u0.frzs b o u e
  ·rw[zal (ou b _ e)];exact u0.tbls b ps e
 have kk:∀b u,b≠s2.heap.objs.size+1->s4.heap.get? b=some u->h'.get? b=some u:=fun b u hb q=>(sb.2 b hb).trans q
 have hok:HOk X.prog X.w (upd H' s2.heap.objs.size (.lst ys)) h':=fun b u e=>by
  by_cases hb:b=s2.heap.objs.size
  ·subst hb
   rw[zbc] at e;cases e
   exact⟨hl,vs,vs.length,hv,kk _ _ (Nat.ne_of_lt (Nat.lt_succ_self _)) pD.1⟩
  ·rw[zal hb] at e
   have nC:b≠s2.heap.objs.size+1:=fun z=>by rw[z,hCn] at e;cases e
   refine(J.hok b u e).stay (fun c v hc q=>kk c v ?_ q) (fun c q=>?_) fun c xs q=>?_
   ·rcases hc with rfl | hc
    ·exact nC
    ·intro z;rw[z,hCn] at hc;cases hc
   ·rw[zal (fun z=>by rw[z,hDn] at q;cases q)];exact q
   ·rw[zal (fun z=>by rw[z,hDn] at q;cases q)];exact q
 refine I.call' (s':={ s4 with heap:=h' }) (ch:=fp) J.os u1 hok J.bare fun b hb=>?_
 obtain⟨_,q1,_,q3,q4,q5⟩:=hf b hb
 exact⟨q3,q1,q4,q5⟩
variable{Q:Unit->Shared->Prop}{W:Addr->Prop}{Cm:Cx->Prop}{px pos:Pos}{iter elt:Expr}{ifs:List Expr}{tt:TT}{te:TE}
theorem zem{it:Addr}{tn:Nat->Heap->Prop}{J:It}{Q:VK}{R:Result->Shared->Prop}{m0:Nat}{W:Nat->Nat->Hp->List V->Prop}(hc:∀cl C s₂ H₂ fp pins σ,Inv X pins σ H₂ s₂->(∀b∈fp,FpOk X pins H₂ b)->Cm (zak X x N' sc cl C s₂ H₂ fp))(hif:∀cl C s₂ H₂ fp,Cm (zak X x N' sc cl C s₂ H₂ fp)->PIfs (zak X x N' sc cl C s₂ H₂ fp) ifs tt)(hel:∀cl C s₂ H₂ fp,Cm (zak X x N' sc cl C s₂ H₂ fp)->PE (zak X x N' sc cl C s₂ H₂ fp) elt te)(hN:N'=ix.map fun i=>X.N.getD i ("" : Str))(hnd:(x::N').Nodup)(hk:sc.kind=.function)(hx:sc.names.lookup x=some .local)(hcell:∀y∈sc.names,y.2≠.cell)(hnames:∀y∈sc.names,y.2=.local->sc.names.lookup y.1=some .local)(hfree:∀y∈sc.names,y.2=.free->X.env.kindOf y.1=some .cell\/X.env.kindOf y.1=some .free)(hfv:∀y∈N',sc.names.lookup y=some .free)(h1:∀y c,cl.lookup y=some c->X.env.cells.lookup y=some c)(h3:∀y∈sc.names,y.2=.free->∃c,cl.lookup y.1=some c)(I2:Inv X pins σ H2 s2)(T:ze4 Cm X.prog X.w X.K (.Name x px) J fp it tn)(st2:tn 0 s2.heap)(f2:∀b∈fp,FpOk X pins H2 b)(w0:W 0 m0 H2 [])(turn:∀i m H ys,W i m H ys ->
   (J.stop i H/\ys.length<=sizeLine/\∀D,H D=none->Q (.ref D) (upd H D (.lst ys))) \/
   (J.go i H/\∀x H',J.yld i H x H'->tt (some x::ix.map (fun j=>σ.getD j none)) H' fun b H2 =>
     if b=true then te (some x::ix.map (fun j=>σ.getD j none)) H2 fun v H3=>ys.length<sizeLine/\∃m',m'<m/\W (i+1) m' H3 (ys++[v]) else ∃m',m'<m/\W (i+1) m' H2 ys))(old:∀b o,s2.heap.get? b=some o->h₁.get? b=some o)(hns₁:h₁.Ns (s2.heap.objs.size+1) m₁)(hacc:h₁.get? s2.heap.objs.size=some (lobj []))(hR:∀s5 H4 ys vs σ',Inv (zak X x N' sc cl (s2.heap.objs.size+1) s2 H2 fp) [(s2.heap.objs.size,lobj vs)] σ' H4 s5->Vals ys vs->ys.length<=sizeLine->(∀D,H4 D=none->Q (.ref D) (upd H4 D (.lst ys)))->R (.ok .next) s5) :
  codeAny (model X.prog X.w) X.A (.compStart (.ListComp elt [⟨.Name x px,iter,ifs,0⟩] sc pos) 0 (.ref it) (.ref s2.heap.objs.size) (compEnvC sc cl (s2.heap.objs.size+1) X.env)) R { s2 with heap:=h₁,toks:=s2.toks+([]:List (Str×Value)).length }:=by
 have hfo:∀b∈fp,∃o,s2.heap.get? b=some o:=fun b hb=>by obtain⟨o,e,_⟩:=T.obj _ _ st2 b hb;exact⟨o,e⟩
 have lts:∀b∈fp,b<s2.heap.objs.size:=fun b hb=>by obtain⟨o,e⟩:=hfo b hb;exact Heap.lt_size e
 have I3:=zgw (x:=x) (tk:=s2.toks+([]:List (Str×Value)).length) hN hk hcell hfree hfv h1 h3 I2 f2 hfo old hns₁ hacc
 have st3:tn 0 h₁:=T.keep _ _ _ st2 fun b hb o e=>old b o e
 generalize hX:zak X x N' sc cl (s2.heap.objs.size+1) s2 H2 fp=X' at I3
 have eP:X'.prog=X.prog:=by rw[← hX];rfl
 have eW:X'.w=X.w:=by rw[← hX];rfl
 have eK:X'.K=X.K:=by rw[← hX];rfl
 have eA:X'.A=X.A:=by rw[← hX];rfl
 have eE:X'.env=compEnvC sc cl (s2.heap.objs.size+1) X.env:=by rw[← hX];rfl
 have eC:Cm X':=by rw[← hX];exact hc _ _ _ _ _ _ _ I2 f2
 have ePn:X'.pn=[]:=by rw[← hX];rfl
 have eXe:X'.xe=fun _ _=>False:=by rw[← hX];rfl
 have eFs:X'.fs=frs X.stack:=by rw[← hX];rfl
 have eEx:X'.ex=fp:=by rw[← hX];rfl
 have eN:X'.N=x::N':=by rw[← hX];rfl
 have eS:X'.s₀=s2:=by rw[← hX];rfl
 have nst:∀b∈fp,b∉frs X.stack:=fun b hb z=>by
  rcases List.mem_cons.mp (I2.stkSub b z) with e | z
  ·exact(f2 b hb).2.1 e
  ·exact(f2 b hb).2.2.1 z
 have nstD:s2.heap.objs.size∉frs X.stack:=fun z=>by
  rcases List.mem_cons.mp (I2.stkSub _ z) with e | z
  ·exact absurd (e ▸ I2.lt) (Nat.lt_irrefl _)
  ·exact I2.nofs (Nat.le_refl _) z
 have stat:∀ {H':Hp} {vs:List Value},(∀b∈fp,H' b=none)->∀b∈fp,FpOk X' [(s2.heap.objs.size,lobj vs)] H' b:=fun {H' vs} hn b hb=>by
  refine⟨hn b hb,?_,?_,.inl (by rw[eEx];exact hb),fun y c e=>?_,fun p hp=>?_⟩
  ·rw[eE];exact Nat.ne_of_lt (Nat.lt_succ_of_lt (lts b hb))
  ·rw[eFs];exact nst b hb
  ·rw[eE] at e;exact(f2 b hb).2.2.2.2.1 y c (h1 y c e)
  ·rw[ePn] at hp
   rw[List.mem_singleton.mp (show p∈[(s2.heap.objs.size,lobj vs)] from hp)]
   exact Nat.ne_of_gt (lts b hb)
 have loop:∀s₃:Shared,s₃={ s2 with heap:=h₁,toks:=s2.toks+([]:List (Str×Value)).length } ->
   codeAny (model X.prog X.w) X.A (.compLoop (.ListComp elt [⟨.Name x px,iter,ifs,0⟩] sc pos) 0 (.ref it) (.ref s2.heap.objs.size) (compEnvC sc cl (s2.heap.objs.size+1) X.env))
    (R) s₃:=by
  rintro s₃ rfl
  refine codeAny_compLoop_tests (fun n s'=>∃i σv H' ys vs,Inv X' [(s2.heap.objs.size,lobj vs)] (σv::ix.map (fun j=>σ.getD j none)) H' s'/\Vals ys vs/\tn i s'.heap/\(∀b∈fp,H' b=none)/\W i n H' ys) ?_ m0
   ⟨0,none,H2,[],[],I3,.nil,st3,fun b hb=>(f2 b hb).1,w0⟩
  rintro n s4 ⟨i,σv,H4,ys,vs,I4,hv4,st4,fr4,w4⟩
  rcases turn i n H4 ys w4 with⟨stop,hl,qn⟩ | ⟨go,step⟩
  ·have D:=T.done X' eP eW eK eC i _ s4 _ H4 (notedBy (model X.prog X.w) X.A (compEnvC sc cl (s2.heap.objs.size+1) X.env) fun e s'=>R (.error e) s') I4 (stat fr4) st4 stop
   rw[eA] at D
   refine thn D fun r s5 ⟨hr,I5⟩=>?_
   subst hr
   exact hR s5 H4 ys vs _ (hX ▸ I5) hv4 hl qn
  ·have D:=T.item X' eP eW eK eC i _ s4 _ H4 (notedBy (model X.prog X.w) X.A (compEnvC sc cl (s2.heap.objs.size+1) X.env) fun e s'=>R (.error e) s') I4 (stat fr4) st4 go
   rw[eA] at D
   refine thn D fun r s5 ⟨u,hr,h5⟩=>?_
   subst hr
   have key:wpAny (model X.prog X.w) X.A (letOwnedTupleGo (.Name x px) (.ref it) u >>= fun _=>assign (.Name x px) (compEnvC sc cl (s2.heap.objs.size+1) X.env) u) (fun _ s₂ =>
     wpAny (model X.prog X.w) X.A (forIn ifs true fun c r=>if r=true then do let ok ← isTrue c (compEnvC sc cl (s2.heap.objs.size+1) X.env) (eval c (compEnvC sc cl (s2.heap.objs.size+1) X.env));pure (ForInStep.yield ok) else pure (ForInStep.yield r)) (fun ok s₃ =>
      if ok=true then wpAny (model X.prog X.w) X.A (eval elt (compEnvC sc cl (s2.heap.objs.size+1) X.env)) (fun x s₄ =>
       wpAny (model X.prog X.w) X.A (call (.builtin "list.append") [.ref s2.heap.objs.size,x]) (fun _ s₅=>∃m,m<n/\∃i σv H' ys vs,Inv X' [(s2.heap.objs.size,lobj vs)] (σv::ix.map (fun j=>σ.getD j none)) H' s₅/\Vals ys vs/\tn i s₅.heap/\(∀b∈fp,H' b=none)/\W i m H' ys)
        (notedBy (model X.prog X.w) X.A (compEnvC sc cl (s2.heap.objs.size+1) X.env) fun e s'=>R (.error e) s') s₄)
       (notedBy (model X.prog X.w) X.A (compEnvC sc cl (s2.heap.objs.size+1) X.env) fun e s'=>R (.error e) s') s₃
      else ∃m,m<n/\∃i σv H' ys vs,Inv X' [(s2.heap.objs.size,lobj vs)] (σv::ix.map (fun j=>σ.getD j none)) H' s₃/\Vals ys vs/\tn i s₃.heap/\(∀b∈fp,H' b=none)/\W i m H' ys)
      (notedBy (model X.prog X.w) X.A (compEnvC sc cl (s2.heap.objs.size+1) X.env) fun e s'=>R (.error e) s') s₂)
     (notedBy (model X.prog X.w) X.A (compEnvC sc cl (s2.heap.objs.size+1) X.env) fun e s'=>R (.error e) s') s5:=by
    refine wpAny_bind (thn h5 fun _ s6 ⟨z,H6,I6,r6,y6,st6,fr6⟩=>?_)
    have I6':=I6.pinned (stat fr6) (T.obj _ _ st6)
    have q6:=step z H6 y6
    refine wpAny_assign_Name (?_:wpAny _ _ (storeName (compEnvC sc cl (s2.heap.objs.size+1) X.env) x u) _ _ s6)
    rw[← eE]
    refine zc0 (i:=0) I6' (by rw[eN];exact hnd) (by rw[eN];rfl) (.inl (by rw[eE];exact lookup_relabel_local hx)) r6 (fun s7 I7=>?_) (.inr (by rw[eE];exact lookup_relabel_local hx))
    have t7:=(hX ▸ hif cl (s2.heap.objs.size+1) s2 H2 fp (hc _ _ _ _ _ _ _ I2 f2):PIfs X' ifs tt) _ s7 _ H6 _ I7 q6
    rw[eP,eW,eA] at t7
    refine wpAny_mono t7 (fun b s8 ⟨H8,I8,q8⟩=>?_) (fun e s' z=>by rw[eXe] at z;exact z.elim)
    have keepT:∀ {s':Shared} {H':Hp} {σ':St},Inv X' ([(s2.heap.objs.size,lobj vs)]++zea fp s6.heap) σ' H' s'->tn (i+1) s'.heap/\∀b∈fp,H' b=none:=fun {s' H' σ'} J'=>by
     refine⟨T.keep _ _ _ st6 fun b hb o e=>(J'.pin (b,o) (List.mem_append_right _ (List.mem_append_right _ (zcc hb e)))).1,fun b hb=>?_⟩
     obtain⟨o,e,d⟩:=T.obj _ _ st6 b hb
     exact(J'.pin (b,o) (List.mem_append_right _ (List.mem_append_right _ (zcc hb e)))).2.1
    cases b with
    | false =>
      rw[if_neg Bool.false_ne_true] at q8 ⊢
      obtain⟨m',hm,w8⟩:=q8
      obtain⟨k1,k2⟩:=keepT I8
      exact⟨m',hm,i+1,some z,H8,ys,vs,I8.unpinned,hv4,k1,k2,w8⟩
    | true =>
      rw[if_pos rfl] at q8 ⊢
      have t8:=(hX ▸ hel cl (s2.heap.objs.size+1) s2 H2 fp (hc _ _ _ _ _ _ _ I2 f2):PE X' elt te) _ s8 _ H8 _ I8 q8
      rw[eP,eW,eA] at t8
      refine wpAny_mono t8 (fun v s9 ⟨y,H9,I9,r9,hsz,m',hm,w9⟩=>?_) (fun e s' z=>by rw[eXe] at z;exact z.elim)
      have pD:=I9.pin (s2.heap.objs.size,lobj vs) (List.mem_append_right _ (List.mem_append_left _ List.mem_cons_self))
      obtain⟨k1,k2⟩:=keepT I9
      have hvl:=hv4.length
      refine append_at (D:=s2.heap.objs.size) (its:=vs.toArray) (n:=vs.length) pD.1 (fun h' sb hD=>?_) (by rw[List.size_toArray];omega)
      have I9u:Inv X' [] (some z::ix.map (fun j=>σ.getD j none)) H9 s9:=I9.pins_of fun p hp=>nomatch hp
      have cne:∀y c,X'.env.cells.lookup y=some c->c≠s2.heap.objs.size:=fun y c e=>by
       rw[eE] at e
       obtain⟨v',q⟩:=I2.cell y c (h1 y c e)
       exact Nat.ne_of_lt q.lt
      have I10:Inv X' [] (some z::ix.map (fun j=>σ.getD j none)) H9 { s9 with heap:=h' }:=I9u.turned (t':=s9.toks) (it:=s2.heap.objs.size) (fun b o hb e=>(sb.2 b hb).trans e) pD.2.1 (by rw[eE];exact Nat.ne_of_lt (Nat.lt_succ_self _)) (.inr (by rw[eS];exact Nat.le_refl _)) cne (fun p hp=>by rw[ePn] at hp;exact nomatch hp)
      have I11:Inv X' [(s2.heap.objs.size,lobj (vs++[v]))] (some z::ix.map (fun j=>σ.getD j none)) H9 { s9 with heap:=h' }:=I10.pins_of fun p hp=>by
       rw[List.mem_singleton.mp hp]
       exact⟨hD.trans (congrArg some (zgx vs v)),pD.2.1,by rw[eE];exact Nat.ne_of_lt (Nat.lt_succ_self _),by rw[eFs];exact nstD,fun v' z'=>by cases z'⟩
      exact⟨m',hm,i+1,some z,H9,ys++[y],vs++[v],I11,hv4.snoc r9,T.keep _ _ _ k1 (fun b hb o e=>(sb.2 b (Nat.ne_of_lt (lts b hb))).trans e),k2,w9⟩
   exact key
 exact codeAny_compStart_list (loop _ rfl) (T.self X.A 0 _ _ _ st3 (loop _ rfl))
variable{h:Heap}
theorem Heap.SameBut.rf(e:∃o,h.get? a=some o):Heap.SameBut a h h:=by
 first | exact⟨rfl,fun _ _=>rfl⟩ | exact⟨e,fun _ _=>rfl⟩
structure zgy (X:Cx) (x:Str) (N':List Str) (ix:List Nat) (sc:Scope):Prop where
 nm:N'=ix.map fun i=>X.N.getD i ("" : Str)
 nd:(x::N').Nodup
 kind:sc.kind=.function
 hx:sc.names.lookup x=some .local
 cell:∀y∈sc.names,y.2≠.cell
 names:∀y∈sc.names,y.2=.local->sc.names.lookup y.1=some .local
 free:∀y∈sc.names,y.2=.free->X.env.kindOf y.1=some .cell\/X.env.kindOf y.1=some .free
 fv:∀y∈N',sc.names.lookup y=some .free
variable{wi:TI}
theorem zoa(c:zgy X x N' ix sc)(hc:∀cl C s₂ H₂ fp pins σ,Inv X pins σ H₂ s₂->(∀b∈fp,FpOk X pins H₂ b)->Cm (zak X x N' sc cl C s₂ H₂ fp))(hi:PIC Cm X (.Name x px) iter wi)(hif:∀cl C s₂ H₂ fp,Cm (zak X x N' sc cl C s₂ H₂ fp)->PIfs (zak X x N' sc cl C s₂ H₂ fp) ifs tt)(hel:∀cl C s₂ H₂ fp,Cm (zak X x N' sc cl C s₂ H₂ fp)->PE (zak X x N' sc cl C s₂ H₂ fp) elt te)(hs:∀v,foldedSetIterable iter X.env v=pure v:=by intro _;rfl) :
  PE X (.ListComp elt [⟨.Name x px,iter,ifs,0⟩] sc pos) (zh8 wi ix tt te):=by
 intro pins s σ H Q I h
 obtain⟨cl,hcl,h1,h3⟩:=zdk (sc:=sc) (env:=X.env) (fun y hy hf=>I.ok.has y.1 (c.free y hy hf))
 rw[eval_ListComp]
 refine wpAny_comprehension_free (use:=none) rfl hs hcl c.kind c.names (thn (hi pins s σ H _ I h) fun v s1 g1=>thn g1 fun itv s2 h2=>?_)
 obtain⟨it,fp,tn,J,H2,rfl,I2,T,st2,f2,W,⟨m0,w0⟩,turn⟩:=h2
 refine wpAny_newObj_type (wpAny_newFunctionEnv c.cell (by intro y hy;simp at hy) (fun h₁ hns₁ hsb₁=>?_) c.kind)
 dsimp only at hns₁ hsb₁ ⊢
 have hCsz:(s2.heap.push { cls:=.type "list",dict:=none,data:=.seq ([]:List Value).toArray }).objs.size=s2.heap.objs.size+1:=Heap.size_push ..
 rw[hCsz] at hns₁ hsb₁ ⊢
 have old:∀b o,s2.heap.get? b=some o->h₁.get? b=some o:=fun b o e=>hsb₁.extBut b o (Nat.ne_of_lt (Nat.lt_succ_of_lt (Heap.lt_size e))) (Heap.get?_push_of_some _ (Heap.get?_push_of_some _ e))
 have hacc:h₁.get? s2.heap.objs.size=some (lobj []):=hsb₁.extBut _ _ (Nat.ne_of_lt (Nat.lt_succ_self _)) (Heap.get?_push_of_some _ (Heap.get?_push_size _ rfl))
 have hfo:∀b∈fp,∃o,s2.heap.get? b=some o:=fun b hb=>by obtain⟨o,e,_⟩:=T.obj _ _ st2 b hb;exact⟨o,e⟩
 refine zem hc hif hel c.nm c.nd c.kind c.hx c.cell c.names c.free c.fv h1 h3 I2 T st2 f2 w0 turn old hns₁ hacc fun s5 H4 ys vs σ' I5 hv4 hl qn=>?_
 obtain⟨m5,hn5,_⟩:=I5.loc
 refine⟨m5,hn5,fun h' sb=>?_⟩
 have hDn:=(I5.pin (s2.heap.objs.size,lobj vs) (List.mem_append_right _ List.mem_cons_self)).2.1
 exact⟨.ref s2.heap.objs.size,_,zfm I2 f2 hfo I5 hv4 hl sb,rfl,qn _ hDn⟩
variable{i:Nat}
theorem zka{py spos:Pos}(c:zgy X x N' ix sc)(hc:∀cl C s₂ H₂ fp pins σ,Inv X pins σ H₂ s₂->(∀b∈fp,FpOk X pins H₂ b)->Cm (zak X x N' sc cl C s₂ H₂ fp))(hnN:X.N.Nodup)(hiy:X.N[i]?=some y)(hly:Loc X.env.scope y)(hi:PIC Cm X (.Name x px) iter wi)(hif:∀cl C s₂ H₂ fp,Cm (zak X x N' sc cl C s₂ H₂ fp)->PIfs (zak X x N' sc cl C s₂ H₂ fp) ifs tt)(hel:∀cl C s₂ H₂ fp,Cm (zak X x N' sc cl C s₂ H₂ fp)->PE (zak X x N' sc cl C s₂ H₂ fp) elt te)(hsw:swapsWith (.ListComp elt [⟨.Name x px,iter,ifs,0⟩] sc pos) (some (.Name y py)) spos.line X.env=pure true)(hf:X.fn y=true\/X.env.scope.names.lookup y=some .local:=by first | exact .inl rfl | exact .inr rfl | assumption)(hs:∀v,foldedSetIterable iter X.env v=pure v:=by intro _;rfl) :
  PS X (.Assign [.Name y py] (.ListComp elt [⟨.Name x px,iter,ifs,0⟩] sc pos) spos) (tAsg (zh8 wi ix tt te) (zcy i)):=by
 intro pins s σ H Dn I h
 have h:zh8 wi ix tt te σ H fun v H1=>Dn.nx (σ.set i (some v)) H1:=h
 obtain⟨cl,hcl,h1,h3⟩:=zdk (sc:=sc) (env:=X.env) (fun y hy hf=>I.ok.has y.1 (c.free y hy hf))
 rw[exec_Assign_Name_used _ _ _ _ hsw]
 refine wpAny_bind (wpAny_standAt (wpAny_bind ?_))
 show wpAny _ X.A (do let _ ← comprehension (.ListComp elt [⟨.Name x px,iter,ifs,0⟩] sc pos) sc X.env _ (newList []) false (eval iter X.env) (some (assign (.Name y py) X.env))) _ _ s
 refine wpAny_bind (wpAny_mono (wpAny_comprehension_free (use:=some (assign (.Name y py) X.env)) (Q:=fun _ s'=>SP X pins Dn .next s') rfl hs hcl c.kind c.names
  (thn (hi pins s σ H _ I h) fun v s1 g1=>thn g1 fun itv s2 h2=>?_)) (fun _ s' hq=>wpAny_pure (wpAny_pure hq)) fun _ _ e=>e)
 obtain⟨it,fp,tn,J,H2,rfl,I2,T,st2,f2,W,⟨m0,w0⟩,turn⟩:=h2
 refine wpAny_newObj_type (wpAny_newFunctionEnv c.cell (by intro y hy;simp at hy) (fun h₁ hns₁ hsb₁=>?_) c.kind)
 dsimp only at hns₁ hsb₁ ⊢
 have hCsz:(s2.heap.push { cls:=.type "list",dict:=none,data:=.seq ([]:List Value).toArray }).objs.size=s2.heap.objs.size+1:=Heap.size_push ..
 rw[hCsz] at hns₁ hsb₁ ⊢
 have old:∀b o,s2.heap.get? b=some o->h₁.get? b=some o:=fun b o e=>hsb₁.extBut b o (Nat.ne_of_lt (Nat.lt_succ_of_lt (Heap.lt_size e))) (Heap.get?_push_of_some _ (Heap.get?_push_of_some _ e))
 have hacc:h₁.get? s2.heap.objs.size=some (lobj []):=hsb₁.extBut _ _ (Nat.ne_of_lt (Nat.lt_succ_self _)) (Heap.get?_push_of_some _ (Heap.get?_push_size _ rfl))
 have hfo:∀b∈fp,∃o,s2.heap.get? b=some o:=fun b hb=>by obtain⟨o,e,_⟩:=T.obj _ _ st2 b hb;exact⟨o,e⟩
 refine zem (Q:=fun v H1=>Dn.nx (σ.set i (some v)) H1) hc hif hel c.nm c.nd c.kind c.hx c.cell c.names c.free c.fv h1 h3 I2 T st2 f2 w0 turn old hns₁ hacc fun s5 H4 ys vs σ' I5 hv4 hl qn=>?_
 obtain⟨m5,hn5,_⟩:=I5.loc
 have hn5:s5.heap.Ns (s2.heap.objs.size+1) m5:=hn5
 have hDn:=(I5.pin (s2.heap.objs.size,lobj vs) (List.mem_append_right _ List.mem_cons_self)).2.1
 have oC:∃o,s5.heap.get? (s2.heap.objs.size+1)=some o:=let ⟨o,_,_,e,_⟩:=hn5;⟨o,e⟩
 have I6:Inv X pins σ (upd H4 s2.heap.objs.size (.lst ys)) { s5 with heap:=s5.heap }:=zfm I2 f2 hfo I5 hv4 hl (Heap.SameBut.rf oC)
 show wpAny _ X.A (assign (.Name y py) X.env (.ref s2.heap.objs.size)) _ _ s5
 have HC:upd H4 s2.heap.objs.size (.lst ys) (s2.heap.objs.size+1)=none:=by rw[zal (Nat.ne_of_gt (Nat.lt_succ_self _))];exact I5.free
 have ltC:∀a o,s2.heap.get? a=some o->s2.heap.objs.size+1≠a:=fun a o e=>Nat.ne_of_gt (Nat.lt_succ_of_lt (Heap.lt_size e))
 have oL:∃o,s2.heap.get? X.env.locals=some o:=let ⟨m,hn,_⟩:=I2.loc;let ⟨o,_,_,e,_⟩:=hn;⟨o,e⟩
 have cL:s2.heap.objs.size+1≠X.env.locals:=let ⟨o,e⟩:=oL;ltC _ o e
 have cC:∀z c',X.env.cells.lookup z=some c'->c'≠s2.heap.objs.size+1:=fun z c' e=>by
  obtain⟨v',o,e',_⟩:=I2.cell z c' e
  exact Ne.symm (ltC _ o e')
 refine wpAny_assign_Name (zc3 (v:=.ref s2.heap.objs.size) I6 hnN hiy hly rfl (fun s7 I7 ⟨a,sb,ha⟩=>?_) hf)
 have naC:s2.heap.objs.size+1≠a:=by
  rcases ha with rfl | ha
  ·exact cL
  ·exact Ne.symm (cC _ _ ha)
 refine⟨m5,hn5.sameBut sb naC,fun h' sb'=>?_⟩
 refine⟨_,_,I7.turned (t':=s7.toks) (it:=s2.heap.objs.size+1) (fun b o hb e=>(sb'.2 b hb).trans e) HC cL (.inr ?_) cC (fun p hp=>?_),qn _ hDn⟩
 ·exact Nat.le_succ_of_le I2.sz
 ·exact Ne.symm (ltC _ _ (I2.pin p hp).1)
def zkb(X:Cx)(xs N':List Str)(sc:Scope)(cl:List (Str×Addr))(C:Addr)(s₂:Shared)(H₂:Hp)(fp:List Addr):Cx :=
 { X with N:=xs++N',s₀:=s₂,H₀:=H₂,env:=compEnvC sc cl C X.env,outer:=X.stack,stack:=X.stack,ex:=fp,fn:=fun _=>false,pn:=[],xe:=fun _ _=>False }
structure zob (X:Cx) (xs N':List Str) (ix:List Nat) (sc:Scope):Prop where
 nm:N'=ix.map fun i=>X.N.getD i ("" : Str)
 nd:(xs++N').Nodup
 kind:sc.kind=.function
 hx:∀y∈xs,sc.names.lookup y=some .local
 cell:∀y∈sc.names,y.2≠.cell
 names:∀y∈sc.names,y.2=.local->sc.names.lookup y.1=some .local
 free:∀y∈sc.names,y.2=.free->X.env.kindOf y.1=some .cell\/X.env.kindOf y.1=some .free
 fv:∀y∈N',sc.names.lookup y=some .free
inductive D where
 | non | bl (b:Bool) | int (i:Int) | str (s:Str) | tup (ds:List D) | lst (ds:List D)
 | dct (ks:List Int) (ds:List D)
 | exc (a:Addr)
inductive Im where
 | t (vs:List V) | d (kvs:List (Key×V))
@[reducible] def Im.out:Im->HO | .t vs=>.tup vs | .d kvs=>.dK kvs
def dkv(ks:List Int)(vs:List V):List (Key×V):=ks.zipWith (fun k v=>(Sum.inl k,v)) vs
def KL(K:PySem.W.Frag)(a:Addr)(xs:List V):Prop :=
 ∃(o:Obj) (its:Array Value) (n:Nat),K.lookup a=some o/\o.cls=.type "list"/\o.dict=none/\o.data=.seq its n/\its.size<=sizeLine/\Vals xs its.toList
mutual
inductive Rep (K:PySem.W.Frag) (H:Hp) (O:Addr->Prop):D->V->Prop
 | non:Rep K H O .non .non
 | bl (b:Bool):Rep K H O (.bl b) (.bl b)
 | int (i:Int):Rep K H O (.int i) (.int i)
 | str (s:Str):Rep K H O (.str s) (.str s)
 | tup {a:Addr} {vs:List V} {ds:List D}:H a=some (.tup vs)->Reps K H O ds vs->Rep K H O (.tup ds) (.ref a)
 | lst {a:Addr} {vs:List V} {ds:List D}:O a->Rd H a (.lst vs)->Reps K H O ds vs->Rep K H O (.lst ds) (.ref a)
 | klst {a:Addr} {vs:List V} {ds:List D}:KL K a vs->Reps K H O ds vs->Rep K H O (.lst ds) (.ref a)
 | dct {a:Addr} {ks:List Int} {vs:List V} {ds:List D}:H a=some (.dK (dkv ks vs))->Reps K H O ds vs->Rep K H O (.dct ks ds) (.ref a)
 | exc (a:Addr):Rep K H O (.exc a) (.ref a)
inductive Reps (K:PySem.W.Frag) (H:Hp) (O:Addr->Prop):List D->List V->Prop
 | nil:Reps K H O [] []
 | cons {d:D} {v:V} {ds:List D} {vs:List V}:Rep K H O d v->Reps K H O ds vs->Reps K H O (d::ds) (v::vs)
end
mutual
theorem Rep.mono (ht:∀a (u:Im),H a=some u.out->H' a=some u.out) (hl:∀a vs,O a->Rd H a (.lst vs)->O' a/\Rd H' a (.lst vs)):∀ {d:D} {v:V},Rep K H O d v->Rep K H' O' d v
 | _,_,.non=>.non
 | _,_,.bl b=>.bl b
 | _,_,.int i=>.int i
 | _,_,.str s=>.str s
 | _,_,.tup h r=>.tup (ht _ (.t _) h) (Reps.mono ht hl r)
 | _,_,.lst o h r=>.lst (hl _ _ o h).1 (hl _ _ o h).2 (Reps.mono ht hl r)
 | _,_,.klst h r=>.klst h (Reps.mono ht hl r)
 | _,_,.dct h r=>.dct (ht _ (.d _) h) (Reps.mono ht hl r)
 | _,_,.exc a=>.exc a
theorem Reps.mono (ht:∀a (u:Im),H a=some u.out->H' a=some u.out) (hl:∀a vs,O a->Rd H a (.lst vs)->O' a/\Rd H' a (.lst vs)):∀ {ds:List D} {vs:List V},Reps K H O ds vs->Reps K H' O' ds vs
 | _,_,.nil=>.nil
 | _,_,.cons r t=>.cons (Rep.mono ht hl r) (Reps.mono ht hl t)
end
variable{O:Addr->Prop}
theorem Reps.length:∀ {ds:List D} {vs:List V},Reps K H O ds vs->ds.length=vs.length
 | _,_,.nil=>rfl
 | _,_,.cons _ t=>by rw[List.length_cons,List.length_cons,Reps.length t]
theorem Reps.get:∀ {ds:List D} {vs:List V} {i:Nat} {d:D},Reps K H O ds vs->ds[i]?=some d->∃v,vs[i]?=some v/\Rep K H O d v
 | _,_,_,_,.nil,e=>by simp at e
 | _,_,0,_,.cons r _,e=>by simp at e;subst e;exact⟨_,rfl,r⟩
 | _,_,i+1,d,.cons _ t,e=>by
   obtain⟨u,h1,h2⟩:=Reps.get (i:=i) (d:=d) t (by simpa using e)
   exact⟨u,by simpa using h1,h2⟩
theorem Reps.append:∀ {ds es:List D} {vs ws:List V},Reps K H O ds vs->Reps K H O es ws->Reps K H O (ds++es) (vs++ws)
 | _,_,_,_,.nil,s=>s
 | _,_,_,_,.cons r t,s=>.cons r (Reps.append t s)
theorem Reps.take:∀ {ds:List D} {vs:List V} (n:Nat),Reps K H O ds vs->Reps K H O (ds.take n) (vs.take n)
 | _,_,0,_=>.nil
 | _,_,_+1,.nil=>.nil
 | _,_,n+1,.cons r t=>.cons r (Reps.take n t)
theorem Reps.drop:∀ {ds:List D} {vs:List V} (n:Nat),Reps K H O ds vs->Reps K H O (ds.drop n) (vs.drop n)
 | _,_,0,r=>r
 | _,_,_+1,.nil=>.nil
 | _,_,n+1,.cons _ t=>Reps.drop n t
theorem Reps.set{d:D}{v:V}(r:Rep K H O d v):∀ {ds:List D} {vs:List V} (i:Nat),Reps K H O ds vs->Reps K H O (ds.set i d) (vs.set i v)
 | _,_,_,.nil=>.nil
 | _,_,0,.cons _ t=>.cons r t
 | _,_,i+1,.cons q t=>.cons q (Reps.set r i t)
theorem Reps.eraseIdx:∀ {ds:List D} {vs:List V} (i:Nat),Reps K H O ds vs->Reps K H O (ds.eraseIdx i) (vs.eraseIdx i)
 | _,_,_,.nil=>.nil
 | _,_,0,.cons _ t=>t
 | _,_,i+1,.cons q t=>.cons q (Reps.eraseIdx i t)
theorem Reps.dropLast:∀ {ds:List D} {vs:List V},Reps K H O ds vs->Reps K H O ds.dropLast vs.dropLast
 | _,_,.nil=>.nil
 | _,_,.cons _ .nil=>.nil
 | _,_,.cons r (.cons q t)=>.cons r (Reps.dropLast (.cons q t))
variable{vs:List V}{ds:List D}
theorem Reps.reverse(h:Reps K H O ds vs):Reps K H O ds.reverse vs.reverse:=by
 induction ds generalizing vs with
 | nil=>cases h;exact .nil
 | cons d ds ih =>
   cases h with
   | cons r t=>rw[List.reverse_cons,List.reverse_cons];exact(ih t).append (.cons r .nil)
variable{v:V}
theorem Rep.int_{i:Int}(h:Rep K H O (.int i) v):v=.int i:=by cases h;rfl
theorem Rep.bl_{i:Bool}(h:Rep K H O (.bl i) v):v=.bl i:=by cases h;rfl
theorem Rep.exc_(h:Rep K H O (.exc a) v):v=.ref a:=by cases h;rfl
theorem Rep.tup_(h:Rep K H O (.tup ds) v):∃a vs,v=.ref a/\H a=some (.tup vs)/\Reps K H O ds vs:=by cases h with | tup a b=>exact⟨_,_,rfl,a,b⟩
def LsOk(K:PySem.W.Frag)(H:Hp)(O:Addr->Prop)(a:Addr)(vs:List V):Prop:=(O a/\Rd H a (.lst vs))\/KL K a vs
theorem LsOk.sq(h:LsOk K H O a vs):SqL K H a vs:=h.elim (fun z=>.inl z.2) .inr
theorem Rep.lst_(h:Rep K H O (.lst ds) v):∃a vs,v=.ref a/\LsOk K H O a vs/\Reps K H O ds vs:=by
 cases h with
 | lst o a b=>exact⟨_,_,rfl,.inl ⟨o,a⟩,b⟩
 | klst a b=>exact⟨_,_,rfl,.inr a,b⟩
inductive Mo where
 | l (vs:List V) | i (C dx:Addr) (fs:List (Str×V))
@[reducible] def Mo.out:Mo->HO | .l vs=>.lst vs | .i C dx fs=>.ins C dx fs
inductive Pt where
 | d (d:D) | o (ds:List D)
inductive AK where
 | ls | ins (b:Bool) (c:Str) (fs:List Str)
inductive Sl where
 | sh (d:D) | ow (ds:List D) | o2 (dss:List (List D)) | ag (k:AK) (r:Option Nat) (ps:List Pt) | al (r j:Nat) | ro (k:AK) (ps:List Pt)
structure Gd where
 g:Addr->Prop
 r:Nat->List Addr
instance:CoeFun Gd (fun _=>Addr->Prop):=⟨Gd.g⟩
abbrev gd(g:Addr->Prop):Gd:=⟨g,fun _=>[]⟩
abbrev DE0:=List (Option Sl)
def Ow(G:Gd)(W:Addr->Prop):Addr->Prop:=fun a=>G a/\¬W a
def Inn(K:PySem.W.Frag)(G:Gd)(W:Addr->Prop)(H:Hp)(dss:List (List D))(ls:List Addr):Prop :=
 ls.length=dss.length/\∀(j:Nat) (ds:List D) (a:Addr),dss[j]?=some ds->ls[j]?=some a->W a/\∃vs,H a=some (.lst vs)/\Reps K H (Ow G W) ds vs
inductive PtsOk (K:PySem.W.Frag) (G:Gd) (W:Addr->Prop) (H:Hp):List Pt->List Addr->List V->Prop
 | nil:PtsOk K G W H [] [] []
 | d {d:D} {v:V} {ps:List Pt} {as:List Addr} {us:List V}:Rep K H (Ow G W) d v->PtsOk K G W H ps as us->PtsOk K G W H (.d d::ps) as (v::us)
 | o {ds:List D} {a:Addr} {vs:List V} {ps:List Pt} {as:List Addr} {us:List V}:W a->H a=some (.lst vs)->Reps K H (Ow G W) ds vs->PtsOk K G W H ps as us->PtsOk K G W H (.o ds::ps) (a::as) (.ref a::us)
inductive PtsRo (K:PySem.W.Frag) (G:Gd) (W:Addr->Prop) (H:Hp):List Pt->List V->Prop
 | nil:PtsRo K G W H [] []
 | d {d:D} {v:V} {ps:List Pt} {us:List V}:Rep K H (Ow G W) d v->PtsRo K G W H ps us->PtsRo K G W H (.d d::ps) (v::us)
 | o {ds:List D} {a:Addr} {vs:List V} {ps:List Pt} {us:List V}:¬W a->H a=some (.lst vs)->Reps K H (Ow G W) ds vs->PtsRo K G W H ps us->PtsRo K G W H (.o ds::ps) (.ref a::us)
def AkOk(K:PySem.W.Frag)(H:Hp):AK->Addr->List V->Prop
 | .ls,p,us=>H p=some (.lst us)
 | .ins _ c fs,p,us=>∃C dx,PySem.W.nsIn K mainGlobals c=some (some (.ref C))/\H p=some (.ins C dx (fs.zip us))/\fs.length=us.length
def Lab:AK->List Addr->Addr->List Addr->Prop
 | .ins true _ _,l,p,_=>l=[p]
 | _,l,p,as=>l=p::as
def SlOk(K:PySem.W.Frag)(G:Gd)(W:Addr->Prop)(H:Hp):Sl->V->Prop
 | .sh d,v=>Rep K H (Ow G W) d v
 | .ow ds,v=>∃l vs,v=.ref l/\W l/\H l=some (.lst vs)/\Reps K H (Ow G W) ds vs
 | .o2 dss,v=>∃(l:Addr) (ls:List Addr),v=.ref l/\W l/\H l=some (.lst (ls.map V.ref))/\(l::ls).Nodup/\Inn K G W H dss ls
 | .ag k r ps,v=>∃(p:Addr) (as:List Addr) (us:List V),v=.ref p/\W p/\(p::as).Nodup/\(∀n,r=some n->Lab k (G.r n) p as)/\AkOk K H k p us/\PtsOk K G W H ps as us
 | .al r j,v=>∃p as a,G.r r=p::as/\as[j]?=some a/\v=.ref a
 | .ro k ps,v=>∃(p:Addr) (us:List V),v=.ref p/\¬W p/\AkOk K H k p us/\PtsRo K G W H ps us
def zmh:List Pt->List V->Addr->Prop:=fun ps us a=>∃(j:Nat) (ds:List D),ps[j]?=some (.o ds)/\us[j]?=some (.ref a)
def AkH(H:Hp):AK->Addr->List V->Prop
 | .ls,p,us=>H p=some (.lst us)
 | .ins _ _ fs,p,us=>fs.length=us.length/\∃C dx,H p=some (.ins C dx (fs.zip us))
def Owns(H:Hp):Sl->V->Addr->Prop
 | .sh _,_,_=>False
 | .ow _,v,a=>v=.ref a
 | .o2 _,v,a=>v=.ref a\/∃(l:Addr) (ls:List Addr),v=.ref l/\H l=some (.lst (ls.map V.ref))/\a∈ls
 | .ag k _ ps,v,a=>v=.ref a\/∃(p:Addr) (us:List V),v=.ref p/\AkH H k p us/\zmh ps us a
 | .al _ _,_,_=>False
 | .ro _ _,_,_=>False
structure Ok (K:PySem.W.Frag) (G:Gd) (H0:Hp) (W:Addr->Prop) (env:DE0) (σ:St) (H:Hp):Prop where
 stay:Same H0 H
 good:∀a,H0 a=none->G a
 wl:∀l,W l->H0 l=none/\∃m:Mo,H l=some m.out
 slot:∀(i:Nat) (s:Sl),env[i]?=some (some s)->∃v,σ[i]?=some (some v)/\SlOk K G W H s v
 uniq:∀(i j:Nat) (s s':Sl) (v v':V) (a:Addr),env[i]?=some (some s)->env[j]?=some (some s')->σ[i]?=some (some v)->σ[j]?=some (some v')->Owns H s v a->Owns H s' v' a->i=j
 len:env.length=σ.length
variable{ls:List Addr}
theorem zfn{ls':List Addr}(h:ls.map V.ref=ls'.map V.ref):ls=ls':=by
 induction ls generalizing ls' with
 | nil=>cases ls' with | nil=>rfl | cons b r=>cases h
 | cons a t ih=>cases ls' with | nil=>cases h | cons b r=>simp only[List.map_cons,List.cons.injEq,V.ref.injEq] at h;rw[h.1,ih h.2]
variable{G:Gd}{as:List Addr}{us:List V}
theorem PtsOk.own(h:PtsOk K G W H ps as us)(ha:a∈as):W a/\∃vs,H a=some (.lst vs):=by
 induction h with
 | nil=>cases ha
 | d _ _ ih=>exact ih ha
 | o hW hl _ _ ih =>
   rcases List.mem_cons.mp ha with rfl | ha
   ·exact⟨hW,_,hl⟩
   ·exact ih ha
theorem PtsOk.parts_iff(h:PtsOk K G W H ps as us):zmh ps us a↔a∈as:=by
 induction h with
 | nil=>exact⟨fun⟨j,ds,e,_⟩=>by simp at e,fun z=>by cases z⟩
 | d _ _ ih =>
   rw[← ih]
   constructor
   ·rintro⟨j,ds,e1,e2⟩
    cases j with
    | zero=>simp at e1
    | succ j=>exact⟨j,ds,by simpa using e1,by simpa using e2⟩
   ·rintro⟨j,ds,e1,e2⟩
    exact⟨j+1,ds,by simpa using e1,by simpa using e2⟩
 | o _ _ _ _ ih =>
   rw[List.mem_cons,← ih]
   constructor
   ·rintro⟨j,ds,e1,e2⟩
    cases j with
    | zero=>simp at e2;exact .inl e2.symm
    | succ j=>exact .inr ⟨j,ds,by simpa using e1,by simpa using e2⟩
   ·rintro(rfl | ⟨j,ds,e1,e2⟩)
    ·exact⟨0,_,rfl,rfl⟩
    ·exact⟨j+1,ds,by simpa using e1,by simpa using e2⟩
variable{G':Gd}{W':Addr->Prop}
protected theorem PtsOk.step(h:PtsOk K G W H ps as us)(k:∀a vs,a∈as->H a=some (.lst vs)->W' a/\H' a=some (.lst vs))(r:∀d v,Rep K H (Ow G W) d v->Rep K H' (Ow G' W') d v)(rs:∀ds vs,Reps K H (Ow G W) ds vs->Reps K H' (Ow G' W') ds vs):PtsOk K G' W' H' ps as us:=by
 induction h with
 | nil=>exact .nil
 | d q _ ih=>exact .d (r _ _ q) (ih k)
 | o hW hl q _ ih =>
   obtain⟨w1,w2⟩:=k _ _ List.mem_cons_self hl
   exact .o w1 w2 (rs _ _ q) (ih fun a vs ha=>k a vs (List.mem_cons_of_mem _ ha))
protected theorem PtsRo.step(h:PtsRo K G W H ps us)(k:∀a vs,¬W a->H a=some (.lst vs)->¬W' a/\H' a=some (.lst vs))(r:∀d v,Rep K H (Ow G W) d v->Rep K H' (Ow G' W') d v)(rs:∀ds vs,Reps K H (Ow G W) ds vs->Reps K H' (Ow G' W') ds vs):PtsRo K G' W' H' ps us:=by
 induction h with
 | nil=>exact .nil
 | d q _ ih=>exact .d (r _ _ q) ih
 | o hW hl q _ ih=>obtain⟨w1,w2⟩:=k _ _ hW hl;exact .o w1 w2 (rs _ _ q) ih
variable{j:Nat}
theorem PtsRo.get(h:PtsRo K G W H ps us)(e:ps[j]?=some (.o ds)):∃a vs,us[j]?=some (.ref a)/\¬W a/\H a=some (.lst vs)/\Reps K H (Ow G W) ds vs:=by
 induction h generalizing j with
 | nil=>simp at e
 | d _ _ ih =>
   cases j with
   | zero=>simp at e
   | succ j=>obtain⟨a,vs,h1,h2⟩:=ih (j:=j) (by simpa using e);exact⟨a,vs,by simpa using h1,h2⟩
 | @o _ a vs _ _ hW hl r _ ih =>
   cases j with
   | zero=>simp at e;subst e;exact⟨a,vs,rfl,hW,hl,r⟩
   | succ j=>obtain⟨a,vs,h1,h2⟩:=ih (j:=j) (by simpa using e);exact⟨a,vs,by simpa using h1,h2⟩
theorem PtsRo.getD(h:PtsRo K G W H ps us)(e:ps[j]?=some (.d d)):∃v,us[j]?=some v/\Rep K H (Ow G W) d v:=by
 induction h generalizing j with
 | nil=>simp at e
 | d q _ ih =>
   cases j with
   | zero=>simp at e;subst e;exact⟨_,rfl,q⟩
   | succ j=>obtain⟨a,h1,h2⟩:=ih (j:=j) (by simpa using e);exact⟨a,by simpa using h1,h2⟩
 | o _ _ _ _ ih =>
   cases j with
   | zero=>simp at e
   | succ j=>obtain⟨a,h1,h2⟩:=ih (j:=j) (by simpa using e);exact⟨a,by simpa using h1,h2⟩
variable{k:AK}{p:Addr}
theorem zgz{us':List V}(h:AkOk K H k p us)(h':AkH H k p us'):us'=us:=by
 cases k with
 | ls=>have h:H p=_:=h;have h':H p=_:=h';rw[h] at h';cases h';rfl
 | ins b c fs =>
   obtain⟨C,dx,_,z2,z3⟩:=h
   obtain⟨l',C',dx',e⟩:=h'
   rw[z2] at e
   have e:fs.zip us=fs.zip us':=by injection e with e;injection e
   have:=congrArg (List.map Prod.snd) e
   rw[List.map_snd_zip (by omega),List.map_snd_zip (by omega)] at this
   exact this.symm
protected theorem AkOk.o{K:PySem.W.Frag}{H:Hp}{k:AK}{p:Addr}{us:List V}(h:AkOk K H k p us):AkH H k p us:=by
 cases k with
 | ls=>exact h
 | ins b c fs=>obtain⟨C,dx,_,z2,z3⟩:=h;exact⟨z3,C,dx,z2⟩
theorem AkOk.mo(h:AkOk K H k p us):∃m:Mo,H p=some m.out/\∀H',H' p=some m.out->AkOk K H' k p us:=by
 cases k with
 | ls=>exact⟨.l us,h,fun H' e=>e⟩
 | ins b c fs=>obtain⟨C,dx,z1,z2,z3⟩:=h;exact⟨.i C dx (fs.zip us),z2,fun H' e=>⟨C,dx,z1,e,z3⟩⟩
variable{s:Sl}
theorem SlOk.owns(h:SlOk K G W H s v)(o:Owns H s v a):W a:=by
 cases s with
 | sh d=>exact o.elim
 | ow ds=>obtain⟨l,vs,e,hW,_⟩:=h;rw[show v=.ref a from o] at e;cases e;exact hW
 | o2 dss =>
   obtain⟨l,ls,e,hW,hl,nd,hi⟩:=h
   rcases o with o | ⟨l',ls',e',hl',ha⟩
   ·rw[o] at e;cases e;exact hW
   ·rw[e] at e';cases e'
    rw[hl] at hl'
    have:=zfn (by simpa using hl')
    subst this
    obtain⟨j,hj,e2⟩:=List.getElem_of_mem ha
    have hj':j<dss.length:=by rw[← hi.1];exact hj
    exact(hi.2 j dss[j] a (by simp[hj']) (by simp[hj,e2])).1
 | ag k r ps =>
   obtain⟨p,as,us,e,hW,nd,hr,hk,hp⟩:=h
   rcases o with o | ⟨p',us',e',hk',ha⟩
   ·rw[o] at e;cases e;exact hW
   ·rw[e] at e';cases e'
    rw[zgz hk hk'] at ha
    exact(hp.own (hp.parts_iff.mp ha)).1
 | al _ _=>exact o.elim
 | ro _ _=>exact o.elim
theorem SlOk.back(h:SlOk K G W H s v)(k:∀l,v=.ref l->W l->∀m:Mo,H l=some m.out->H' l=some m.out)(o:Owns H' s v a):Owns H s v a:=by
 cases s with
 | sh d=>exact o.elim
 | ow ds=>exact o
 | o2 dss =>
   obtain⟨l,ls,e,hW,hl,nd,hi⟩:=h
   rcases o with o | ⟨l',ls',e',hl',ha⟩
   ·exact .inl o
   ·rw[e] at e';cases e'
    rw[k l e hW (.l _) hl] at hl'
    have:=zfn (by simpa using hl')
    subst this
    exact .inr ⟨l,ls,e,hl,ha⟩
 | ag q r ps =>
   obtain⟨p,as,us,e,hW,nd,hr,hk,hp⟩:=h
   rcases o with o | ⟨p',us',e',hk',ha⟩
   ·exact .inl o
   ·rw[e] at e';cases e'
    obtain⟨m,m1,m2⟩:=hk.mo
    rw[zgz (m2 H' (k p e hW m m1)) hk'] at ha
    exact .inr ⟨p,us,e,hk.o,ha⟩
 | al _ _=>exact o.elim
 | ro _ _=>exact o.elim
structure Step (W:Addr->Prop) (H:Hp) (W':Addr->Prop) (H':Hp):Prop where
 keep:∀b o,H b=some o->¬W b->H' b=some o
 ws:∀l,W' l->W l\/H l=none
theorem Step.refl:Step W H W H:=⟨fun _ _ e _=>e,fun _ h=>.inl h⟩
theorem Step.trans{W1 W2:Addr->Prop}(a:Step W H W1 H1)(b:Step W1 H1 W2 H2):Step W H W2 H2 where
 keep:=fun c o e n=>b.keep c o (a.keep c o e n) fun z=>(a.ws c z).elim n fun q=>by rw[q] at e;cases e
 ws:=fun l h=>by
  rcases b.ws l h with z | z
  ·exact a.ws l z
  ·by_cases n:W l
   ·exact .inl n
   ·cases e:H l with
    | none=>exact .inr rfl
    | some o=>rw[a.keep l o e n] at z;cases z
theorem Step.same(h:Same H H'):Step W H W H':=⟨fun b o e _=>h b o e,fun _ h=>.inl h⟩
variable{H0:Hp}
theorem Ok.wkeep(ok:Ok K G H0 W env σ H)(st:Step W H W' H'):∀b o,H b=some o->(∀m:Mo,o≠m.out)->H' b=some o:=fun b o e n =>
 st.keep b o e fun z=>by obtain⟨_,m,q⟩:=ok.wl b z;rw[e] at q;exact n m (Option.some.inj q)
theorem Rd.keep{u:HO}(h:Rd H a u)(k:∀o,H a=some o->H' a=some o):Rd H' a u:=by
 rcases h with h | ⟨o,h⟩
 ·exact .inl (k _ h)
 ·exact .inr ⟨o,k _ h⟩
theorem Ok.tstep(ok:Ok K G H0 W env σ H)(st:Step W H W' H'):∀a vs,H a=some (.tup vs)->H' a=some (.tup vs):=fun _ _ h=>ok.wkeep st _ _ h fun m z=>by cases m <;> cases z
theorem Ok.istep(ok:Ok K G H0 W env σ H)(st:Step W H W' H'):∀a (u:Im),H a=some u.out->H' a=some u.out:=fun _ u h=>ok.wkeep st _ _ h fun m z=>by cases u <;> cases m <;> cases z
theorem Ok.lstep(ok:Ok K G H0 W env σ H)(st:Step W H W' H'):∀a vs,Ow G W a->Rd H a (.lst vs)->Ow G W' a/\Rd H' a (.lst vs):=fun a vs o h=>by
 refine⟨⟨o.1,fun z=>?_⟩,h.keep fun u e=>st.keep a u e o.2⟩
 rcases st.ws a z with q | q
 ·exact o.2 q
 ·rcases h with h | ⟨_,h⟩ <;> rw[q] at h <;> cases h
theorem Ok.lsstep(ok:Ok K G H0 W env σ H)(st:Step W H W' H')(h:LsOk K H (Ow G W) a vs):LsOk K H' (Ow G W') a vs:=h.elim (fun z=>.inl (ok.lstep st a vs z.1 z.2)) .inr
theorem Ok.rep(ok:Ok K G H0 W env σ H)(st:Step W H W' H')(r:Rep K H (Ow G W) d v):Rep K H' (Ow G W') d v:=r.mono (ok.istep st) (ok.lstep st)
theorem Ok.reps(ok:Ok K G H0 W env σ H)(st:Step W H W' H'){d:List D}{v:List V}(r:Reps K H (Ow G W) d v):Reps K H' (Ow G W') d v:=r.mono (ok.istep st) (ok.lstep st)
variable{dss:List (List D)}
protected theorem Inn.step(h:Inn K G W H dss ls)(k:∀a vs,W a->a∈ls->H a=some (.lst vs)->H' a=some (.lst vs))(w:∀a,W a->a∈ls->W' a)(r:∀ds vs,Reps K H (Ow G W) ds vs->Reps K H' (Ow G W') ds vs):Inn K G W' H' dss ls :=
 ⟨h.1,fun j ds a e1 e2=>by
  obtain⟨hW,vs,ha,rp⟩:=h.2 j ds a e1 e2
  exact⟨w a hW (List.mem_of_getElem? e2),vs,k a vs hW (List.mem_of_getElem? e2) ha,r ds vs rp⟩⟩
theorem Ok.slstep(ok:Ok K G H0 W env σ H)(st:Step W H W' H')(h:SlOk K G W H s v)(k:∀a (m:Mo),Owns H s v a->H a=some m.out->W' a/\H' a=some m.out):SlOk K G W' H' s v:=by
 cases s with
 | sh d=>exact ok.rep st h
 | ow ds =>
   obtain⟨l,vs,e,hW,hl,r⟩:=h
   obtain⟨h1,h2⟩:=k l (.l vs) e hl
   exact⟨l,vs,e,h1,h2,ok.reps st r⟩
 | o2 dss =>
   obtain⟨l,ls,e,hW,hl,nd,hi⟩:=h
   obtain⟨h1,h2⟩:=k l (.l _) (.inl e) hl
   have ik:∀a vs,a∈ls->H a=some (.lst vs)->W' a/\H' a=some (.lst vs):=fun a vs ha e2=>k a (.l vs) (.inr ⟨l,ls,e,hl,ha⟩) e2
   refine⟨l,ls,e,h1,h2,nd,hi.1,fun j ds a e1 e2=>?_⟩
   obtain⟨_,vs,ha,rp⟩:=hi.2 j ds a e1 e2
   obtain⟨k1,k2⟩:=ik a vs (List.mem_of_getElem? e2) ha
   exact⟨k1,vs,k2,ok.reps st rp⟩
 | ag q r ps =>
   obtain⟨p,as,us,e,hW,nd,hr,hk,hp⟩:=h
   obtain⟨m,m1,m2⟩:=hk.mo
   obtain⟨h1,h2⟩:=k p m (.inl e) m1
   exact⟨p,as,us,e,h1,nd,hr,m2 H' h2,hp.step (fun a vs ha e2=>k a (.l vs) (.inr ⟨p,us,e,hk.o,hp.parts_iff.mpr ha⟩) e2) (fun _ _ r=>ok.rep st r) fun _ _ r=>ok.reps st r⟩
 | al _ _=>exact h
 | ro q ps =>
   obtain⟨p,us,e,hW,hk,hp⟩:=h
   have nw:∀a o,¬W a->H a=some o->¬W' a:=fun a o n e z=>(st.ws a z).elim n fun y=>by rw[y] at e;cases e
   obtain⟨m,m1,m2⟩:=hk.mo
   exact⟨p,us,e,nw p _ hW m1,m2 H' (st.keep p _ m1 hW),hp.step (fun a vs na e2=>⟨nw a _ na e2,st.keep a _ e2 na⟩) (fun _ _ r=>ok.rep st r) fun _ _ r=>ok.reps st r⟩
theorem Ok.same(ok:Ok K G H0 W env σ H)(s:Same H H'):Ok K G H0 W env σ H':=by
 have st:Step W H W H':=Step.same s
 have bk:∀ {i:Nat} {sl:Sl} {v:V} {a:Addr},env[i]?=some (some sl)->σ[i]?=some (some v)->Owns H' sl v a->Owns H sl v a:=fun {i sl v a} e e1 o=>by
  obtain⟨v',e2,h⟩:=ok.slot i sl e
  rw[e1] at e2;cases e2
  exact h.back (fun l _ _ vs q=>s l _ q) o
 refine⟨ok.stay.trans s,ok.good,fun l h=>?_,fun i sl e=>?_,fun i j s1 s2 v1 v2 a e1 e2 e3 e4 o1 o2=>ok.uniq i j s1 s2 v1 v2 a e1 e2 e3 e4 (bk e1 e3 o1) (bk e2 e4 o2),ok.len⟩
 ·obtain⟨a,vs,b⟩:=ok.wl l h
  exact⟨a,vs,s _ _ b⟩
 ·obtain⟨v,e1,h⟩:=ok.slot i sl e
  exact⟨v,e1,ok.slstep st h fun a vs o e2=>⟨h.owns o,s _ _ e2⟩⟩
theorem zdx{o:HO}(h:H a=none):Same H (upd H a o):=fun b u e=>by rw[zal (zbn e h)];exact e
def addW(W:Addr->Prop)(l:Addr):Addr->Prop:=fun a=>W a\/a=l
theorem Ok.fresh(ok:Ok K G H0 W env σ H)(s:Same H H')(hl:H l=none)(hl':H' l=some (.lst vs))(r:Reps K H' (fun a=>(Ow G W a\/H a=none)/\a≠l) ds vs) :
  ¬W l/\H0 l=none/\Ok K G H0 (addW W l) env σ H'/\Reps K H' (Ow G (addW W l)) ds vs/\Step W H (addW W l) H':=by
 have n0:H0 l=none:=ok.stay.free hl
 have nW:¬W l:=fun z=>by obtain⟨_,vs,q⟩:=ok.wl l z;rw[hl] at q;cases q
 have st:Step W H (addW W l) H':=⟨fun b o e _=>s b o e,fun a z=>z.elim .inl fun q=>.inr (by rw[q];exact hl)⟩
 have wH:∀a,W a->H a≠none:=fun a z q=>by obtain⟨_,vs,e⟩:=ok.wl a z;rw[q] at e;cases e
 have ok':=ok.same s
 refine⟨nW,n0,⟨ok.stay.trans s,ok.good,fun a z=>?_,fun i sl e=>?_,ok'.uniq,ok.len⟩,r.mono (fun _ _ h=>h) fun a us o h=>⟨⟨?_,?_⟩,h⟩,st⟩
 ·rcases z with z | rfl
  ·obtain⟨q,us,b⟩:=ok.wl a z
   exact⟨q,us,s _ _ b⟩
  ·exact⟨n0,.l vs,hl'⟩
 ·obtain⟨v,e1,h⟩:=ok.slot i sl e
  exact⟨v,e1,ok.slstep st h fun a vs o e2=>⟨.inl (h.owns o),s _ _ e2⟩⟩
 ·rcases o.1 with q | q
  ·exact q.1
  ·exact ok.good a (ok.stay.free q)
 ·rintro(z | z)
  ·rcases o.1 with q | q
   ·exact q.2 z
   ·exact wH a z q
  ·exact o.2 z
theorem Ok.noOwn(ok:Ok K G H0 W env σ H)(nW:¬W l):∀(j:Nat) (s:Sl) (v:V),env[j]?=some (some s)->σ[j]?=some (some v)->¬Owns H s v l:=fun j s v e e1 o=>by
 obtain⟨v',e2,h⟩:=ok.slot j s e
 rw[e1] at e2;cases e2
 exact nW (h.owns o)
theorem zcr{α:Type}{xs:List α}{x y:α}(h:(xs.set i x)[j]?=some y):(i=j/\y=x/\i<xs.length)\/(i≠j/\xs[j]?=some y):=by
 by_cases hj:i=j
 ·subst hj
  by_cases hi:i<xs.length
  ·rw[List.getElem?_set_self hi] at h;cases h;exact .inl ⟨rfl,rfl,hi⟩
  ·rw[List.getElem?_eq_none (by rw[List.length_set];omega)] at h;cases h
 ·rw[List.getElem?_set_ne hj] at h;exact .inr ⟨hj,h⟩
theorem Ok.put(ok:Ok K G H0 W env σ H)(h:SlOk K G W H s v)(no:∀(j:Nat) (s':Sl) (v':V) (a:Addr),env[j]?=some (some s')->σ[j]?=some (some v')->Owns H s v a->¬Owns H s' v' a) :
  Ok K G H0 W (env.set i (some s)) (σ.set i (some v)) H:=by
 refine⟨ok.stay,ok.good,ok.wl,fun j sl e=>?_,fun j k s1 s2 v1 v2 a e1 e2 e3 e4 o1 o2=>?_,by rw[List.length_set,List.length_set,ok.len]⟩
 ·rcases zcr e with⟨rfl,q,hi⟩ | ⟨hj,q⟩
  ·cases q
   exact⟨v,List.getElem?_set_self (by rw[← ok.len];exact hi),h⟩
  ·obtain⟨u,e1,r⟩:=ok.slot j sl q
   exact⟨u,by rw[List.getElem?_set_ne hj];exact e1,r⟩
 ·rcases zcr e1 with⟨a1,b1,c1⟩ | ⟨a1,b1⟩ <;> rcases zcr e2 with⟨a2,b2,c2⟩ | ⟨a2,b2⟩
  ·rw[← a1,← a2]
  ·subst a1
   cases b1
   rw[List.getElem?_set_self (by rw[← ok.len];exact c1)] at e3;cases e3
   rw[List.getElem?_set_ne a2] at e4
   exact absurd o2 (no k s2 v2 a b2 e4 o1)
  ·subst a2
   cases b2
   rw[List.getElem?_set_self (by rw[← ok.len];exact c2)] at e4;cases e4
   rw[List.getElem?_set_ne a1] at e3
   exact absurd o1 (no j s1 v1 a b1 e3 o2)
  ·rw[List.getElem?_set_ne a1] at e3
   rw[List.getElem?_set_ne a2] at e4
   exact ok.uniq j k s1 s2 v1 v2 a b1 b2 e3 e4 o1 o2
theorem Ok.set(ok:Ok K G H0 W env σ H)(r:Rep K H (Ow G W) d v):Ok K G H0 W (env.set i (some (.sh d))) (σ.set i (some v)) H :=
 ok.put (s:=.sh d) r fun _ _ _ _ _ _ o=>o.elim
theorem Ok.setO(ok:Ok K G H0 W env σ H)(hW:W l)(hl:H l=some (.lst vs))(r:Reps K H (Ow G W) ds vs)(no:∀(j:Nat) (s:Sl) (v:V),env[j]?=some (some s)->σ[j]?=some (some v)->¬Owns H s v l) :
  Ok K G H0 W (env.set i (some (.ow ds))) (σ.set i (some (.ref l))) H :=
 ok.put (s:=.ow ds) ⟨l,vs,rfl,hW,hl,r⟩ fun j s' v' a e e1 o=>by
  have:l=a:=by have o:V.ref l=V.ref a:=o;simpa using o
  subst this
  exact no j s' v' e e1
theorem Ok.let(ok:Ok K G H0 W env σ H)(e:env[i]?=some (some s))(e1:σ[i]?=some (some v))(W':Addr->Prop)(hW:∀a,W' a↔W a/\¬Owns H s v a)(r:Rep K H (Ow G W') d v) :
  Step W H W' H/\Ok K G H0 W' (env.set i (some (.sh d))) σ H:=by
 have st:Step W H W' H:=⟨fun b o q _=>q,fun a z=>.inl ((hW a).mp z).1⟩
 have hi:i<env.length:=(List.getElem?_eq_some_iff.mp e).1
 refine⟨st,⟨ok.stay,ok.good,fun a z=>ok.wl a ((hW a).mp z).1,fun j sl q=>?_,fun j k s1 s2 v1 v2 a q1 q2 q3 q4 o1 o2=>?_,by rw[List.length_set,ok.len]⟩⟩
 ·rcases zcr q with⟨rfl,q',_⟩ | ⟨hj,q'⟩
  ·cases q'
   exact⟨v,e1,r⟩
  ·obtain⟨u,e2,h⟩:=ok.slot j sl q'
   exact⟨u,e2,ok.slstep st h fun a vs o q2=>⟨(hW a).mpr ⟨h.owns o,fun z=>hj (ok.uniq i j s sl v u a e q' e1 e2 z o)⟩,q2⟩⟩
 ·rcases zcr q1 with⟨_,b1,_⟩ | ⟨a1,b1⟩
  ·cases b1;exact o1.elim
  ·rcases zcr q2 with⟨_,b2,_⟩ | ⟨a2,b2⟩
   ·cases b2;exact o2.elim
   ·exact ok.uniq j k s1 s2 v1 v2 a b1 b2 q3 q4 o1 o2
theorem Ok.share(ok:Ok K G H0 W env σ H)(e:env[i]?=some (some (.ow ds))) :
  ∃W' v,σ[i]?=some (some v)/\Step W H W' H/\Ok K G H0 W' (env.set i (some (.sh (.lst ds)))) σ H/\Rep K H (Ow G W') (.lst ds) v:=by
 obtain⟨v,e1,l,vs,rfl,hW,hl,r⟩:=ok.slot i _ e
 have rp:Rep K H (Ow G fun a=>W a/\¬Owns H (.ow ds) (.ref l) a) (.lst ds) (.ref l) :=
  .lst ⟨ok.good l (ok.wl l hW).1,fun z=>z.2 rfl⟩ (.inl hl) (r.mono (fun _ _ h=>h) fun a us o h=>⟨⟨o.1,fun z=>o.2 z.1⟩,h⟩)
 obtain⟨st,ok'⟩:=ok.let e e1 _ (fun a=>Iff.rfl) rp
 exact⟨_,.ref l,e1,st,ok',rp⟩
theorem zfo:∀ {dss:List (List D)} {ls:List Addr},Inn K G W H dss ls->(∀a,a∈ls->W a->G a/\¬W' a)->(∀ds vs,Reps K H (Ow G W) ds vs->Reps K H (Ow G W') ds vs)->Reps K H (Ow G W') (dss.map D.lst) (ls.map V.ref)
 | [],[],_,_,_=>.nil
 | [],_::_,h,_,_=>by have:=h.1;cases this
 | _::_,[],h,_,_=>by have:=h.1;cases this
 | ds::dss,a::ls,h,g,r=>by
   obtain⟨hW,vs,ha,rp⟩:=h.2 0 ds a rfl rfl
   refine .cons (.lst (g a List.mem_cons_self hW) (.inl ha) (r _ _ rp)) (zfo (dss:=dss) (ls:=ls) ⟨Nat.succ.inj h.1,fun j ds' a' e1 e2=>h.2 (j+1) ds' a' (by simpa using e1) (by simpa using e2)⟩ (fun a' ha'=>g a' (List.mem_cons_of_mem _ ha')) r)
theorem Ok.share2(ok:Ok K G H0 W env σ H)(e:env[i]?=some (some (.o2 dss))) :
  ∃W' v,σ[i]?=some (some v)/\Step W H W' H/\Ok K G H0 W' (env.set i (some (.sh (.lst (dss.map D.lst))))) σ H/\Rep K H (Ow G W') (.lst (dss.map D.lst)) v:=by
 obtain⟨v,e1,l,ls,rfl,hW,hl,nd,hi⟩:=ok.slot i _ e
 have rp:Rep K H (Ow G fun a=>W a/\¬Owns H (.o2 dss) (.ref l) a) (.lst (dss.map D.lst)) (.ref l) :=
  .lst ⟨ok.good l (ok.wl l hW).1,fun z=>z.2 (.inl rfl)⟩ (.inl hl) (zfo hi (fun a ha wa=>⟨ok.good a (ok.wl a wa).1,fun z=>z.2 (.inr ⟨l,ls,rfl,hl,ha⟩)⟩) fun ds vs r=>r.mono (fun _ _ h=>h) fun a us o h=>⟨⟨o.1,fun z=>o.2 z.1⟩,h⟩)
 obtain⟨st,ok'⟩:=ok.let e e1 _ (fun a=>Iff.rfl) rp
 exact⟨_,.ref l,e1,st,ok',rp⟩
theorem Ok.chg(ok:Ok K G H0 W env σ H){s':Sl}(m':Mo)(e:env[i]?=some (some s))(e1:σ[i]?=some (some v))(ho:Owns H s v a)(hs:SlOk K G W (upd H a m'.out) s' v)(hb:∀b,Owns (upd H a m'.out) s' v b->Owns H s v b):Ok K G H0 W (env.set i (some s')) σ (upd H a m'.out)/\Step W H W (upd H a m'.out):=by
 have hWa:W a:=by obtain⟨v',e2,h⟩:=ok.slot i s e;rw[e1] at e2;cases e2;exact h.owns ho
 have st:Step W H W (upd H a m'.out):=⟨fun b o q n=>by rw[zal (fun z:b=a=>n (by rw[z];exact hWa))];exact q,fun b z=>.inl z⟩
 have ne:∀ {j:Nat} {sl:Sl} {u:V} {b:Addr},i≠j->env[j]?=some (some sl)->σ[j]?=some (some u)->Owns H sl u b->b≠a:=fun {j sl u b} hj q q1 o z=>by
  subst z
  exact hj (ok.uniq i j s sl v u b e q e1 q1 ho o)
 have bk:∀ {j:Nat} {sl:Sl} {u:V} {b:Addr},i≠j->env[j]?=some (some sl)->σ[j]?=some (some u)->Owns (upd H a m'.out) sl u b->Owns H sl u b:=fun {j sl u b} hj q q1 o=>by
  obtain⟨u',q2,h⟩:=ok.slot j sl q
  rw[q1] at q2;cases q2
  cases sl with
  | sh d=>exact o.elim
  | ow ds=>exact o
  | o2 dss=>exact h.back (fun l q3 _ vs q4=>by rw[zal (ne hj q q1 (.inl q3))];exact q4) o
  | ag k p ps=>exact h.back (fun l q3 _ vs q4=>by rw[zal (ne hj q q1 (.inl q3))];exact q4) o
  | al _ _=>exact o.elim
  | ro _ _=>exact o.elim
 refine⟨⟨fun b o q=>?_,ok.good,fun b z=>?_,fun j sl q=>?_,fun j k s1 s2 v1 v2 b q1 q2 q3 q4 o1 o2=>?_,by rw[List.length_set,ok.len]⟩,st⟩
 ·rw[zal (fun z=>by rw[z,(ok.wl a hWa).1] at q;cases q)];exact ok.stay b o q
 ·obtain⟨q,us,hb⟩:=ok.wl b z
  by_cases h:b=a
  ·exact⟨q,m',by rw[h,zbc]⟩
  ·exact⟨q,us,by rw[zal h];exact hb⟩
 ·rcases zcr q with⟨rfl,q',_⟩ | ⟨hj,q'⟩
  ·cases q'
   exact⟨v,e1,hs⟩
  ·obtain⟨u,e2,h⟩:=ok.slot j sl q'
   exact⟨u,e2,ok.slstep st h fun b vs o q2=>⟨h.owns o,by rw[zal (ne hj q' e2 o)];exact q2⟩⟩
 ·have back:∀ {m:Nat} {sl:Sl} {u:V},(env.set i (some s'))[m]?=some (some sl)->σ[m]?=some (some u)->Owns (upd H a m'.out) sl u b->∃sl',env[m]?=some (some sl')/\Owns H sl' u b:=fun {m sl u} q q1 o=>by
   rcases zcr q with⟨rfl,q',_⟩ | ⟨hj,q'⟩
   ·cases q'
    rw[e1] at q1;cases q1
    exact⟨s,e,hb b o⟩
   ·exact⟨sl,q',bk hj q' q1 o⟩
  obtain⟨t1,b1,c1⟩:=back q1 q3 o1
  obtain⟨t2,b2,c2⟩:=back q2 q4 o2
  exact ok.uniq j k t1 t2 v1 v2 b b1 b2 q3 q4 c1 c2
variable{ds':List D}{vs':List V}
theorem Ok.turn(ok:Ok K G H0 W env σ H)(e:env[i]?=some (some (.ow ds)))(e1:σ[i]?=some (some (.ref l)))(r:Reps K H (Ow G W) ds' vs') :
  Ok K G H0 W (env.set i (some (.ow ds'))) σ (upd H l (.lst vs'))/\Step W H W (upd H l (.lst vs')):=by
 obtain⟨v,e1',l',vs,rfl,hW,hl,_⟩:=ok.slot i _ e
 rw[e1] at e1';cases e1'
 have st:Step W H W (upd H l (.lst vs')):=⟨fun b o q n=>by rw[zal (fun z:b=l=>n (by rw[z];exact hW))];exact q,fun b z=>.inl z⟩
 exact ok.chg (.l vs') e e1 (show Owns H (.ow ds) (.ref l) l from rfl) ⟨l,vs',rfl,hW,zbc,ok.reps st r⟩ fun b o=>o
theorem PtsOk.get(h:PtsOk K G W H ps as us)(e:ps[j]?=some (.o ds)):∃a vs,us[j]?=some (.ref a)/\a∈as/\W a/\H a=some (.lst vs)/\Reps K H (Ow G W) ds vs:=by
 induction h generalizing j with
 | nil=>simp at e
 | d _ _ ih =>
   cases j with
   | zero=>simp at e
   | succ j=>obtain⟨a,vs,h1,h2⟩:=ih (j:=j) (by simpa using e);exact⟨a,vs,by simpa using h1,h2⟩
 | @o _ a vs _ _ _ hW hl r _ ih =>
   cases j with
   | zero=>simp at e;subst e;exact⟨a,vs,rfl,List.mem_cons_self,hW,hl,r⟩
   | succ j=>obtain⟨a,vs,h1,h2,h3⟩:=ih (j:=j) (by simpa using e);exact⟨a,vs,by simpa using h1,List.mem_cons_of_mem _ h2,h3⟩
theorem PtsOk.getD(h:PtsOk K G W H ps as us)(e:ps[j]?=some (.d d)):∃v,us[j]?=some v/\Rep K H (Ow G W) d v:=by
 induction h generalizing j with
 | nil=>simp at e
 | d q _ ih =>
   cases j with
   | zero=>simp at e;subst e;exact⟨_,rfl,q⟩
   | succ j=>obtain⟨a,h1,h2⟩:=ih (j:=j) (by simpa using e);exact⟨a,by simpa using h1,h2⟩
 | o _ _ _ _ ih =>
   cases j with
   | zero=>simp at e
   | succ j=>obtain⟨a,h1,h2⟩:=ih (j:=j) (by simpa using e);exact⟨a,by simpa using h1,h2⟩
theorem PtsOk.set(st:Step W H W (upd H a (.lst vs')))(ok:Ok K G H0 W env σ H)(h:PtsOk K G W H ps as us)(nd:as.Nodup)(e:ps[j]?=some (.o ds))(e2:us[j]?=some (.ref a))(r:Reps K H (Ow G W) ds' vs') :
  PtsOk K G W (upd H a (.lst vs')) (ps.set j (.o ds')) as us:=by
 induction h generalizing j with
 | nil=>simp at e
 | d q t ih =>
   cases j with
   | zero=>simp at e
   | succ j=>exact .d (ok.rep st q) (ih nd (by simpa using e) (by simpa using e2))
 | @o es b vs ps' as' us' hW hl q t ih =>
   cases j with
   | zero =>
     simp at e2;subst e2
     refine .o hW zbc (ok.reps st r) (t.step (fun b vs hb e2=>⟨(t.own hb).1,?_⟩) (fun _ _ r=>ok.rep st r) fun _ _ r=>ok.reps st r)
     rw[zal (fun z:b=_=>by subst z;exact(List.nodup_cons.mp nd).1 hb)];exact e2
   | succ j =>
     have e:ps'[j]?=some (.o ds):=by simpa using e
     have e2:us'[j]?=some (.ref a):=by simpa using e2
     have ha:a∈as':=t.parts_iff.mp ⟨j,ds,e,e2⟩
     have nb:b≠a:=fun z=>by subst z;exact(List.nodup_cons.mp nd).1 ha
     exact .o hW (by rw[zal nb];exact hl) (ok.reps st q) (ih (List.nodup_cons.mp nd).2 e e2)
structure At (X:Cx) (i:Nat) (x:Str):Prop where
 n:X.N[i]?=some x
 v:Vis X.env.scope x
 d:(x==("__debug__" : Str))=false
 c:(x==("__classdict__" : Str))=false
theorem At.pe(h:At X i x):PE X (.Name x pos) (tVar i):=zll h.n h.v h.d h.c
structure To (X:Cx) (i:Nat) (x:Str):Prop where
 nd:X.N.Nodup
 n:X.N[i]?=some x
 l:Loc X.env.scope x
 f:X.fn x=true\/X.env.scope.names.lookup x=some .local
structure Bn (X:Cx) (x:Str):Prop where
 g:Gl X x
 m:X.mg x=none
structure Ats (N cs:List Str) (X:Cx):Prop where
 n:X.N=N
 get:∀i x,N[i]?=some x->At X i x
 ck:∀u∈cs,X.env.kindOf u=some .cell\/X.env.kindOf u=some .free
structure Tos (N:List Str) (X:Cx):Prop where
 to:∀i x,N[i]?=some x->To X i x
variable{cs:List Str}
protected theorem Ats.a(h:Ats N cs X)(e:N[i]?=some x):At X i x:=h.get i x e
protected theorem Tos.t(h:Tos N X)(e:N[i]?=some x):To X i x:=h.to i x e
theorem Ats.nox(h:Ats N cs X):Ats N cs X.nox:=⟨h.n,fun i x e=>let z:=h.get i x e;⟨z.n,z.v,z.d,z.c⟩,h.ck⟩
theorem Tos.nox(h:Tos N X):Tos N X.nox:=⟨fun i x e=>let z:=h.to i x e;⟨z.nd,z.n,z.l,z.f⟩⟩
def okN(x:Str):Bool:=!(x==("__debug__" : Str)) && !(x==("__classdict__" : Str))
theorem zc6(h:okN x=true):(x==("__debug__" : Str))=false/\(x==("__classdict__" : Str))=false:=by
 unfold okN at h
 rwa [Bool.and_eq_true,Bool.not_eq_true',Bool.not_eq_true'] at h
theorem zen{o:Option NameKind}{k:NameKind}(h:(o==some k)=true):o=some k:=by
 cases o with
 | none=>cases h
 | some a=>cases a <;> cases k <;> first | rfl | cases h
def subN(N:List Str)(ix:List Nat):List Str:=ix.map fun i=>N.getD i ("" : Str)
def zg0(N cs:List Str)(ix:List Nat)(y:Str)(sc:Scope):Bool:=decide ((y::subN N ix).Nodup) && decide (sc.kind=.function) && (sc.names.lookup y==some .local) && decide (∀z∈sc.names,z.2≠.cell) && decide (∀z∈sc.names,z.2=.local->sc.names.lookup z.1=some .local) && decide (∀z∈sc.names,z.2=.free->z.1∈subN N ix) && (subN N ix).all (fun u=>(sc.names.lookup u==some .free) && cs.elem u) && (y::subN N ix).all okN
theorem gl_d(h:X.env.scope.names.lookup x=some .globalImplicit):Gl X x:=h
variable{s:Shared}{C:Addr}
theorem zmi(h:sc.names.lookup x=some .local):Vis (zak X y N' sc cl C s H fp).env.scope x:=.inl (lookup_relabel_local h)
theorem zmj(h:sc.names.lookup x=some .free):Vis (zak X y N' sc cl C s H fp).env.scope x:=.inr (zaq h)
theorem zkc(hA:Ats N cs X)(h:zg0 N cs ix y sc=true):zgy X y (subN N ix) ix sc:=by
 unfold zg0 at h
 simp only[Bool.and_eq_true,decide_eq_true_eq,List.all_eq_true] at h
 obtain⟨⟨⟨⟨⟨⟨⟨h1,h2⟩,h3⟩,h4⟩,h5⟩,h6⟩,h7⟩,_⟩:=h
 exact⟨by rw[hA.n];rfl,h1,h2,zen h3,h4,h5,fun z hz hf=>hA.ck z.1 (List.mem_of_elem_eq_true (h7 z.1 (h6 z hz hf)).2),fun u hu=>zen (h7 u hu).1⟩
variable{s₂:Shared}{H₂:Hp}
theorem zfp(h:zg0 N cs ix y sc=true):Ats (y::subN N ix) (subN N ix) (zak X y (subN N ix) sc cl C s₂ H₂ fp):=by
 unfold zg0 at h
 simp only[Bool.and_eq_true,decide_eq_true_eq,List.all_eq_true] at h
 obtain⟨⟨⟨⟨⟨⟨⟨h1,h2⟩,h3⟩,h4⟩,h5⟩,h6⟩,h7⟩,h8⟩:=h
 refine⟨rfl,fun i x e=>⟨e,?_,(zc6 (h8 x (List.mem_of_getElem? e))).1,(zc6 (h8 x (List.mem_of_getElem? e))).2⟩,fun u hu=>?_⟩
 ·rcases List.mem_cons.mp (List.mem_of_getElem? e) with rfl | hm
  ·exact zmi (zen h3)
  ·exact zmj (zen (h7 x hm).1)
 ·exact zaq (env:=X.env) (zen (h7 u hu).1)
abbrev FE:=DE0->Option (D×DE0)
abbrev FT:=DE0->Option (Bool×DE0)
abbrev FA:=DE0->Option (List D×DE0)
def tD(K:PySem.W.Frag)(G:Gd)(H0:Hp)(f:FE):TE:=fun σ H Q=>∃W env d env',Ok K G H0 W env σ H/\f env=some (d,env') /\
 ∀W' v H',Step W H W' H'->Ok K G H0 W' env' σ H'->Rep K H' (Ow G W') d v->Q v H'
def tDT(K:PySem.W.Frag)(G:Gd)(H0:Hp)(f:FT):TT:=fun σ H Q=>∃W env b env',Ok K G H0 W env σ H/\f env=some (b,env') /\
 ∀W' H',Step W H W' H'->Ok K G H0 W' env' σ H'->Q b H'
def tDA(K:PySem.W.Frag)(G:Gd)(H0:Hp)(f:FA):TA:=fun σ H Q=>∃W env ds env',Ok K G H0 W env σ H/\f env=some (ds,env') /\
 ∀W' vs H',Step W H W' H'->Ok K G H0 W' env' σ H'->Reps K H' (Ow G W') ds vs->Q vs H'
def tDF(K:PySem.W.Frag)(G:Gd)(H0:Hp)(f:FA):TE:=fun σ H Q=>∃W env ds env',Ok K G H0 W env σ H/\f env=some (ds,env') /\
 ∀W' l vs H',Step W H (addW W' l) H'->Ok K G H0 W' env' σ H'->Ok K G H0 (addW W' l) env' σ H'->¬W' l->H' l=some (.lst vs)->Reps K H' (Ow G (addW W' l)) ds vs->Q (.ref l) H'
structure DEx (X:Cx) (G:Gd) (H0:Hp) (e:Expr) (f:FE):Prop where
 out:PE X e (tD X.K G H0 f)
structure DTx (X:Cx) (G:Gd) (H0:Hp) (e:Expr) (f:FT):Prop where
 out:PT X e (tDT X.K G H0 f)
structure DAx (X:Cx) (G:Gd) (H0:Hp) (es:List Expr) (f:FA):Prop where
 out:PA X es (tDA X.K G H0 f)
structure DFx (X:Cx) (G:Gd) (H0:Hp) (e:Expr) (f:FA):Prop where
 out:PE X e (tDF X.K G H0 f)
variable{e:Expr}{t:TE}
theorem PE.imp{t':TE}(h:PE X e t)(i:∀σ H Q,t' σ H Q->t σ H Q):PE X e t':=fun pins s σ H Q I q=>h pins s σ H Q I (i σ H Q q)
theorem PT.imp{t t':TT}(h:PT X e t)(i:∀σ H Q,t' σ H Q->t σ H Q):PT X e t':=fun pins s σ H Q I q=>h pins s σ H Q I (i σ H Q q)
theorem PA.imp{e:List Expr}{t t':TA}(h:PA X e t)(i:∀σ H Q,t' σ H Q->t σ H Q):PA X e t':=fun pos pins s σ H Q I q=>h pos pins s σ H Q I (i σ H Q q)
@[simp] def fVar(i:Nat):FE:=fun e=>match e[i]? with
 | some (some (.sh d))=>some (d,e)
 | some (some (.ow ds))=>some (.lst ds,e.set i (some (.sh (.lst ds))))
 | some (some (.o2 dss))=>some (.lst (dss.map D.lst),e.set i (some (.sh (.lst (dss.map D.lst)))))
 | _=>none
@[simp] def fC(d:D):FE:=fun e=>some (d,e)
@[simp] def fBin(op:D->D->Option D)(f g:FE):FE:=fun e=>(f e).bind fun r=>(g r.2).bind fun q=>(op r.1 q.1).map fun d=>(d,q.2)
@[simp] def fUn(op:D->Option D)(f:FE):FE:=fun e=>(f e).bind fun r=>(op r.1).map fun d=>(d,r.2)
@[simp] def fAnd(f g:FT):FT:=fun e=>(f e).bind fun r=>if r.1=true then g r.2 else some (false,r.2)
@[simp] def fOr(f g:FT):FT:=fun e=>(f e).bind fun r=>if r.1=true then some (true,r.2) else g r.2
@[simp] def fNot(f:FT):FT:=fun e=>(f e).map fun r=>(!r.1,r.2)
@[simp] def fTst(f:FE):FT:=fun e=>(f e).bind fun r=>match r.1 with | .bl b=>some (b,r.2) | _=>none
@[simp] def zeo(f g:FE):FE:=fun e=>(f e).bind fun r=>match r.1 with | .bl true=>g r.2 | .bl false=>some (.bl false,r.2) | _=>none
@[simp] def zg1(f:FE):FE:=fun e=>(f e).bind fun r=>match r.1 with | .bl b=>some (.bl (!b),r.2) | _=>none
@[simp] def fNil:FA:=fun e=>some ([],e)
@[simp] def zad(f:FE)(g:FA):FA:=fun e=>(f e).bind fun r=>(g r.2).bind fun q=>some (r.1::q.1,q.2)
@[simp] def fTup(g:FA):FE:=fun e=>(g e).bind fun r=>if r.1.length<=64 then some (.tup r.1,r.2) else none
@[simp] def zax(g:FA):FA:=fun e=>(g e).bind fun r=>if r.1.length<=64 then some (r.1,r.2) else none
@[simp] def fLst(g:FA):FE:=fun e=>(g e).map fun r=>(.lst r.1,r.2)
@[simp] def za1:D->D->Option D | .int i,.int j=>some (.int (i+j)) | _,_=>none
@[simp] def dSub:D->D->Option D | .int i,.int j=>some (.int (i-j)) | _,_=>none
def zdy(i:Int):Prop:=-(2 ^ 64)<i/\i<2 ^ 64
noncomputable instance (i:Int):Decidable (zdy i):=Classical.propDecidable _
def Few(n:Nat):Prop:=n<=2 ^ 20
noncomputable instance (n:Nat):Decidable (Few n):=Classical.propDecidable _
def Bnd(lo hi i:Int):Prop:=lo<=i/\i<hi
noncomputable instance (lo hi i:Int):Decidable (Bnd lo hi i):=Classical.propDecidable _
def dMul:D->D->Option D | .int i,.int j=>if zdy i\/zdy j then some (.int (i*j)) else none | _,_=>none
def dMod:D->D->Option D | .int i,.int j=>if 0<j then some (.int (i % j)) else none | _,_=>none
def dDiv:D->D->Option D | .int i,.int j=>if Bnd 1 1073741824 j then some (.int (i / j)) else none | _,_=>none
@[simp] def dNeg:D->Option D | .int i=>some (.int (-i)) | _=>none
@[simp] def dLt:D->D->Option D | .int i,.int j=>some (.bl (decide (i<j))) | _,_=>none
@[simp] def dLe:D->D->Option D | .int i,.int j=>some (.bl (decide (i<=j))) | _,_=>none
@[simp] def dGt:D->D->Option D | .int i,.int j=>some (.bl (decide (j<i))) | _,_=>none
@[simp] def dEq:D->D->Option D
 | .int i,.int j=>some (.bl (decide (i=j))) | .str i,.str j=>some (.bl (decide (i=j))) | .bl i,.bl j=>some (.bl (decide (i=j))) | _,_=>none
@[simp] def dNe:D->D->Option D
 | .int i,.int j=>some (.bl (!decide (i=j))) | .str i,.str j=>some (.bl (!decide (i=j))) | .bl i,.bl j=>some (.bl (!decide (i=j))) | _,_=>none
@[simp] def dIx:D->D->Option D | .tup ds,.int i=>atI ds i | .lst ds,.int i=>atI ds i | _,_=>none
def OpD(X:Cx)(G:Gd)(H0:Hp)(r:R2)(op:D->D->Option D):Prop :=
 ∀W env σ H x y d1 d2 d (Q:VK),Ok X.K G H0 W env σ H->Rep X.K H (Ow G W) d1 x->Rep X.K H (Ow G W) d2 y->op d1 d2=some d ->
  (∀v H',Step W H W H'->Ok X.K G H0 W env σ H'->Rep X.K H' (Ow G W) d v->Q v H')->r x y H Q
variable{f g:FE}{r:R2}{op:D->D->Option D}
theorem zh9(ho:OpD X G H0 r op):∀σ H Q,tD X.K G H0 (fBin op f g) σ H Q->tOp r (tD X.K G H0 f) (tD X.K G H0 g) σ H Q:=by
 rintro σ H Q ⟨W,env,d,env',ok,e,k⟩
 cases e1:f env with
 | none=>simp[fBin,e1] at e
 | some r1 =>
   cases e2:g r1.2 with
   | none=>simp[fBin,e1,e2] at e
   | some r2 =>
     have e:(op r1.1 r2.1).map (fun d=>(d,r2.2))=some (d,env'):=by simpa[fBin,e1,e2] using e
     cases e3:op r1.1 r2.1 with
     | none=>rw[e3] at e;cases e
     | some d' =>
       rw[e3] at e
       have e4:(d',r2.2)=(d,env'):=Option.some.inj e
       cases e4
       refine⟨W,env,r1.1,r1.2,ok,e1,fun W1 v1 H1 s1 ok1 p1=>⟨W1,r1.2,r2.1,r2.2,ok1,e2,fun W2 v2 H2 s2 ok2 p2=>?_⟩⟩
       exact ho W2 _ σ H2 v1 v2 _ _ _ Q ok2 (ok1.rep s2 p1) p2 e3 fun v H3 s3 ok3 p3=>k W2 v H3 ((s1.trans s2).trans s3) ok3 p3
variable{a b:Expr}{p:D->D->Option D}
theorem zdl{op:Operator}(ho:OpR X (binaryOp op) r)(hd:OpD X G H0 r p)(ha:DEx X G H0 a f)(hb:DEx X G H0 b g):DEx X G H0 (.BinOp a op b pos) (fBin p f g) :=
 ⟨(zju ho ha.out hb.out).imp (zh9 hd)⟩
theorem zmk{op:CmpOp}(ho:OpR X (compareOp op) r)(hd:OpD X G H0 r p)(ha:DEx X G H0 a f)(hb:DEx X G H0 b g)(hm:behindInMarks op b=false):DEx X G H0 (.Compare a [op] [b] pos) (fBin p f g) :=
 ⟨(zjw ho ha.out hb.out hm).imp (zh9 hd)⟩
theorem zml(hr:IxR X r)(hd:OpD X G H0 r p)(ha:DEx X G H0 a f)(hb:DEx X G H0 b g)(hs:zdu b):DEx X G H0 (.Subscript a b pos) (fBin p f g) :=
 ⟨(zmc hr ha.out hb.out hs).imp (zh9 hd)⟩
theorem zmm(h:∀σ H Q,tD X.K G H0 f σ H Q->t σ H Q):∀σ H Q,tDT X.K G H0 (fTst f) σ H Q->zl6 t σ H Q:=by
 rintro σ H Q ⟨W,env,b,env',ok,e,k⟩
 refine h σ H _ ?_
 cases e1:f env with
 | none=>simp[fTst,e1] at e
 | some r1 =>
   obtain⟨d,env1⟩:=r1
   cases d with
   | bl b' =>
     have e:some (b',env1)=some (b,env'):=by simpa[fTst,e1] using e
     cases e
     exact⟨W,env,_,_,ok,e1,fun W1 v1 H1 s1 ok1 p1=>⟨_,p1.bl_,k W1 H1 s1 ok1⟩⟩
   | _=>simp[fTst,e1] at e
theorem zep{op:CmpOp}(ho:OpR X (compareOp op) r)(hd:OpD X G H0 r p)(ha:DEx X G H0 a f)(hb:DEx X G H0 b g)(hm:behindInMarks op b=false):DTx X G H0 (.Compare a [op] [b] pos) (fTst (fBin p f g)) :=
 ⟨(zjx ho ha.out hb.out hm).imp (zmm (zh9 hd))⟩
variable{g:Int->Int->Int}
theorem od_I{C:Int->Int->Prop}(h:∀d1 d2 d,op d1 d2=some d->∃i j,d1=.int i/\d2=.int j/\C i j/\d=.int (g i j)):OpD X G H0 (rI C fun i j=>.int (g i j)) op:=by
 intro W env σ H x y d1 d2 d Q ok p1 p2 e k
 obtain⟨i,j,rfl,rfl,hc,rfl⟩:=h _ _ _ e
 exact⟨i,j,p1.int_,p2.int_,hc,k _ H Step.refl ok (.int _)⟩
theorem zmn(h:∀d1 d2 d,op d1 d2=some d->∃i j,d1=.int i/\d2=.int j/\d=.int (g i j)):OpD X G H0 (rI0 fun i j=>.int (g i j)) op:=by
 intro W env σ H x y d1 d2 d Q ok p1 p2 e k
 obtain⟨i,j,rfl,rfl,rfl⟩:=h _ _ _ e
 exact⟨i,j,p1.int_,p2.int_,k _ H Step.refl ok (.int _)⟩
variable{g:FE}
theorem zkd{g:Int->Int->Bool}(h:∀d1 d2 d,op d1 d2=some d->∃i j,d1=.int i/\d2=.int j/\d=.bl (g i j)):OpD X G H0 (rI0 fun i j=>.bl (g i j)) op:=by
 intro W env σ H x y d1 d2 d Q ok p1 p2 e k
 obtain⟨i,j,rfl,rfl,rfl⟩:=h _ _ _ e
 exact⟨i,j,p1.int_,p2.int_,k _ H Step.refl ok (.bl _)⟩
theorem zmo:OpD X G H0 (rI0 fun i j=>.int (i+j)) za1:=zmn fun d1 d2 d e=>by
 cases d1 <;> cases d2 <;> first | (cases e;done) | exact⟨_,_,rfl,rfl,(Option.some.inj e).symm⟩
theorem zmp:OpD X G H0 (rI0 fun i j=>.int (i-j)) dSub:=zmn fun d1 d2 d e=>by
 cases d1 <;> cases d2 <;> first | (cases e;done) | exact⟨_,_,rfl,rfl,(Option.some.inj e).symm⟩
theorem zmq:OpD X G H0 (rI CMul fun i j=>.int (i*j)) dMul:=od_I fun d1 d2 d e=>by
 cases d1 <;> cases d2 <;> first
  | (cases e;done)
  | (rename_i i j
     by_cases h:zdy i\/zdy j
     ·simp only[dMul,if_pos h] at e;exact⟨_,_,rfl,rfl,h,(Option.some.inj e).symm⟩
     ·simp only[dMul,if_neg h] at e;cases e)
theorem zmr:OpD X G H0 (rI (fun _ j=>0<j) fun i j=>.int (i % j)) dMod:=od_I fun d1 d2 d e=>by
 cases d1 <;> cases d2 <;> first
  | (cases e;done)
  | (rename_i i j
     by_cases h:0<j
     ·simp only[dMod,if_pos h] at e;exact⟨_,_,rfl,rfl,h,(Option.some.inj e).symm⟩
     ·simp only[dMod,if_neg h] at e;cases e)
theorem zms:OpD X G H0 (rI CDiv fun i j=>.int (i / j)) dDiv:=od_I fun d1 d2 d e=>by
 cases d1 <;> cases d2 <;> first
  | (cases e;done)
  | (rename_i i j
     by_cases h:Bnd 1 1073741824 j
     ·simp only[dDiv,if_pos h] at e;exact⟨_,_,rfl,rfl,⟨by have:=h.1;omega,h.2⟩,(Option.some.inj e).symm⟩
     ·simp only[dDiv,if_neg h] at e;cases e)
theorem zoc:OpD X G H0 (rI0 fun i j=>.bl (decide (i<j))) dLt:=zkd fun d1 d2 d e=>by
 cases d1 <;> cases d2 <;> first | (cases e;done) | exact⟨_,_,rfl,rfl,(Option.some.inj e).symm⟩
theorem zod:OpD X G H0 (rI0 fun i j=>.bl (decide (i<=j))) dLe:=zkd fun d1 d2 d e=>by
 cases d1 <;> cases d2 <;> first | (cases e;done) | exact⟨_,_,rfl,rfl,(Option.some.inj e).symm⟩
theorem zoe:OpD X G H0 (rI0 fun i j=>.bl (decide (j<i))) dGt:=zkd fun d1 d2 d e=>by
 cases d1 <;> cases d2 <;> first | (cases e;done) | exact⟨_,_,rfl,rfl,(Option.some.inj e).symm⟩
theorem zi9(i j:Int):decide (V.int i=V.int j)=decide (i=j):=by simp
theorem zja(i j:Str):decide (V.str i=V.str j)=decide (i=j):=by simp
theorem zmt(i j:Bool):decide (V.bl i=V.bl j)=decide (i=j):=by simp
theorem zmu:OpD X G H0 rEq dEq:=by
 intro W env σ H x y d1 d2 d Q ok p1 p2 e k
 cases d1 <;> cases d2 <;> first
  | (cases e;done)
  | (cases e;cases p1;cases p2
     refine⟨rfl,?_⟩
     first
      | (rw[zi9];exact k _ H Step.refl ok (.bl _))
      | (rw[zja];exact k _ H Step.refl ok (.bl _))
      | (rw[zmt];exact k _ H Step.refl ok (.bl _)))
theorem zof:OpD X G H0 rNe dNe:=by
 intro W env σ H x y d1 d2 d Q ok p1 p2 e k
 cases d1 <;> cases d2 <;> first
  | (cases e;done)
  | (cases e;cases p1;cases p2
     refine⟨rfl,?_⟩
     first
      | (rw[zi9];exact k _ H Step.refl ok (.bl _))
      | (rw[zja];exact k _ H Step.refl ok (.bl _))
      | (rw[zmt];exact k _ H Step.refl ok (.bl _)))
theorem zc7{i:Int}(r:Reps K H O ds vs)(h:atI ds i=some d):∃v,atI vs i=some v/\Rep K H O d v:=by
 unfold atI at h ⊢
 rw[← r.length]
 cases q:ixN ds.length i with
 | none=>rw[q] at h;cases h
 | some j=>rw[q] at h;exact r.get h
theorem zog:OpD X G H0 (rIx X.K) dIx:=by
 intro W env σ H x y d1 d2 d Q ok p1 p2 e k
 cases d1 <;> first
  | (cases e;done)
  | (cases d2 <;> first
      | (cases e;done)
      | (cases p2
         first
          | (obtain⟨a, vs, rfl, h, r⟩ := p1.tup_
             obtain⟨v,e1,r1⟩:=zc7 r e
             exact .inr (.inl ⟨a,vs,_,v,rfl,rfl,SqT.of h,e1,k _ H Step.refl ok r1⟩))
          | (obtain⟨a, vs, rfl, h, r⟩ := p1.lst_
             obtain⟨v,e1,r1⟩:=zc7 r e
             exact .inl ⟨a,vs,_,v,rfl,rfl,h.sq,e1,k _ H Step.refl ok r1⟩)))
theorem zbr(ha:DEx X G H0 a f)(hb:DEx X G H0 b g):DEx X G H0 (.BinOp a .Add b pos) (fBin za1 f g):=zdl zlz zmo ha hb
theorem zeq(ha:DEx X G H0 a f)(hb:DEx X G H0 b g):DEx X G H0 (.BinOp a .Sub b pos) (fBin dSub f g):=zdl zl0 zmp ha hb
theorem zg2(ha:DEx X G H0 a f)(hb:DEx X G H0 b g):DEx X G H0 (.BinOp a .Mult b pos) (fBin dMul f g):=zdl zl1 zmq ha hb
theorem zbe(ha:DEx X G H0 a f)(hb:DEx X G H0 b g):DEx X G H0 (.BinOp a .Mod b pos) (fBin dMod f g):=zdl zl2 zmr ha hb
theorem zer(ha:DEx X G H0 a f)(hb:DEx X G H0 b g):DEx X G H0 (.BinOp a .FloorDiv b pos) (fBin dDiv f g):=zdl zjv zms ha hb
theorem zoh(ha:DEx X G H0 a f)(hb:DEx X G H0 b g):DEx X G H0 (.Compare a [.Eq] [b] pos) (fBin dEq f g):=zmk zl5 zmu ha hb (zdj _)
theorem zg3(ha:DEx X G H0 a f)(hb:DEx X G H0 b g):DTx X G H0 (.Compare a [.Lt] [b] pos) (fTst (fBin dLt f g)):=zep zn3 zoc ha hb (zdj _)
theorem zmv(ha:DEx X G H0 a f)(hb:DEx X G H0 b g):DTx X G H0 (.Compare a [.LtE] [b] pos) (fTst (fBin dLe f g)):=zep zn4 zod ha hb (zdj _)
theorem zke(ha:DEx X G H0 a f)(hb:DEx X G H0 b g):DTx X G H0 (.Compare a [.Gt] [b] pos) (fTst (fBin dGt f g)):=zep zn5 zoe ha hb (zdj _)
theorem zia(ha:DEx X G H0 a f)(hb:DEx X G H0 b g):DTx X G H0 (.Compare a [.Eq] [b] pos) (fTst (fBin dEq f g)):=zep zl5 zmu ha hb (zdj _)
theorem zkf(ha:DEx X G H0 a f)(hb:DEx X G H0 b g):DTx X G H0 (.Compare a [.NotEq] [b] pos) (fTst (fBin dNe f g)):=zep zn2 zof ha hb (zdj _)
theorem zf8(ha:DEx X G H0 a f)(hb:DEx X G H0 b g)(hs:zdu b:=by intro _ _;rfl):DEx X G H0 (.Subscript a b pos) (fBin dIx f g):=zml zi7 zog ha hb hs
theorem zab{Nn Cn:List Str}(an:Ats Nn Cn X)(hno:Nn[i]?=some x:=by rfl):DEx X G H0 (.Name x pos) (fVar i):=⟨((an.a hno).pe).imp fun σ H Q ⟨W,env,d,env',ok,e,k⟩=>by
 unfold fVar at e
 cases q:env[i]? with
 | none=>rw[q] at e;cases e
 | some o =>
   cases o with
   | none=>rw[q] at e;cases e
   | some sl =>
     cases sl with
     | sh d' =>
       rw[q] at e;cases e
       obtain⟨v,e1,r⟩:=ok.slot i _ q
       exact⟨v,e1,k W v H Step.refl ok r⟩
     | ow ds =>
       rw[q] at e;cases e
       obtain⟨W',v,e1,st,ok',r⟩:=ok.share q
       exact⟨v,e1,k W' v H st ok' r⟩
     | o2 dss =>
       rw[q] at e;cases e
       obtain⟨W',v,e1,st,ok',r⟩:=ok.share2 q
       exact⟨v,e1,k W' v H st ok' r⟩
     | ag _ _ _=>rw[q] at e;cases e
     | al _ _=>rw[q] at e;cases e
     | ro _ _=>rw[q] at e;cases e⟩
theorem de_c(h:PE X e (tC v))(r:∀H O,Rep X.K H O d v):DEx X G H0 e (fC d):=⟨h.imp fun σ H Q ⟨W,env,d',env',ok,q,k⟩=>by
 cases q
 exact k W v H Step.refl ok (r _ _)⟩
theorem zaf{i:Int}:DEx X G H0 (.Constant (.int i) j pos) (fC (.int i)):=de_c zlm fun _ _=>.int _
theorem zdh{i:Bool}:DEx X G H0 (.Constant (.bool i) j pos) (fC (.bl i)):=de_c zns fun _ _=>.bl _
theorem za9{i:Str}:DEx X G H0 (.Constant (.str i) j pos) (fC (.str i)):=de_c zi2 fun _ _=>.str _
theorem zg4(ha:DEx X G H0 a f):DEx X G H0 (.UnaryOp .USub a pos) (fUn dNeg f):=⟨(zn1 zl4 ha.out).imp fun σ H Q ⟨W,env,d',env',ok,q,k⟩=>by
 cases e1:f env with
 | none=>simp[fUn,e1] at q
 | some r =>
   obtain⟨d,env1⟩:=r
   cases d with
   | int i =>
     have q:some (D.int (-i),env1)=some (d',env'):=by simpa[fUn,e1,dNeg] using q
     cases q
     exact⟨W,env,_,_,ok,e1,fun W1 v1 H1 s1 ok1 p1=>⟨i,p1.int_,k W1 _ H1 s1 ok1 (.int _)⟩⟩
   | _=>simp[fUn,e1,dNeg] at q⟩
section
variable {X:Cx} {G:Gd} {H0:Hp} {a b c e:Expr} {es rest:List Expr} {f g:FE} {F:FA} {p q:FT} {pos:Pos}
structure DWx (X:Cx) (G:Gd) (H0:Hp) (e:Expr) (f:FT):Prop where
 out:PW X e (tDT X.K G H0 f)
theorem PW.imp{X:Cx}{e:Expr}{t t':TT}(h:PW X e t)(i:∀σ H Q,t' σ H Q->t σ H Q):PW X e t':=fun w pins s σ H Q I q=>h w pins s σ H Q I (i σ H Q q)
theorem dt_w(h:DWx X G H0 e p):DTx X G H0 e p:=⟨PW.pt h.out⟩
theorem zc8(h:DTx X G H0 a p):DWx X G H0 (.BoolOp .And [a] pos) p:=⟨zjo h.out⟩
theorem zfq(h:DTx X G H0 a p):DWx X G H0 (.BoolOp .Or [a] pos) p:=⟨zlo h.out⟩
theorem zes(h:DTx X G H0 a p)(h2:DWx X G H0 (.BoolOp .And (b::rest) pos) q):DWx X G H0 (.BoolOp .And (a::b::rest) pos) (fAnd p q):=⟨(zlp h.out h2.out).imp fun σ H Q ⟨W,env,d,env',ok,e,k⟩=>by
 cases e1:p env with
 | none=>simp[fAnd,e1] at e
 | some r =>
   obtain⟨t,env1⟩:=r
   refine⟨W,env,t,env1,ok,e1,fun W1 H1 s1 ok1=>?_⟩
   cases t with
   | true =>
     rw[if_pos rfl]
     exact⟨W1,env1,d,env',ok1,by simpa[fAnd,e1] using e,fun W2 H2 s2 ok2=>k W2 H2 (s1.trans s2) ok2⟩
   | false =>
     rw[if_neg Bool.false_ne_true]
     have e:some (false,env1)=some (d,env'):=by simpa[fAnd,e1] using e
     cases e
     exact k W1 H1 s1 ok1⟩
theorem zib(h:DTx X G H0 a p)(h2:DWx X G H0 (.BoolOp .Or (b::rest) pos) q):DWx X G H0 (.BoolOp .Or (a::b::rest) pos) (fOr p q):=⟨(znt h.out h2.out).imp fun σ H Q ⟨W,env,d,env',ok,e,k⟩=>by
 cases e1:p env with
 | none=>simp[fOr,e1] at e
 | some r =>
   obtain⟨t,env1⟩:=r
   refine⟨W,env,t,env1,ok,e1,fun W1 H1 s1 ok1=>?_⟩
   cases t with
   | false =>
     rw[if_neg Bool.false_ne_true]
     exact⟨W1,env1,d,env',ok1,by simpa[fOr,e1] using e,fun W2 H2 s2 ok2=>k W2 H2 (s1.trans s2) ok2⟩
   | true =>
     rw[if_pos rfl]
     have e:some (true,env1)=some (d,env'):=by simpa[fOr,e1] using e
     cases e
     exact k W1 H1 s1 ok1⟩
theorem zcs(h:DTx X G H0 a p):DTx X G H0 (.UnaryOp .Not a pos) (fNot p):=⟨(zlq h.out).imp fun σ H Q ⟨W,env,d,env',ok,e,k⟩=>by
 cases e1:p env with
 | none=>simp[fNot,e1] at e
 | some r =>
   have e:some (!r.1,r.2)=some (d,env'):=by simpa[fNot,e1] using e
   cases e
   exact⟨W,env,_,_,ok,e1,fun W1 H1 s1 ok1=>k W1 H1 s1 ok1⟩⟩
theorem zb5(h:DEx X G H0 a f)(he:∀whole,isTrue a X.env whole=(do let v ← whole;standAt a.pos;holding [v] (truthy v)):=by intro _;rfl):DTx X G H0 a (fTst f):=⟨(zln h.out he).imp (zmm fun _ _ _ z=>z)⟩
theorem zjb{op:BoolOp}(h:DEx X G H0 a f):DEx X G H0 (.BoolOp op [a] pos) f:=⟨zlr h.out⟩
theorem zjc(h:DEx X G H0 a f)(h2:DEx X G H0 (.BoolOp .And (b::rest) pos) g):DEx X G H0 (.BoolOp .And (a::b::rest) pos) (zeo f g):=⟨(zls h.out h2.out).imp fun σ H Q ⟨W,env,d,env',ok,e,k⟩=>by
 cases e1:f env with
 | none=>simp[zeo,e1] at e
 | some r =>
   obtain⟨t,env1⟩:=r
   refine⟨W,env,t,env1,ok,e1,fun W1 v1 H1 s1 ok1 p1=>?_⟩
   cases t with
   | bl t =>
     refine⟨t,p1.bl_,?_⟩
     cases t with
     | true =>
       rw[if_pos rfl]
       exact⟨W1,env1,d,env',ok1,by simpa[zeo,e1] using e,fun W2 v2 H2 s2 ok2 p2=>k W2 v2 H2 (s1.trans s2) ok2 p2⟩
     | false =>
       rw[if_neg Bool.false_ne_true]
       have e:some (D.bl false,env1)=some (d,env'):=by simpa[zeo,e1] using e
       cases e
       exact k W1 _ H1 s1 ok1 (.bl _)
   | _=>simp[zeo,e1] at e⟩
theorem zmw(h:DEx X G H0 a f):DEx X G H0 (.UnaryOp .Not a pos) (zg1 f):=⟨(zlt h.out).imp fun σ H Q ⟨W,env,d,env',ok,e,k⟩=>by
 cases e1:f env with
 | none=>simp[zg1,e1] at e
 | some r =>
   obtain⟨t,env1⟩:=r
   refine⟨W,env,t,env1,ok,e1,fun W1 v1 H1 s1 ok1 p1=>?_⟩
   cases t with
   | bl t =>
     have e:some (D.bl (!t),env1)=some (d,env'):=by simpa[zg1,e1] using e
     cases e
     exact⟨t,p1.bl_,k W1 _ H1 s1 ok1 (.bl _)⟩
   | _=>simp[zg1,e1] at e⟩
theorem zag  : DAx X G H0 [] fNil:=⟨zc4.imp fun σ H Q ⟨W,env,ds,env',ok,e,k⟩=>by
 cases e
 exact k W [] H Step.refl ok .nil⟩
theorem zaa(ha:DEx X G H0 e f)(hr:DAx X G H0 es F)(hs:starEach (e::es) X.env=(false,eval e X.env)::starEach es X.env:=by rfl):DAx X G H0 (e::es) (zad f F):=⟨(zbz ha.out hr.out hs).imp fun σ H Q ⟨W,env,ds,env',ok,q,k⟩=>by
 cases e1:f env with
 | none=>simp[zad,e1] at q
 | some r =>
   obtain⟨d,env1⟩:=r
   cases e2:F env1 with
   | none=>simp[zad,e1,e2] at q
   | some r2 =>
     have q:some (d::r2.1,r2.2)=some (ds,env'):=by simpa[zad,e1,e2] using q
     cases q
     exact⟨W,env,d,env1,ok,e1,fun W1 v1 H1 s1 ok1 p1=>⟨W1,env1,_,_,ok1,e2,fun W2 vs H2 s2 ok2 p2=>k W2 _ H2 (s1.trans s2) ok2 (.cons (ok1.rep s2 p1) p2)⟩⟩⟩
theorem le64{n:Nat}(h:n<=64):n<=sizeLine:=Nat.le_trans h (by rw[sizeLine_eq];decide)
theorem zg5{k1}(h:DAx X G H0 es F):DEx X G H0 (.Tuple es k1 pos) (fTup F):=⟨(zl7 h.out).imp fun σ H Q ⟨W,env,d,env',ok,q,k⟩=>by
 cases e1:F env with
 | none=>simp[fTup,e1] at q
 | some r =>
   obtain⟨ds,env1⟩:=r
   by_cases hl:ds.length<=64
   ·have q:some (D.tup ds,env1)=some (d,env'):=by simpa[fTup,e1,hl] using q
    cases q
    refine⟨W,env,ds,_,ok,e1,fun W1 vs H1 s1 ok1 p1=>⟨by rw[← p1.length];exact le64 hl,fun l hn=>?_⟩⟩
    have sm:Same H1 (upd H1 l (.tup vs)):=zdx hn
    have st:Step W1 H1 W1 (upd H1 l (.tup vs)):=Step.same sm
    exact k W1 _ _ (s1.trans st) (ok1.same sm) (.tup zbc (ok1.reps st p1))
   ·simp[fTup,e1,hl] at q⟩
theorem zc9{W:Addr->Prop}{env:DE0}{σ:St}{H:Hp}{l:Addr}{vs:List V}{ds:List D}(ok:Ok X.K G H0 W env σ H)(r:Reps X.K H (Ow G W) ds vs)(hn:H l=none) :
  Step W H (addW W l) (upd H l (.lst vs))/\Ok X.K G H0 W env σ (upd H l (.lst vs))/\Ok X.K G H0 (addW W l) env σ (upd H l (.lst vs))/\¬W l/\upd H l (.lst vs) l=some (.lst vs)/\Reps X.K (upd H l (.lst vs)) (Ow G (addW W l)) ds vs:=by
 have sm:Same H (upd H l (.lst vs)):=zdx hn
 obtain⟨h1,h2,h3,h4,h5⟩:=ok.fresh (l:=l) (vs:=vs) (ds:=ds) sm hn zbc ((r.mono (O':=fun a=>(Ow G W a\/H a=none)/\a≠l) (fun _ _ h=>sm _ _ h) fun a us o h=>⟨⟨.inl o,fun z=>by
  subst z
  have h2:Rd H a (.lst us):=h
  rcases h2 with h2 | ⟨_,h2⟩ <;> rw[hn] at h2 <;> cases h2⟩,h.keep fun o e=>sm _ o e⟩))
 exact⟨h5,ok.same sm,h3,h1,zbc,h4⟩
theorem zba(h:DAx X G H0 es F):DFx X G H0 (.List es pos) (zax F):=⟨(zl8 h.out).imp fun σ H Q ⟨W,env,d,env',ok,q,k⟩=>by
 cases e1:F env with
 | none=>simp[zax,e1] at q
 | some r =>
   obtain⟨ds,env1⟩:=r
   by_cases hl:ds.length<=64
   ·have q:some (ds,env1)=some (d,env'):=by simpa[zax,e1,hl] using q
    cases q
    refine⟨W,env,_,_,ok,e1,fun W1 vs H1 s1 ok1 p1=>⟨by rw[← p1.length];exact le64 hl,fun l hn=>?_⟩⟩
    obtain⟨h1,h2,h3,h4,h5,h6⟩:=zc9 ok1 p1 hn
    exact k W1 l vs _ (s1.trans h1) h2 h3 h4 h5 h6
   ·simp[zax,e1,hl] at q⟩
theorem za7(h:DFx X G H0 e F):DEx X G H0 e (fLst F):=⟨h.out.imp fun σ H Q ⟨W,env,d,env',ok,q,k⟩=>by
 cases e1:F env with
 | none=>simp[fLst,e1] at q
 | some r =>
   have q:some (D.lst r.1,r.2)=some (d,env'):=by simpa[fLst,e1] using q
   cases q
   refine⟨W,env,_,_,ok,e1,fun W1 l vs H1 s1 ok1 ok2 nW hl rp=>k W1 _ H1 ⟨s1.keep,fun a z=>s1.ws a (.inl z)⟩ ok1 (.lst ⟨ok1.good l (ok2.wl l (.inr rfl)).1,nW⟩ (.inl hl) (rp.mono (fun _ _ h=>h) fun a us o h=>⟨⟨o.1,fun z=>o.2 (.inl z)⟩,h⟩))⟩⟩
def Cal(P:Program)(w:World)(K:PySem.W.Frag)(mg:Str->Option Value)(base:Heap)(CX:CXT)(x:Str)(k:Nat)(sp:Sp):Prop :=
 ∃fa fd ps,FnOk P w K mg base CX k fa fd ps sp/\mg x=some (.ref fa)/\PySem.W.keepIn K (.ref fa)=true/\Binds K fd ps []/\(x==("__debug__" : Str))=false
def dSp(K:PySem.W.Frag)(m:List D->Option D):Sp:=fun vs H Q _=>∃O ds d,Reps K H O ds vs/\m ds=some d/\∀v H',Same H H'->Rep K H' (fun a=>O a\/H a=none) d v->Q v H'
@[simp] def zar(m:List D->Option D)(F:FA):FE:=fun e=>(F e).bind fun r=>(m r.1).map fun d=>(d,r.2)
@[simp] def zau(m:List D->Option (List D))(F:FA):FA:=fun e=>(F e).bind fun r=>(m r.1).map fun d=>(d,r.2)
theorem zmx{m:List D->Option D}{E:XK}:∀σ H Q,tD X.K G H0 (zar m F) σ H Q->zl9 (dSp X.K m) [] E (tDA X.K G H0 F) σ H Q:=fun σ H Q ⟨W,env,d,env',ok,q,k⟩=>by
 cases e1:F env with
 | none=>simp[zar,e1] at q
 | some r =>
   obtain⟨ds,env1⟩:=r
   cases e2:m ds with
   | none=>simp[zar,e1,e2] at q
   | some d' =>
     have q:some (d',env1)=some (d,env'):=by simpa[zar,e1,e2] using q
     cases q
     refine⟨W,env,ds,_,ok,e1,fun W1 vs H1 s1 ok1 p1=>?_⟩
     show dSp X.K m (vs++[]) H1 Q E
     rw[List.append_nil]
     refine⟨Ow G W1,ds,_,p1,e2,fun v H2 sm r2=>?_⟩
     refine k W1 v H2 (s1.trans (Step.same sm)) (ok1.same sm) (r2.mono (fun _ _ h=>h) fun a us o h=>⟨?_,h⟩)
     rcases o with o | o
     ·exact o
     ·exact⟨ok1.good a (ok1.stay.free o),fun z=>by obtain⟨_,us,q⟩:=ok1.wl a z;rw[o] at q;cases q⟩
variable {CX:CXT} {k:Nat} {fa:Addr} {fd:FuncData} {ps:List Str} {m:List D->Option D} {mF:List D->Option (List D)} {x:Str} {p':Pos} {E:XK}
theorem zbi{jr:Nat}(c:Cal X.prog X.w X.K X.mg X.base CX0 x k (dSp X.K m))(rm:Room jr X.A)(ha:DAx X G H0 (e::es) F)(hkj:k<=jr:=by decide)(hg:Gl X x:=by walk_at "g")(he:starEach (e::es) X.env=(false,eval e X.env)::starEach es X.env:=by rfl)(hpl:(backTo pos (starEach es X.env)).any (·.1)=false:=by rfl) :
  DEx X G H0 (.Call (.Name x p') (e::es) [] pos) (zar m F):=let ⟨_,_,_,Fn,hm,hk,hb,hdb⟩:=c;⟨(zj0 Fn (rm.mono hkj) hg hm hk hb .nil zn9 ha.out hdb he hpl).imp zmx⟩
end
section
variable {X:Cx} {G:Gd} {H0:Hp} {a b c e:Expr} {es rest:List Expr} {f g:FE} {F:FA} {p q:FT} {pos p':Pos} {x:Str}
def zf9(X:Cx)(G:Gd)(H0:Hp)(r:List V->Hp->VK->Prop)(op:List D->Option D):Prop :=
 ∀W env σ H vs ds d (Q:VK),Ok X.K G H0 W env σ H->Reps X.K H (Ow G W) ds vs->op ds=some d ->
  (∀v H',Step W H W H'->Ok X.K G H0 W env σ H'->Rep X.K H' (Ow G W) d v->Q v H')->r vs H Q
def zg6(X:Cx)(G:Gd)(H0:Hp)(r:List V->Hp->VK->Prop)(op:List D->Option (List D)):Prop :=
 ∀W env σ H vs ds rs (Q:VK),Ok X.K G H0 W env σ H->Reps X.K H (Ow G W) ds vs->op ds=some rs ->
  (∀l us H',Step W H (addW W l) H'->Ok X.K G H0 W env σ H'->Ok X.K G H0 (addW W l) env σ H'->¬W l->H' l=some (.lst us)->Reps X.K H' (Ow G (addW W l)) rs us->Q (.ref l) H')->r vs H Q
theorem zmy{r:List V->Hp->VK->Prop}{op:List D->Option D}(hd:zf9 X G H0 r op):∀σ H Q,tD X.K G H0 (zar op F) σ H Q->tCB r (tDA X.K G H0 F) σ H Q:=fun σ H Q ⟨W,env,d,env',ok,q,k⟩=>by
 cases e1:F env with
 | none=>simp[zar,e1] at q
 | some z =>
   obtain⟨ds,env1⟩:=z
   cases e2:op ds with
   | none=>simp[zar,e1,e2] at q
   | some d' =>
     have q:some (d',env1)=some (d,env'):=by simpa[zar,e1,e2] using q
     cases q
     exact⟨W,env,ds,_,ok,e1,fun W1 vs H1 s1 ok1 p1=>hd W1 _ σ H1 vs ds _ Q ok1 p1 e2 fun v H2 s2 ok2 p2=>k W1 v H2 (s1.trans s2) ok2 p2⟩
theorem zmz{r:List V->Hp->VK->Prop}{op:List D->Option (List D)}(hd:zg6 X G H0 r op):∀σ H Q,tDF X.K G H0 (zau op F) σ H Q->tCB r (tDA X.K G H0 F) σ H Q:=fun σ H Q ⟨W,env,d,env',ok,q,k⟩=>by
 cases e1:F env with
 | none=>simp[zau,e1] at q
 | some z =>
   obtain⟨ds,env1⟩:=z
   cases e2:op ds with
   | none=>simp[zau,e1,e2] at q
   | some d' =>
     have q:some (d',env1)=some (d,env'):=by simpa[zau,e1,e2] using q
     cases q
     exact⟨W,env,ds,_,ok,e1,fun W1 vs H1 s1 ok1 p1=>hd W1 _ σ H1 vs ds _ Q ok1 p1 e2 fun l us H2 s2 ok2 ok3 nW hl rp=>k W1 l us H2 (s1.trans s2) ok2 ok3 nW hl rp⟩
variable {id T:String} {r:List V->Hp->VK->Prop} {op:List D->Option D} {opF:List D->Option (List D)}
theorem zfr(hc:CallR X (.builtin id) r)(hd:zf9 X G H0 r op)(hg:Gl X x)(hm:X.mg x=none)(hv:bootBuiltins x=some (.builtin id))(ha:DAx X G H0 (e::es) F)(hn:x ≠ "__name__":=by decide)(hdb:(x==("__debug__" : Str))=false:=by decide)(he:starEach (e::es) X.env=(false,eval e X.env)::starEach es X.env:=by rfl)(hpl:(backTo pos (starEach es X.env)).any (·.1)=false:=by rfl):DEx X G H0 (.Call (.Name x p') (e::es) [] pos) (zar op F):=⟨(zc1 hc hg hm hv ha.out hn hdb he hpl).imp (zmy hd)⟩
theorem zic(hc:CallR X (.type T) r)(hd:zf9 X G H0 r op)(hg:Gl X x)(hm:X.mg x=none)(hv:bootBuiltins x=some (.type T))(ha:DAx X G H0 (e::es) F)(hn:x ≠ "__name__":=by decide)(hdb:(x==("__debug__" : Str))=false:=by decide)(he:starEach (e::es) X.env=(false,eval e X.env)::starEach es X.env:=by rfl)(hpl:(backTo pos (starEach es X.env)).any (·.1)=false:=by rfl):DEx X G H0 (.Call (.Name x p') (e::es) [] pos) (zar op F):=⟨(zeg hc hg hm hv ha.out hn hdb he hpl).imp (zmy hd)⟩
theorem zid(hc:CallR X (.type T) r)(hd:zg6 X G H0 r opF)(hg:Gl X x)(hm:X.mg x=none)(hv:bootBuiltins x=some (.type T))(ha:DAx X G H0 (e::es) F)(hn:x ≠ "__name__":=by decide)(hdb:(x==("__debug__" : Str))=false:=by decide)(he:starEach (e::es) X.env=(false,eval e X.env)::starEach es X.env:=by rfl)(hpl:(backTo pos (starEach es X.env)).any (·.1)=false:=by rfl):DFx X G H0 (.Call (.Name x p') (e::es) [] pos) (zau opF F):=⟨(zeg hc hg hm hv ha.out hn hdb he hpl).imp (zmz hd)⟩
theorem zg7{K:PySem.W.Frag}{H:Hp}{O:Addr->Prop}{d:D}{vs:List V}(h:Reps K H O [d] vs):∃v,vs=[v]/\Rep K H O d v:=by
 cases h with | cons r t=>cases t;exact⟨_,rfl,r⟩
theorem zoi{K:PySem.W.Frag}{H:Hp}{O:Addr->Prop}{d d':D}{vs:List V}(h:Reps K H O [d,d'] vs):∃v v',vs=[v,v']/\Rep K H O d v/\Rep K H O d' v':=by
 cases h with | cons r t=>cases t with | cons r' t=>cases t;exact⟨_,_,rfl,r,r'⟩
@[simp] def bLen:List D->Option D | [.tup ds]=>some (.int ds.length) | [.lst ds]=>some (.int ds.length) | _=>none
@[simp] def bMax:List D->Option D | [.int i,.int j]=>some (.int (if j > i then j else i)) | _=>none
@[simp] def bMin:List D->Option D | [.int i,.int j]=>some (.int (if j<i then j else i)) | _=>none
theorem zm0:zf9 X G H0 (fun xs H Q=>∃i j,xs=[.int i,.int j]/\Q (.int (if j<i then j else i)) H) bMin:=by
 intro W env σ H vs ds d Q ok r e k
 unfold bMin at e
 split at e
 ·cases e
  obtain⟨v,v',rfl,r1,r'⟩:=zoi r;have r:=r1
  exact⟨_,_,by rw[r.int_,r'.int_],k _ H Step.refl ok (.int _)⟩
 ·cases e
theorem zm1(ha:DAx X G H0 [a,b] F)(hc:X.calm=true:=by rfl)(bt:Bn X "min":=by walk_at "b")(he:starEach [a,b] X.env=(false,eval a X.env)::starEach [b] X.env:=by rfl)(hpl:(backTo pos (starEach [b] X.env)).any (·.1)=false:=by rfl):DEx X G H0 (.Call (.Name "min" p') [a,b] [] pos) (zar bMin F) :=
 zfr (zgp hc) zm0 bt.g bt.m boot_min ha (by decide) (by decide) he hpl
def ints?:List D->Option (List Int)
 | []=>some []
 | .int i::r=>(ints? r).map (i::·)
 | _::_=>none
theorem zfs:∀ {ds:List D} {ns:List Int},ints? ds=some ns->ds=ns.map D.int
 | [],ns,h=>by cases h;rfl
 | .int i::r,ns,h=>by
   unfold ints? at h
   cases q:ints? r with
   | none=>rw[q] at h;cases h
   | some ms=>rw[q] at h;cases h;rw[zfs q];rfl
 | .non::_,_,h=>by cases h
 | .bl _::_,_,h=>by cases h
 | .str _::_,_,h=>by cases h
 | .tup _::_,_,h=>by cases h
 | .lst _::_,_,h=>by cases h
theorem zkg(ns:List Int):ints? (ns.map D.int)=some ns:=by
 induction ns with
 | nil=>rfl
 | cons n r ih=>show(ints? (r.map D.int)).map (n::·)=_;rw[ih];rfl
theorem zet{K:PySem.W.Frag}{H:Hp}{O:Addr->Prop}:∀ {ns:List Int} {vs:List V},Reps K H O (ns.map D.int) vs->vs=ns.map V.int
 | [],_,h=>by cases h;rfl
 | n::r,_,h=>by cases h with | cons a t=>rw[zet t,a.int_];rfl
theorem zg8(hc:X.calm=true):CallR X (.builtin "sum") (fun xs H Q=>∃p,∃ns:List Int,xs=[.ref p]/\SqL X.K H p (ns.map V.int)/\Q (.int ns.sum) H):=by
 intro pins s σ H xs us Q I r h
 obtain⟨p,ns,rfl,hq,q⟩:=h
 obtain⟨u,rfl,rx⟩:=zgo r
 cases rx
 obtain⟨its,r',pl,hz⟩:=I.list hq
 have hi:IntsAre its ns:=zf7 r'
 have hl:=pl.isList
 obtain⟨xs,hxs⟩:=hi.allInts.items
 rw[hxs] at hl
 refine sum_intListG (I.ok.hd hc) hl fun h' tk t' hk=>⟨.int ns.sum,H,I.kept hk,⟨t',?_⟩,q⟩
 have e1:numsOf its=ns:=hi.numsOf
 have e2:numsOf (intItems xs).toList=ns:=by rw[← hxs];exact e1
 rw[nums_intItems] at e2
 rw[preSum_eq,List.take_of_length_le (by simp),e2]
def bSum:List D->Option D | [.lst ds]=>(ints? ds).map fun ns=>.int ns.sum | _=>none
theorem zm2:zf9 X G H0 (fun xs H Q=>∃p,∃ns:List Int,xs=[.ref p]/\SqL X.K H p (ns.map V.int)/\Q (.int ns.sum) H) bSum:=by
 intro W env σ H vs ds d Q ok r e k
 unfold bSum at e
 split at e
 ·rename_i ds
  cases q:ints? ds with
  | none=>rw[q] at e;cases e
  | some ns =>
    rw[q] at e;cases e
    obtain⟨v,rfl,r1⟩:=zg7 r;have r:=r1
    obtain⟨a,us,rfl,h,r⟩:=r.lst_
    rw[zfs q] at r
    rw[zet r] at h
    exact⟨a,ns,rfl,h.sq,k _ H Step.refl ok (.int _)⟩
 ·cases e
theorem zm3(ha:DAx X G H0 [e] F)(hc:X.calm=true:=by rfl)(bt:Bn X "sum":=by walk_at "b")(he:starEach [e] X.env=(false,eval e X.env)::starEach [] X.env:=by rfl):DEx X G H0 (.Call (.Name "sum" p') [e] [] pos) (zar bSum F) :=
 zfr (zg8 hc) zm2 bt.g bt.m boot_sum ha (by decide) (by decide) he rfl
@[simp] def zg9:List D->Option (List D) | [.lst ds]=>some ds | [.tup ds]=>some ds | _=>none
theorem zkh:zg6 X G H0 (fun xs H Q=>∃p ys,xs=[.ref p]/\(SqL X.K H p ys\/SqT X.K H p ys)/\∀l,H l=none->Q (.ref l) (upd H l (.lst ys))) zg9:=by
 intro W env σ H vs ds rs Q ok r e k
 unfold zg9 at e
 split at e
 ·cases e
  obtain⟨v,rfl,r1⟩:=zg7 r;have r:=r1
  obtain⟨a,us,rfl,h,r⟩:=r.lst_
  refine⟨a,us,rfl,.inl h.sq,fun l hn=>?_⟩
  obtain⟨h1,h2,h3,h4,h5,h6⟩:=zc9 ok r hn
  exact k l us _ h1 h2 h3 h4 h5 h6
 ·cases e
  obtain⟨v,rfl,r1⟩:=zg7 r;have r:=r1
  obtain⟨a,us,rfl,h,r⟩:=r.tup_
  refine⟨a,us,rfl,.inr (SqT.of h),fun l hn=>?_⟩
  obtain⟨h1,h2,h3,h4,h5,h6⟩:=zc9 ok r hn
  exact k l us _ h1 h2 h3 h4 h5 h6
 ·cases e
theorem zga:bootBuiltins "list" = some (.type "list"):=by decide +kernel
theorem zki(ha:DAx X G H0 [e] F)(bt:Bn X "list":=by walk_at "b")(he:starEach [e] X.env=(false,eval e X.env)::starEach [] X.env:=by rfl):DFx X G H0 (.Call (.Name "list" p') [e] [] pos) (zau zg9 F) :=
 zid zej zkh bt.g bt.m zga ha (by decide) (by decide) he rfl
end
section
variable {X:Cx} {G:Gd} {H0:Hp} {a b c e:Expr} {es rest:List Expr} {f g:FE} {F:FA} {p q:FT} {pos p' p1 pos1:Pos} {x:Str}
theorem Vals.of:∀ {xs:List V} {us:List Value},xs.length=us.length->(∀(j:Nat) (x:V) (u:Value),xs[j]?=some x->us[j]?=some u->RelV x u)->Vals xs us
 | [],[],_,_=>.nil
 | [],_::_,h,_=>by cases h
 | _::_,[],h,_=>by cases h
 | x::xs,u::us,h,r=>.cons (r 0 x u rfl rfl) (Vals.of (Nat.succ.inj h) fun j y w e1 e2=>r (j+1) y w (by simpa using e1) (by simpa using e2))
def rngL(lo hi:Int):List Int:=(List.range (hi-lo).toNat).map fun(k:Nat)=>lo+(k:Int)
def zo4(ds:List D):Option (List D):=match ds with
 | [.int j]=>if Bnd (-(2 ^ 62)) (2 ^ 20+1) j then some ((rngL 0 j).map D.int) else none
 | _=>none
theorem zb6{K:PySem.W.Frag}{H:Hp}{O:Addr->Prop}:∀(ns:List Int),Reps K H O (ns.map D.int) (ns.map V.int)
 | []=>.nil
 | n::r=>.cons (.int n) (zb6 r)
abbrev FO:=DE0->Option (Option Int×DE0)
def tDO(K:PySem.W.Frag)(G:Gd)(H0:Hp)(f:FO):TO:=fun σ H Q=>∃W env o env',Ok K G H0 W env σ H/\f env=some (o,env')/\∀W' H',Step W H W' H'->Ok K G H0 W' env' σ H'->Q o H'
structure DOx (X:Cx) (G:Gd) (H0:Hp) (e:Option Expr) (f:FO):Prop where
 out:PO X e (tDO X.K G H0 f)
theorem PO.imp{X:Cx}{e:Option Expr}{t t':TO}(h:PO X e t)(i:∀σ H Q,t' σ H Q->t σ H Q):PO X e t':=fun pins s σ H Q I q=>h pins s σ H Q I (i σ H Q q)
@[simp] def fO0:FO:=fun e=>some (none,e)
@[simp] def fO1(f:FE):FO:=fun e=>(f e).bind fun r=>match r.1 with | .int i=>some (some i,r.2) | _=>none
theorem zkj  : DOx X G H0 none fO0:=⟨zj2.imp fun σ H Q ⟨W,env,o,env',ok,q,k⟩=>by cases q;exact k W H Step.refl ok⟩
theorem zkk(h:DEx X G H0 e f):DOx X G H0 (some e) (fO1 f):=⟨(zj3 h.out).imp fun σ H Q ⟨W,env,o,env',ok,q,k⟩=>by
 cases e1:f env with
 | none=>simp[fO1,e1] at q
 | some r =>
   obtain⟨d,env1⟩:=r
   cases d with
   | int i =>
     have q:some (some i,env1)=some (o,env'):=by simpa[fO1,e1] using q
     cases q
     exact⟨W,env,_,_,ok,e1,fun W1 v1 H1 s1 ok1 p1=>⟨i,p1.int_,k W1 H1 s1 ok1⟩⟩
   | _=>simp[fO1,e1] at q⟩
def cutD(xs:List D)(lo hi:Option Int):List D:=(xs.drop (HT.sIx xs.length 0 lo)).take (HT.sIx xs.length xs.length hi-HT.sIx xs.length 0 lo)
theorem Reps.cut{K:PySem.W.Frag}{H:Hp}{O:Addr->Prop}{ds:List D}{vs:List V}(r:Reps K H O ds vs)(lo hi:Option Int):Reps K H O (cutD ds lo hi) (cutV vs lo hi):=by
 unfold cutD cutV
 rw[r.length]
 exact(r.drop _).take _
@[simp] def fSl(f:FE)(l h:FO):FA:=fun e=>(f e).bind fun r=>(l r.2).bind fun r1=>(h r1.2).bind fun r2=>match r.1 with | .lst ds=>some (cutD ds r1.1 r2.1,r2.2) | _=>none
theorem zoj{lo hi:Option Expr}{fl fh:FO}{sp:Pos}(he:DEx X G H0 a f)(hl:DOx X G H0 lo fl)(hu:DOx X G H0 hi fh) :
  DFx X G H0 (.Subscript a (.Slice lo hi none sp) pos) (fSl f fl fh):=⟨(zh4 zj6 he.out hl.out hu.out).imp fun σ H Q ⟨W,env,d,env',ok,q,k⟩=>by
 cases e1:f env with
 | none=>simp[fSl,e1] at q
 | some r =>
   obtain⟨d1,env1⟩:=r
   cases e2:fl env1 with
   | none=>simp[fSl,e1,e2] at q
   | some r2 =>
     obtain⟨o1,env2⟩:=r2
     cases e3:fh env2 with
     | none=>simp[fSl,e1,e2,e3] at q
     | some r3 =>
       obtain⟨o2,env3⟩:=r3
       cases d1 with
       | lst ds =>
         have q:some (cutD ds o1 o2,env3)=some (d,env'):=by simpa[fSl,e1,e2,e3] using q
         cases q
         refine⟨W,env,_,_,ok,e1,fun W1 v1 H1 s1 ok1 p1=>⟨W1,env1,_,_,ok1,e2,fun W2 H2 s2 ok2=>⟨W2,env2,_,_,ok2,e3,fun W3 H3 s3 ok3=>?_⟩⟩⟩
         obtain⟨l,us,rfl,h,r⟩:=(ok1.rep (s2.trans s3) p1).lst_
         refine⟨l,us,rfl,h.sq,fun l' hn=>?_⟩
         obtain⟨h1,h2,h3,h4,h5,h6⟩:=zc9 ok3 (r.cut o1 o2) hn
         exact k W3 l' _ _ (((s1.trans s2).trans s3).trans h1) h2 h3 h4 h5 h6
       | _=>simp[fSl,e1,e2,e3] at q⟩
def zok(K:PySem.W.Frag):R2:=fun x y H Q=>∃l b xs zs,x=.ref l/\y=.ref b/\SqL K H l xs/\SqL K H b zs/\xs.length+zs.length<=sizeLine/\∀p,H p=none->Q (.ref p) (upd H p (.lst (xs++zs)))
theorem zkl:OpR X (binaryOp .Add) (zok X.K):=by
 intro pins s σ H x y v u Q I rx ry h
 obtain⟨l,b,xs,zs,rfl,rfl,hH,hB,hz,q⟩:=h
 cases rx
 cases ry
 obtain⟨its,r,⟨⟨cls,dd,data,sl⟩,n,ho,hc,hdd,hd⟩,z⟩:=I.list hH
 obtain⟨its2,r2,⟨⟨cls2,dd2,data2,sl2⟩,n2,ho2,hc2,hdd2,hd2⟩,z2⟩:=I.list hB
 simp only at hc hd hc2 hd2 hdd hdd2
 subst hc hd hc2 hd2 hdd hdd2
 have hl:=r.length
 have hl2:=r2.length
 refine concat_meets ⟨_,ho,rfl⟩ ⟨_,ho2,rfl⟩ noFill_list_add seq_list_add PySem.F.slot_list_add PySem.F.entry_list_add (PySem.F.args_list_add_2 _ _) (list_addW l b its.toArray its2.toArray n n2 none none sl sl2 (by simp only[List.size_toArray];omega)) ⟨ho,ho2,?_⟩
 have ea:its.toArray++its2.toArray=(its++its2).toArray:=by simp
 rw[ea]
 exact⟨.ref _,_,I.lnew (t':=s.toks) (r.append r2) (by rw[List.length_append];omega),rfl,q _ I.fresh⟩
@[simp] def fCat(f g:FE):FA:=fun e=>(f e).bind fun r=>(g r.2).bind fun q=>match r.1,q.1 with | .lst ds,.lst es=>if Few (ds.length+es.length) then some (ds++es,q.2) else none | _,_=>none
theorem zcg(ha:DEx X G H0 a f)(hb:DEx X G H0 b g):DFx X G H0 (.BinOp a .Add b pos) (fCat f g):=⟨(zju zkl ha.out hb.out).imp fun σ H Q ⟨W,env,d,env',ok,q,k⟩=>by
 cases e1:f env with
 | none=>simp[fCat,e1] at q
 | some r =>
   obtain⟨d1,env1⟩:=r
   cases e2:g env1 with
   | none=>simp[fCat,e1,e2] at q
   | some r2 =>
     obtain⟨d2,env2⟩:=r2
     cases d1 with
     | lst ds =>
       cases d2 with
       | lst es =>
         by_cases hl:Few (ds.length+es.length)
         ·have q:some (ds++es,env2)=some (d,env'):=by simpa only[fCat,e1,e2,Option.bind_some,if_pos hl] using q
          cases q
          refine⟨W,env,_,_,ok,e1,fun W1 v1 H1 s1 ok1 p1=>⟨W1,env1,_,_,ok1,e2,fun W2 v2 H2 s2 ok2 p2=>?_⟩⟩
          obtain⟨l,us,rfl,h,r⟩:=(ok1.rep s2 p1).lst_
          obtain⟨l',us',rfl,h',r'⟩:=p2.lst_
          refine⟨l,l',us,us',rfl,rfl,h.sq,h'.sq,?_,fun n hn=>?_⟩
          ·rw[← r.length,← r'.length];exact Nat.le_trans hl (by rw[sizeLine_eq];decide)
          ·obtain⟨h1,h2,h3,h4,h5,h6⟩:=zc9 ok2 (r.append r') hn
           exact k W2 n _ _ ((s1.trans s2).trans h1) h2 h3 h4 h5 h6
         ·simp only[fCat,e1,e2,Option.bind_some,if_neg hl] at q;cases q
       | _=>simp[fCat,e1,e2] at q
     | _=>simp[fCat,e1,e2] at q⟩
@[simp] def za8(i:Nat):FE:=fun e=>match e[i]? with
 | some (some (.ow ds))=>some (.int ds.length,e)
 | some (some (.sh (.lst ds)))=>some (.int ds.length,e)
 | some (some (.sh (.tup ds)))=>some (.int ds.length,e)
 | _=>none
theorem za3{Nn Cn:List Str}{i:Nat}(an:Ats Nn Cn X)(bt:Bn X "len":=by walk_at "b")(hno:Nn[i]?=some x:=by rfl)(he:starEach [.Name x p1] X.env=(false,eval (.Name x p1) X.env)::starEach [] X.env:=by rfl):DEx X G H0 (.Call (.Name "len" p') [.Name x p1] [] pos) (za8 i) :=
 ⟨(zc1 zei bt.g bt.m PySem.boot_len (zbz ((an.a hno).pe) zc4 he) (by decide) (by decide) he rfl).imp fun σ H Q ⟨W,env,d,env',ok,q,k⟩=>by
  unfold za8 at q
  split at q
  ·rename_i ds hq
   cases q
   obtain⟨v,e1,l,vs,rfl,hW,hl,r⟩:=ok.slot i _ hq
   exact⟨_,e1,l,vs,rfl,.inl (.inl (.inl hl)),by rw[← r.length];exact k W _ H Step.refl ok (.int _)⟩
  ·rename_i ds hq
   cases q
   obtain⟨v,e1,r⟩:=ok.slot i _ hq
   obtain⟨l,us,rfl,h,r⟩:=Rep.lst_ r
   exact⟨_,e1,l,us,rfl,.inl h.sq,by rw[← r.length];exact k W _ H Step.refl ok (.int _)⟩
  ·rename_i ds hq
   cases q
   obtain⟨v,e1,r⟩:=ok.slot i _ hq
   obtain⟨l,us,rfl,h,r⟩:=Rep.tup_ r
   exact⟨_,e1,l,us,rfl,.inr (SqT.of h),by rw[← r.length];exact k W _ H Step.refl ok (.int _)⟩
  ·cases q⟩
@[simp] def ixSl:D->Option (Option Sl)->Option D
 | .int k,some (some (.ow ds))=>atI ds k
 | .int k,some (some (.sh (.lst ds)))=>atI ds k
 | .int k,some (some (.sh (.tup ds)))=>atI ds k
 | _,_=>none
@[simp] def fIxV(i:Nat)(g:FE):FE:=fun e=>match e[i]? with
 | some (some _)=>(g e).bind fun r=>(ixSl r.1 r.2[i]?).map fun d=>(d,r.2)
 | _=>none
theorem zay{Nn Cn:List Str}{i:Nat}(hb:DEx X G H0 b g)(an:Ats Nn Cn X)(hs:zdu b:=by intro _ _;rfl)(hno:Nn[i]?=some x:=by rfl):DEx X G H0 (.Subscript (.Name x p1) b pos) (fIxV i g) :=
 ⟨(zmc zi7 ((an.a hno).pe) hb.out hs).imp fun σ H Q ⟨W,env,d,env',ok,q,k⟩=>by
  unfold fIxV at q
  split at q
  case h_2=>cases q
  rename_i s0 hs0
  obtain⟨v,hv,_⟩:=ok.slot i _ hs0
  cases e1:g env with
  | none=>rw[e1] at q;cases q
  | some r =>
    obtain⟨dk,env1⟩:=r
    rw[e1,Option.bind_some] at q
    cases e3:ixSl dk env1[i]? with
    | none=>rw[e3] at q;cases q
    | some d' =>
      rw[e3] at q;cases q
      refine⟨v,hv,W,env,dk,_,ok,e1,fun W1 v1 H1 s1 ok1 p1=>?_⟩
      unfold ixSl at e3
      split at e3
      ·rename_i kk ds hq
       obtain⟨v',e2,l,vs,rfl,hW,hl,r⟩:=ok1.slot i _ hq
       rw[hv] at e2;cases e2
       obtain⟨u,e4,r4⟩:=zc7 r e3
       exact .inl ⟨l,vs,kk,u,rfl,p1.int_,.inl (.inl hl),e4,k W1 _ H1 s1 ok1 r4⟩
      ·rename_i kk ds hq
       obtain⟨v',e2,r⟩:=ok1.slot i _ hq
       rw[hv] at e2;cases e2
       obtain⟨l,us,rfl,h,r⟩:=Rep.lst_ r
       obtain⟨u,e4,r4⟩:=zc7 r e3
       exact .inl ⟨l,us,kk,u,rfl,p1.int_,h.sq,e4,k W1 _ H1 s1 ok1 r4⟩
      ·rename_i kk ds hq
       obtain⟨v',e2,r⟩:=ok1.slot i _ hq
       rw[hv] at e2;cases e2
       obtain⟨l,us,rfl,h,r⟩:=Rep.tup_ r
       obtain⟨u,e4,r4⟩:=zc7 r e3
       exact .inr (.inl ⟨l,us,kk,u,rfl,p1.int_,SqT.of h,e4,k W1 _ H1 s1 ok1 r4⟩)
      ·cases e3⟩
end
section
variable {X:Cx} {G:Gd} {H0:Hp} {a b c e:Expr} {es rest:List Expr} {f g:FE} {F:FA} {p q:FT} {pos p' p1 pos1:Pos} {x:Str}
@[simp] def tyD:D->String | .non=>"NoneType" | .bl _=>"bool" | .int _=>"int" | .str _=>"str" | .tup _=>"tuple" | .lst _=>"list" | .dct _ _=>"dict" | .exc _=>"exc"
@[simp] def isiT(t T:String):Bool:=t==T || (t=="bool" && T=="int")
def zha(T:String):Bool:=T=="int" || T=="bool" || T=="str" || T=="tuple" || T=="list"
theorem zie(K:PySem.W.Frag)(d:D)(T:String)(h:zha T=true)(hd:∀a,d≠.exc a):PySem.W.kitOne K (.type (tyD d)) (.type T)=some (isiT (tyD d) T):=by
 simp only[zha,Bool.or_eq_true,beq_iff_eq] at h
 rcases h with(((rfl | rfl) | rfl) | rfl) | rfl <;> cases d <;> first | rfl | exact absurd rfl (hd _)
theorem zif:CallR X (.builtin "isinstance") (fun xs H Q=>∃x T t b,xs=[x,.ty T]/\(TyOf X.K H x t\/(t=.type "list"/\∃a us,x=.ref a/\SqL X.K H a us))/\PySem.W.kitOne X.K t (.type T)=some b/\Q (.bl b) H):=by
 intro pins s σ H xs us Q I r h
 obtain⟨x,T,t,b,rfl,ty,e,q⟩:=h
 obtain⟨u,u',rfl,rx,rt⟩:=zjy r
 cases (show u'=Value.type T from rt)
 rcases ty with ty | ⟨rfl,a,ws,rfl,hq⟩
 ·exact zgr I rx ty e fun tk=>⟨.bl b,H,I.tok tk,rfl,q⟩
 ·cases (show u=Value.ref a from rx)
  obtain⟨its,_,⟨o,n,h1,h2,_⟩,_⟩:=I.list hq
  exact PySem.W.kia_one PySem.W.kitx_list I.kIn ⟨o,h1,h2⟩ e (fun z=>nomatch z) fun tk=>⟨.bl b,H,I.tok tk,rfl,q⟩
theorem zm4{K:PySem.W.Frag}{H:Hp}{O:Addr->Prop}{d:D}{v:V}(r:Rep K H O d v)(hd:∀a,d≠.exc a):TyOf K H v (.type (tyD d))\/(Value.type (tyD d)=.type "list"/\∃a us,v=.ref a/\SqL K H a us):=by
 cases r with
 | non=>exact .inl .non
 | bl b=>exact .inl (.bl b)
 | int i=>exact .inl (.int i)
 | str s=>exact .inl (.str s)
 | tup h _=>exact .inl (.tup h)
 | lst o h _=>exact .inr ⟨rfl,_,_,rfl,.inl h⟩
 | klst h _=>exact .inr ⟨rfl,_,_,rfl,.inr h⟩
 | dct h _=>exact .inl (.dK h)
 | exc a=>exact absurd rfl (hd a)
theorem zft:bootBuiltins "isinstance" = some (.builtin "isinstance"):=by decide +kernel
@[simp] def fIsi(T:String)(f:FE):FE:=fun e=>(f e).bind fun r=>match r.1 with | .exc _=>none | d=>some (.bl (isiT (tyD d) T),r.2)
structure Ty (x:Str) (T:String):Prop where
 b:bootBuiltins x=some (.type T)
 k:zha T=true
 d:(x==("__debug__" : Str))=false
 n:x ≠ "__name__"
theorem zct{T:String}(ty:Ty x T)(ha:DEx X G H0 a f)(bt:Bn X "isinstance":=by walk_at "b")(hgT:Gl X x:=by walk_at "g")(hmT:X.mg x=none:=by assumption)(he:starEach [a,.Name x p1] X.env=(false,eval a X.env)::starEach [.Name x p1] X.env:=by rfl)(he2:starEach [.Name x p1] X.env=(false,eval (.Name x p1) X.env)::starEach [] X.env:=by rfl)(hpl:(backTo pos (starEach [.Name x p1] X.env)).any (·.1)=false:=by rfl) :
  DEx X G H0 (.Call (.Name "isinstance" p') [a,.Name x p1] [] pos) (fIsi T f) :=
 ⟨(zc1 zif bt.g bt.m zft (zbz ha.out (zbz (zgh (v:=.ty T) hgT hmT ty.b rfl ty.n ty.d) zc4 he2) he) (by decide) (by decide) he hpl).imp fun σ H Q ⟨W,env,d,env',ok,q,k⟩=>by
  cases e1:f env with
  | none=>simp[fIsi,e1] at q
  | some r =>
    unfold fIsi at q
    rw[e1,Option.bind_some] at q
    split at q
    ·cases q
    ·rename_i hd
     cases q
     exact⟨W,env,_,_,ok,e1,fun W1 v1 H1 s1 ok1 p1=>⟨v1,T,_,_,rfl,zm4 p1 hd,zie X.K _ T ty.k hd,k W1 _ H1 s1 ok1 (.bl _)⟩⟩⟩
abbrev FI:=DE0->Option (List D×DE0)
structure Walk (K:PySem.W.Frag) (G:Gd) (J:It) (W:Addr->Prop) (H:Hp) (ds:List D):Prop where
 go:∀W' H' (i:Nat) d,Step W H W' H'->ds[i]?=some d->J.go i H'/\∀x H'',J.yld i H' x H''->H''=H'/\Rep K H' (Ow G W') d x
 stop:∀W' H',Step W H W' H'->J.stop ds.length H'
def tDI(K:PySem.W.Frag)(G:Gd)(H0:Hp)(f:FI):TI:=fun σ H R=>∃W env ds env',Ok K G H0 W env σ H/\f env=some (ds,env') /\
 ∀W' J H',Step W H W' H'->Ok K G H0 W' env' σ H'->Walk K G J W' H' ds->R J H'
structure DIC (Cm:Cx->Prop) (X:Cx) (G:Gd) (H0:Hp) (tg:Expr) (e:Expr) (f:FI):Prop where
 out:PIC Cm X tg e (tDI X.K G H0 f)
abbrev DIx:=DIC fun X=>X.calm=true
theorem PI.imp{X:Cx}{tg e:Expr}{t t':TI}(h:PI X tg e t)(i:∀σ H Q,t' σ H Q->t σ H Q):PI X tg e t':=fun pins s σ H Q I q=>h pins s σ H Q I (i σ H Q q)
theorem PIC.imp{Cm:Cx->Prop}{X:Cx}{tg e:Expr}{t t':TI}(h:PIC Cm X tg e t)(i:∀σ H Q,t' σ H Q->t σ H Q):PIC Cm X tg e t':=fun pins s σ H Q I q=>h pins s σ H Q I (i σ H Q q)
theorem zhb{W:Addr->Prop}{H:Hp}{a:Addr}{vs:List V}{ds:List D}{env:DE0}{σ:St}(ok:Ok X.K G H0 W env σ H)(h:LsOk X.K H (Ow G W) a vs)(r:Reps X.K H (Ow G W) ds vs):Walk X.K G (Itl X.K a) W H ds where
 go:=fun W' H' i d st e=>by
  obtain⟨v,e1,r1⟩:=(ok.reps st r).get e
  have h':=(ok.lsstep st h).sq
  exact⟨⟨vs,v,h',e1⟩,fun x H'' ⟨e2,y⟩=>⟨e2,by have:=y vs h';rw[e1] at this;cases this;exact r1⟩⟩
 stop:=fun W' H' st=>⟨vs,(ok.lsstep st h).sq,by rw[r.length];exact Nat.le_refl _⟩
theorem zig{W:Addr->Prop}{H:Hp}{a:Addr}{vs:List V}{ds:List D}{env:DE0}{σ:St}(ok:Ok X.K G H0 W env σ H)(h:H a=some (.tup vs))(r:Reps X.K H (Ow G W) ds vs):Walk X.K G (Itt X.K a) W H ds where
 go:=fun W' H' i d st e=>by
  obtain⟨v,e1,r1⟩:=(ok.reps st r).get e
  have h':=ok.tstep st a vs h
  exact⟨⟨vs,v,SqT.of h',e1⟩,fun x H'' ⟨e2,y⟩=>⟨e2,by have:=y vs (SqT.of h');rw[e1] at this;cases this;exact r1⟩⟩
 stop:=fun W' H' st=>⟨vs,SqT.of (ok.tstep st a vs h),by rw[r.length];exact Nat.le_refl _⟩
theorem zih{W:Addr->Prop}{H:Hp}{lo:Int}{n:Nat}:Walk X.K G (Itr lo n) W H ((List.range n).map fun(k:Nat)=>D.int (lo+(k:Int))) where
 go:=fun W' H' i d st e=>by
  rw[List.getElem?_map] at e
  have hi:i<n:=by
   have:=(List.getElem?_eq_some_iff.mp (show((List.range n).map fun(k:Nat)=>D.int (lo+(k:Int)))[i]?=some d by rw[List.getElem?_map];exact e)).1
   simpa using this
  rw[List.getElem?_range hi] at e
  cases e
  exact⟨hi,fun x H'' ⟨e2,y⟩=>⟨e2,by rw[y];exact .int _⟩⟩
 stop:=fun W' H' st=>by rw[List.length_map,List.length_range];exact Nat.le_refl _
@[simp] def fiS(f:FE):FI:=fun e=>(f e).bind fun r=>match r.1 with | .lst ds=>some (ds,r.2) | .tup ds=>some (ds,r.2) | _=>none
theorem PI.or{tg:Expr}{t t':TI}(h:PI X tg e t)(h':PI X tg e t'):PI X tg e (fun σ H R=>t σ H R\/t' σ H R):=fun pins s σ H R I q=>q.elim (h pins s σ H R I) (h' pins s σ H R I)
theorem zjd{tg:Expr}(h:DEx X G H0 e f):DIx X G H0 tg e (fiS f):=⟨((zjt h.out).or (zly h.out)).imp fun σ H R ⟨W,env,ds,env',ok,q,k⟩=>by
 cases e1:f env with
 | none=>simp[fiS,e1] at q
 | some r =>
   obtain⟨d,env1⟩:=r
   cases d with
   | lst ds' =>
     have q:some (ds',env1)=some (ds,env'):=by simpa[fiS,e1] using q
     cases q
     refine .inl ⟨W,env,_,_,ok,e1,fun W1 v1 H1 s1 ok1 p1=>?_⟩
     obtain⟨a,vs,rfl,h.out,r⟩:=p1.lst_
     exact⟨a,rfl,⟨vs,h.out.sq⟩,k W1 _ H1 s1 ok1 (zhb ok1 h.out r)⟩
   | tup ds' =>
     have q:some (ds',env1)=some (ds,env'):=by simpa[fiS,e1] using q
     cases q
     refine .inr ⟨W,env,_,_,ok,e1,fun W1 v1 H1 s1 ok1 p1=>?_⟩
     obtain⟨a,vs,rfl,h.out,r⟩:=p1.tup_
     exact⟨a,rfl,⟨vs,SqT.of h.out⟩,k W1 _ H1 s1 ok1 (zig ok1 h.out r)⟩
   | _=>simp[fiS,e1] at q⟩
def rngD(lo:Int)(n:Nat):List D:=(List.range n).map fun(k:Nat)=>D.int (lo+(k:Int))
def iR1(ds:List D):Option (List D):=match ds with | [.int j]=>if Bnd (-(2 ^ 62)) (2 ^ 62) j then some (rngD 0 j.toNat) else none | _=>none
theorem zdm{Cm:Cx->Prop}{tg:Expr}(hT:∀(it:Addr) (lo:Int) (n:Nat),ze4 Cm X.prog X.w X.K tg (Itr lo n) [it] it (fun i h=>IsRangeIter h it (lo+(i:Nat)*1) ((n:Int)-(i:Nat)) 1))(ha:DAx X G H0 [a] F)(bt:Bn X "range":=by walk_at "b")(hs:starEach [a] X.env=[(false,eval a X.env)]:=by rfl):DIC Cm X G H0 tg (.Call (.Name "range" p') [a] [] pos) (zau iR1 F) :=
 ⟨PIC.imp (zf6 hT bt.g bt.m ha.out hs) fun σ H R ⟨W,env,ds,env',ok,q,k⟩=>by
  cases e1:F env with
  | none=>simp[zau,e1] at q
  | some z =>
    obtain⟨as,env1⟩:=z
    cases e2:iR1 as with
    | none=>simp[zau,e1,e2] at q
    | some d' =>
      have q:some (d',env1)=some (ds,env'):=by simpa[zau,e1,e2] using q
      cases q
      refine⟨W,env,as,_,ok,e1,fun W1 vs H1 s1 ok1 p1=>?_⟩
      unfold iR1 at e2
      split at e2
      ·rename_i j
       split at e2
       ·rename_i hj
        cases e2
        obtain⟨v,rfl,r1⟩:=zg7 p1
        cases r1
        exact⟨j,rfl,hj.1,hj.2,k W1 _ H1 s1 ok1 zih⟩
       ·cases e2
      ·cases e2⟩
theorem zb7{tg:Expr}(ha:DAx X G H0 [a] F)(bt:Bn X "range":=by walk_at "b")(hs:starEach [a] X.env=[(false,eval a X.env)]:=by rfl):DIx X G H0 tg (.Call (.Name "range" p') [a] [] pos) (zau iR1 F):=zdm (fun it lo n=>zcb it lo n) ha bt hs
def capt:Option Sl->Option Sl | some (.sh d)=>some (.sh d) | _=>none
def zda(tt:FT)(te:FE)(base:DE0):List D->Option (List D)
 | []=>some []
 | d::r=>(tt (some (.sh d)::base)).bind fun b=>if b.1=true then(te b.2).bind fun v=>(zda tt te base r).map (v.1::·) else zda tt te base r
def ze7(fi:FI)(ix:List Nat)(tt:FT)(te:FE):FA:=fun e=>(fi e).bind fun r=>if Few r.1.length then(zda tt te (ix.map fun j=>capt (r.2.getD j none)) r.1).map fun ds=>(ds,r.2) else none
def tDxT(K:PySem.W.Frag)(f:FT):TT:=fun σ H Q=>∃G H0,tDT K G H0 f σ H Q
def tDx(K:PySem.W.Frag)(f:FE):TE:=fun σ H Q=>∃G H0,tD K G H0 f σ H Q
def NoW:Addr->Prop:=fun _=>False
theorem zii{W:Addr->Prop}{env:DE0}{σ:St}{H:Hp}{ix:List Nat}{d:D}{v:V}(ok:Ok X.K G H0 W env σ H)(r:Rep X.K H (Ow G W) d v) :
  Ok X.K (gd fun a=>Ow G W a\/H a=none) H NoW (some (.sh d)::ix.map fun j=>capt (env.getD j none)) (some v::ix.map fun j=>σ.getD j none) H:=by
 have up:∀ {d:D} {v:V},Rep X.K H (Ow G W) d v->Rep X.K H (Ow (gd fun a=>Ow G W a\/H a=none) NoW) d v:=fun r=>r.mono (fun _ _ h=>h) fun a us o h=>⟨⟨.inl o,fun z=>z⟩,h⟩
 have shs:∀(i:Nat) (s:Sl),(some (Sl.sh d)::ix.map fun j=>capt (env.getD j none))[i]?=some (some s)->∃d',s=.sh d':=fun i s z=>by
  cases i with
  | zero=>exact⟨d,by simpa using z.symm⟩
  | succ i =>
    simp only[List.getElem?_cons_succ,List.getElem?_map] at z
    cases q:ix[i]? with
    | none=>rw[q] at z;cases z
    | some j =>
      rw[q] at z
      have z:capt (env.getD j none)=some s:=Option.some.inj z
      unfold capt at z
      split at z
      ·cases z;exact⟨_,rfl⟩
      ·cases z
 refine⟨Same.refl _,fun a z=>.inr z,fun l z=>z.elim,fun i s e=>?_,fun i j s1 s2 v1 v2 a e1 _ _ _ o _=>by obtain⟨d',rfl⟩:=shs i s1 e1;exact o.elim,by simp⟩
 cases i with
 | zero =>
   have e:some (Sl.sh d)=some s:=by simpa using e
   cases e
   exact⟨v,rfl,up r⟩
 | succ i =>
   simp only[List.getElem?_cons_succ,List.getElem?_map] at e ⊢
   cases q:ix[i]? with
   | none=>rw[q] at e;cases e
   | some j =>
     rw[q] at e
     have e:capt (env.getD j none)=some s:=Option.some.inj e
     rw[List.getD_eq_getElem?_getD] at e
     cases q2:env[j]? with
     | none=>rw[q2] at e;cases e
     | some o =>
       rw[q2] at e
       have e:capt o=some s:=e
       unfold capt at e
       split at e
       ·rename_i d'
        cases e
        obtain⟨u,e1,r1⟩:=ok.slot j _ q2
        exact⟨u,by simp only[Option.map_some];rw[List.getD_eq_getElem?_getD,e1];rfl,up r1⟩
       ·cases e
theorem zm5{fi:FI}{ix:List Nat}{tt:FT}{te:FE}:∀σ H Q,tDF X.K G H0 (ze7 fi ix tt te) σ H Q->zh8 (tDI X.K G H0 fi) ix (tDxT X.K tt) (tDx X.K te) σ H Q:=fun σ H Q ⟨W,env,d,env',ok,q,k⟩=>by
 cases e1:fi env with
 | none=>simp[ze7,e1] at q
 | some z =>
   obtain⟨ds,env1⟩:=z
   by_cases hl:Few ds.length
   ·simp only[ze7,e1,Option.bind_some,if_pos hl] at q
    cases e2:zda tt te (ix.map fun j=>capt (env1.getD j none)) ds with
    | none=>rw[e2] at q;cases q
    | some outs =>
      rw[e2] at q;cases q
      refine⟨W,env,ds,_,ok,e1,fun W1 J H1 s1 ok1 wk=>?_⟩
      refine⟨fun i m H' ys=>∃rest done,m=ds.length-i/\i<=ds.length/\Same H1 H'/\Reps X.K H' (Ow G W1) done ys/\done.length<=i/\zda tt te (ix.map fun j=>capt (env'.getD j none)) (ds.drop i)=some rest/\d=done++rest,⟨ds.length,d,[],rfl,Nat.zero_le _,Same.refl _,.nil,Nat.le_refl _,e2,rfl⟩,?_⟩
      rintro i m H' ys ⟨rest,done,rfl,hi,sm,rp,hd,ec,rfl⟩
      have st:Step W1 H1 W1 H':=Step.same sm
      have ok':Ok X.K G H0 W1 env' σ H':=ok1.same sm
      by_cases hlt:i<ds.length
      ·have eq:ds.drop i=ds[i]::ds.drop (i+1):=List.drop_eq_getElem_cons hlt
       rw[eq] at ec
       obtain⟨hg,hy⟩:=wk.go W1 H' i ds[i] st (by simp[hlt])
       refine .inr ⟨hg,fun x H'' y=>?_⟩
       obtain⟨rfl,rx⟩:=hy x H'' y
       have oki:=zii (ix:=ix) ok' rx
       unfold zda at ec
       cases e3:tt (some (.sh ds[i])::ix.map fun j=>capt (env'.getD j none)) with
       | none=>rw[e3] at ec;cases ec
       | some bb =>
         obtain⟨b,envb⟩:=bb
         rw[e3,Option.bind_some] at ec
         refine⟨_,_,NoW,_,b,envb,oki,e3,fun W2 H2 s2 ok2=>?_⟩
         have sm2:Same H1 H2:=sm.trans ok2.stay
         have rp2:Reps X.K H2 (Ow G W1) done ys:=ok'.reps (Step.same ok2.stay) rp
         cases b with
         | false =>
           dsimp only
           rw[if_neg Bool.false_ne_true] at ec ⊢
           exact⟨ds.length-(i+1),by omega,rest,done,rfl,hlt,sm2,rp2,by omega,ec,rfl⟩
         | true =>
           dsimp only
           rw[if_pos rfl] at ec ⊢
           cases e4:te envb with
           | none=>simp only[e4] at ec;cases ec
           | some vv =>
             obtain⟨dv,envv⟩:=vv
             simp only[e4,Option.bind_some] at ec
             cases e5:zda tt te (ix.map fun j=>capt (env'.getD j none)) (ds.drop (i+1)) with
             | none=>rw[e5] at ec;cases ec
             | some rest' =>
               rw[e5] at ec;cases ec
               refine⟨_,_,W2,envb,dv,envv,ok2,e4,fun W3 v H3 s3 ok3 r3=>⟨?_,ds.length-(i+1),by omega,rest',done++[dv],rfl,hlt,sm.trans ok3.stay,?_,by rw[List.length_append,List.length_singleton];omega,by first | exact e5 | rfl,by simp⟩⟩
               ·have:ys.length<2 ^ 20:=by rw[← rp.length];have:ds.length<=2 ^ 20:=hl;omega
                exact Nat.lt_of_lt_of_le this (by rw[sizeLine_eq];decide)
               ·refine(ok'.reps (Step.same ok3.stay) rp).append (.cons (r3.mono (fun _ _ h=>h) fun a us o h=>⟨?_,h⟩) .nil)
                rcases o.1 with z | z
                ·exact z
                ·exact⟨ok'.good a (ok'.stay.free z),fun w=>by obtain⟨_,us,q⟩:=ok'.wl a w;rw[z] at q;cases q⟩
      ·have e:i=ds.length:=by omega
       subst e
       rw[List.drop_length] at ec
       cases ec
       refine .inl ⟨wk.stop W1 H' st,by rw[← rp.length];exact Nat.le_trans hd (Nat.le_trans hl (by rw[sizeLine_eq];decide)),fun l hn=>?_⟩
       obtain⟨h1,h2,h3,h4,h5,h6⟩:=zc9 ok' rp hn
       rw[List.append_nil] at k
       exact k W1 l _ _ ((s1.trans st).trans h1) h2 h3 h4 h5 h6
   ·simp only[ze7,e1,Option.bind_some,if_neg hl] at q;cases q
theorem if_x{X':Cx}{tt:FT}(hK:X'.K=X.K)(h:∀G H0,DTx X' G H0 c tt):PIfs X' [c] (tDxT X.K tt):=fun pins s σ H Q I ⟨G,H0,q⟩=>zh7 (h G H0).out pins s σ H Q I (by rw[hK];exact q)
theorem el_x{X':Cx}{te:FE}(hK:X'.K=X.K)(h:∀G H0,DEx X' G H0 e te):PE X' e (tDx X.K te):=fun pins s σ H Q I ⟨G,H0,q⟩=>(h G H0).out pins s σ H Q I (by rw[hK];exact q)
end
def Here(h h':Heap):Prop:=∀b o,h.get? b=some o->∃o',h'.get? b=some o'
theorem Here.trans{a b c:Heap}(x:Here a b)(y:Here b c):Here a c:=fun p o q=>let ⟨o',e⟩:=x p o q;y p o' e
theorem zdz{a:Addr}{f:Obj->Obj}(hf:∀o,h.get? a=some o->(h.update a f).get? a=some (f o)):Here h (h.update a f):=fun b o q=>by
 by_cases e:a=b
 ·subst e;exact⟨_,hf o q⟩
 ·exact⟨o,(Heap.get?_update_other _ _ e).trans q⟩
structure XOk (B:Heap) (l:List Env) (e:Addr) (cls fl:Value) (h:Heap):Prop where
 stay:B.StaysIn h
 new:B.get? e=none
 fr:h.FunFrames B l
 tr:∃oe vs T oT ts,h.get? e=some oe/\oe.cls=cls/\oe.dict=none/\oe.data=.fields vs/\vs[1]?=some (.ref T)/\vs[2]?=some .none/\B.get? T=none/\T≠e/\h.get? T=some oT/\oT.data=.fields ts/\ts[3]?=some fl
theorem zhc(o:Obj)(f:Array Value->Array Value):(o.mapFields f).dict=o.dict:=by obtain⟨c,d,dt,sl⟩:=o;cases dt <;> rfl
variable{env:Env}{e L:Addr}{M:Model}{A:Around}{E:Value->Shared->Prop}{B:Heap}{outer:List Env}
theorem zje{oe:Obj}{vs:Array Value}{hd:Value}{nx:Bool}(f1:A.frames=some (env::outer))(f2:s.heap.FunFrames B (env::outer))(f3:env.frame=some L)(g1:s.heap.get? e=some oe)(gd:oe.dict=none)(g2:oe.data=.fields vs)(g3:1<vs.size)(g4:vs[2]?=some .none)(k1:B.StaysIn s.heap)(k2:B.get? e=none)(h:∀h',XOk B (env::outer) e oe.cls (rawInt L) h'->s.heap.UpToSlots h'->Here s.heap h'->Q () { s with heap:=h' }) :
  wpAny M A (do let a ← frameOf env;let pl ← entryPlaceOf L nx;let b ← EntryCells.newEntry hd a .none (rawInt L) .none pl;setField (.ref e) 1 b) Q E s:=by
 have nfr:e∉(env::outer).filterMap (·.frame):=fun z=>by
  obtain⟨_,o,ho,hn⟩:=f2.mem z
  rw[g1] at ho;cases ho;exact hn vs g2
 refine wpAny_bind (wpAny_frameOf_fun f1 f2 f3 fun h1 so=>?_)
 refine wpAny_bind (wpAny_entryPlaceOf fun pl ipl=>?_)
 unfold EntryCells.newEntry newFields
 refine wpAny_bind (wpAny_newObj_type ?_ (ipl.sizeOk5 _ _ _ _ _))
 have e1:h1.get? e=some oe:=(so.2.1 e nfr).trans g1
 have b1:B.StaysIn h1:=fun b o q=>(so.2.1 b fun z=>by rw[(f2.mem z).1] at q;cases q).trans (k1 b o q)
 generalize hob:({ cls:=.type "traceback",dict:=none,data:=.fields ([hd,.ref L,.none,rawInt L,.none]++(if pl.isEmpty then List.replicate 6 Value.none else pl)).toArray }:Obj)=ob
 have ts3:∃ts,ob.data=.fields ts/\ts[3]?=some (rawInt L):=by subst hob;exact⟨_,rfl,by first | (simp;done) | (rcases ipl with rfl | ⟨_,_,_,_,_,_,_,rfl⟩ <;> simp)⟩
 have nof:ob.isFreed=false:=by subst hob;rfl
 clear hob
 have e2:=Heap.get?_push_of_some (h:=h1) ob e1
 have nT:h1.objs.size≠e:=Nat.ne_of_gt (Heap.lt_size e1)
 have d3:=Obj.data_mapFields g2 (·.setIfInBounds 1 (Value.ref h1.objs.size))
 refine wpAny_setField e2 g2 g3 (h _ ?_ ?_ ?_)
 ·refine⟨fun b o q=>?_,k2,f2.of_keeps fun b o q n=>?_,?_⟩
  ·rw[Heap.get?_update_other _ _ (fun z:e=b=>by rw[← z,k2] at q;cases q)]
   exact Heap.get?_push_of_some _ (b1 b o q)
  ·obtain⟨sl,z⟩:=so.2.2 b o q
   refine⟨{ o with slots:=sl },?_,rfl⟩
   rw[Heap.get?_update_other _ _ (fun y:e=b=>by rw[← y,g1] at q;cases q;exact n vs g2)]
   exact Heap.get?_push_of_some _ z
  ·obtain⟨ts,t1,t2⟩:=ts3
   refine⟨_,_,h1.objs.size,ob,ts,Heap.get?_update_self _ e2 (Obj.isFreed_of_fields d3),Obj.cls_mapFields _ _,(zhc _ _).trans gd,d3,by simp[g3],by rw[Array.getElem?_setIfInBounds_ne (by decide)];exact g4,b1.fresh,nT,?_,t1,t2⟩
   rw[Heap.get?_update_other _ _ (Ne.symm nT)]
   exact Heap.get?_push_size h1 nof
 ·intro b o q n
  obtain⟨sl,z⟩:=so.2.2 b o q
  refine⟨sl,?_⟩
  rw[Heap.get?_update_other _ _ (fun y:e=b=>by rw[← y,g1] at q;cases q;exact n vs g2)]
  exact Heap.get?_push_of_some _ z
 ·intro b o q
  obtain⟨sl,z⟩:=so.2.2 b o q
  exact zdz (fun o q=>Heap.get?_update_self _ q (by rw[e2] at q;cases q;exact Obj.isFreed_of_fields d3)) b _ (Heap.get?_push_of_some _ z)
variable{l:List Env}{cls fl:Value}
theorem ze8(x:XOk B l e cls fl s.heap)(h:∀h',XOk B l e cls .none h'->s.heap.UpToSlots h'->Here s.heap h'->Q () { s with heap:=h' }):wpAny M A (setFlight (.ref e) none) Q E s:=by
 obtain⟨oe,vs,T,oT,ts,g1,g2,gd,g3,g4,g5,g6,g7,g8,g9,ga⟩:=x.tr
 have sz:3<ts.size:=(Array.getElem?_eq_some_iff.mp ga).1
 unfold setFlight
 refine wpAny_bind (wpAny_field g1 g3 g4 ?_)
 rw[if_pos (show(Value.ref T != Value.none)=true from by simp)]
 have d3:=Obj.data_mapFields g9 (·.setIfInBounds 3 ((none:Option Addr).elim Value.none fun f=>rawInt f))
 refine wpAny_setField g8 g9 sz (h _ ⟨fun b o q=>?_,x.new,x.fr.of_keeps fun b o q n=>⟨o,?_,rfl⟩,_,vs,T,_,_,(Heap.get?_update_other _ _ g7).trans g1,g2,gd,g3,g4,g5,g6,g7,Heap.get?_update_self _ g8 (Obj.isFreed_of_fields d3),d3,by simp[sz]⟩ (fun b o q n=>⟨o.slots,?_⟩) (zdz fun o q=>Heap.get?_update_self _ q (by rw[g8] at q;cases q;exact Obj.isFreed_of_fields d3)))
 ·exact(Heap.get?_update_other _ _ fun z=>by rw[← z,g6] at q;cases q).trans (x.stay b o q)
 ·exact(Heap.get?_update_other _ _ fun z=>by rw[← z,g8] at q;cases q;exact n ts g9).trans q
 ·exact(Heap.get?_update_other _ _ fun z=>by rw[← z,g8] at q;cases q;exact n ts g9).trans q
theorem zol(f1:A.frames=some (env::outer))(f3:env.frame=some L)(x:XOk B (env::outer) e cls .none s.heap)(h:∀h',XOk B (env::outer) e cls (rawInt L) h'->s.heap.UpToSlots h'->Here s.heap h'->Q () { s with heap:=h' }):wpAny M A (noteFrame (.ref e) env) Q E s:=by
 obtain⟨oe,vs,T,oT,ts,g1,g2,gd,g3,g4,g5,g6,g7,g8,g9,ga⟩:=x.tr
 subst g2
 unfold noteFrame
 simp only[f3]
 refine wpAny_bind (wpAny_field g1 g3 g4 ?_)
 rw[if_pos (show(Value.ref T != Value.none)=true from by simp)]
 refine wpAny_bind (wpAny_field g8 g9 ga ?_)
 rw[if_neg (show ¬((Value.none==rawInt L)=true) from by simp[rawInt])]
 refine wpAny_bind (wpAny_setField g8 g9 (Array.getElem?_eq_some_iff.mp ga).1 ?_)
 have ot:∀b o,s.heap.get? b=some o->(∀vs,o.data≠.fields vs)->(s.heap.update T (Obj.mapFields (·.setIfInBounds 3 Value.none))).get? b=some o:=fun b o q n =>
  (Heap.get?_update_other _ _ fun z=>by rw[← z,g8] at q;cases q;exact n ts g9).trans q
 refine zje f1 (x.fr.of_keeps fun b o q n=>⟨o,ot b o q n,rfl⟩) f3 ((Heap.get?_update_other _ _ g7).trans g1) gd g3 (Array.getElem?_eq_some_iff.mp g4).1 g5 (fun b o q=>(Heap.get?_update_other _ _ fun z=>by rw[← z,g6] at q;cases q).trans (x.stay b o q)) x.new fun h' y u w=>h h' y (fun b o q n=>u b o (ot b o q n) n) (Here.trans (zdz fun o q=>Heap.get?_update_self _ q (by rw[g8] at q;cases q;exact Obj.isFreed_of_fields (Obj.data_mapFields g9 _))) w)
theorem zom(f1:A.frames=some (env::outer))(f3:env.frame=some L)(x:XOk B (env::outer) e cls .none s.heap)(h:∀h',XOk B (env::outer) e cls .none h'->s.heap.UpToSlots h'->Here s.heap h'->Q () { s with heap:=h' }):wpAny M A (noteFrame (.ref e) env) (fun _ s1=>wpAny M A (setFlight (.ref e) none) Q E s1) E s :=
 zol f1 f3 x fun h1 x1 u1 w1=>ze8 x1 fun h2 x2 u2 w2=>h h2 x2 (u1.trans u2) (w1.trans w2)
theorem zm6{h0:Heap}{args:List Value}(f1:A.frames=some (env::outer))(f2:h0.FunFrames B (env::outer))(f3:env.frame=some L)(k1:B.StaysIn h0)(m:Heap.MadeExcOf h0 s.heap e cls args)(h:∀h',XOk B (env::outer) e cls .none h'->s.heap.UpToSlots h'->Here s.heap h'->Q () { s with heap:=h' }):wpAny M A (noteFrame (.ref e) env) (fun _ s1=>wpAny M A (setFlight (.ref e) none) Q E s1) E s:=by
 obtain⟨t,g1,_,_⟩:=m.there
 have k2:B.get? e=none:=by
  cases q:B.get? e with
  | none=>rfl
  | some o=>have:=k1 e o q;rw[m.new] at this;cases this
 unfold noteFrame
 simp only[f3]
 refine wpAny_bind (wpAny_field g1 rfl (x:=Value.none) rfl ?_)
 rw[if_neg (by decide)]
 exact zje f1 (f2.of_keeps fun b o q _=>⟨o,m.keeps b o q,rfl⟩) f3 g1 rfl rfl (by simp) rfl (fun b o q=>m.keeps b o (k1 b o q)) k2 fun h1 x1 u1 w1=>ze8 x1 fun h2 x2 u2 w2=>h h2 x2 (u1.trans u2) (w1.trans w2)
end L2
namespace L2
open PySem PySem.Spec PyProof.Rows PySem.W
def Cl(K:PySem.W.Frag)(c:Str)(C:Addr):Prop:=PySem.W.nsIn K mainGlobals c=some (some (.ref C))
def Fly(P:Program)(w:World)(l:List Env)(H:Hp)(s:Shared)(C e:Addr)(H':Hp)(s':Shared):Prop :=
 ∃B,XOk B l e (.ref C) .none s'.heap/\(∀b o,s.heap.get? b=some o->H b=none->b∉frs l->B.get? b=some o)/\HOk P w H' B/\Un (frs l) [] H H' s.heap s'.heap/\s'.os=s.os/\AllBare s'.gens
abbrev CXr(P:Program)(w:World):CXT:=fun l H s E e s'=>∃ea C H',e=.ref ea/\Fly P w l H s C ea H' s'/\E (.ref C) none H'
def XS(X:Cx)(pins:List (Addr×Obj))(σ:St)(H:Hp)(C e:Addr)(s':Shared):Prop :=
 (∃s H1,Inv X pins σ H1 s/\Fly X.prog X.w X.stack H1 s C e H s')\/∃s args,Inv X pins σ H s/\Heap.MadeExcOf s.heap s'.heap e (.ref C) args/\s'={ s with heap:=s'.heap }
variable{CX:CXT}{P:Program}{w:World}{K:PySem.W.Frag}{mg:Str->Option Value}{base:Heap}{x qual:Str}{st:Stmt}{f:Addr}{fd:FuncData}{N ps:List Str}{k:Nat}{sp:Sp}
theorem Fun.okX(F:Fun K x qual st f fd)(S:zb0 N ps (zac st))(len:∀vs H Q E,sp vs H Q E->vs.length=ps.length)(hbody:∀(cdv:Value) (A:Around) (outer:List Env) (s:Shared) (H:Hp) (vs:List V) (Q:VK) (E:XK),Room k (A.deeper (envOfC qual (zac st) s.heap.objs.size f cdv))->sp vs H Q E ->
   ∃t,PSs (cxOf CX P w K mg base N qual (zac st) f cdv A outer s H E) (zat st) t/\t { nx:=fun _ H'=>Q .non H',rt:=Q } (zbv N vs) H):FnOk P w K mg base CX (k+1) f fd ps sp:=by
 obtain⟨oc,od,kV,doc,pm,an,cdv,ct,osl,rfl,lk,hcd⟩:=F.ex
 exact zmb lk hcd S len fun A outer s H vs Q E hr hsp=>hbody cdv A outer s H vs Q E hr hsp
theorem Fun.okC(F:Fun K x qual st f fd)(S:zb0 N ps (zac st))(len:∀vs H Q E,sp vs H Q E->vs.length=ps.length)(hbody:∀(cdv:Value) (A:Around) (outer:List Env) (s:Shared) (H:Hp) (vs:List V) (Q:VK) (E:XK),Room k (A.deeper (envOfC qual (zac st) s.heap.objs.size f cdv))->sp vs H Q E ->
   ∃t,PSs (cxOf CX P w K mg base N qual (zac st) f cdv A outer s H E).nox (zat st) t/\t { nx:=fun _ H'=>Q .non H',rt:=Q } (zbv N vs) H):FnOk P w K mg base CX (k+1) f fd ps sp :=
 F.okX S len fun cdv A outer s H vs Q E hr h=>let ⟨t,p,q⟩:=hbody cdv A outer s H vs Q E hr h;⟨t,p.nox,q⟩
variable{X:Cx}{pins:List (Addr×Obj)}{σ:St}{H H':Hp}{s s':Shared}{C e:Addr}
theorem Fly.inv(I:Inv X pins σ H s)(f:Fly X.prog X.w X.stack H s C e H' s'):Inv X pins σ H' s':=by
 obtain⟨B,x,_,hk,un,os,ba⟩:=f
 exact I.call' (ch:=[]) os un (hk.kept x.stay) ba fun b z=>absurd z (by simp)
theorem XS.come{E:Value->Shared->Prop}{Q:Unit->Shared->Prop}(h:XS X pins σ H' C e s')(hX:X.stack=X.env::X.outer)(hf:X.env.frame=some X.env.locals)(hQ:∀h2 s1 H1,Inv X pins σ H1 s1->Fly X.prog X.w X.stack H1 s1 C e H' { s' with heap:=h2 }->Q () { s' with heap:=h2 }):wpAny (model X.prog X.w) X.A (noteFrame (.ref e) X.env) (fun _ s1=>wpAny (model X.prog X.w) X.A (setFlight (.ref e) none) Q E s1) E s':=by
 rcases h with⟨s1,H1,I,f⟩ | ⟨s1,args,I,m,es⟩
 ·obtain⟨B,x,kb,hk,un,os,ba⟩:=f
  have st:=I.stack
  rw[hX] at x st
  refine zom (I.ok.frames.trans (by rw[hX])) hf x fun h2 x2 up he=>hQ h2 s1 H1 I ⟨B,hX ▸ x2,kb,hk,⟨fun b o q n hb _=>x2.stay b o (kb b o q n hb),fun b o q n hb hx=>?_,un.free,fun b o q hx=>?_,un.tups,un.frzs,un.tbls⟩,os,ba⟩
  ·obtain⟨sl,z⟩:=un.slot b o q n hb hx
   rw[hX] at hb
   obtain⟨_,o2,y,nf⟩:=st.mem hb
   rw[q] at y;cases y
   obtain⟨sl',z'⟩:=up b _ z nf
   exact⟨sl',z'⟩
  ·obtain⟨o',z⟩:=un.there b o q hx
   exact he b o' z
 ·have st:=I.stack
  have fr:∀b∈frs X.stack,H' b=none:=I.stkFree
  have nfr:∀b o,H' b=some o->b∉frs X.stack:=fun b o q z=>by rw[fr b z] at q;cases q
  have hkB:HOk X.prog X.w H' (hideAll s1.heap (frs X.stack)):=fun b o q =>
   (I.hok b o q).stay (fun c u hc z=>hideAll_get _ z (by rcases hc with rfl | hc;exact nfr _ _ q;exact nfr _ _ hc)) (fun _ z=>z) fun _ _ z=>z
  have f2:s1.heap.FunFrames (hideAll s1.heap (frs X.stack)) (X.env::X.outer):=hX ▸ funFrames_hide (as:=frs X.stack) st fun env he a ha=>List.mem_filterMap.mpr ⟨env,he,ha⟩
  refine zm6 (B:=hideAll s1.heap (frs X.stack)) (I.ok.frames.trans (by rw[hX])) f2 hf (fun b o q=>of_hideAll _ q) m fun h2 x2 up he=>hQ h2 s1 H' I ⟨_,hX ▸ x2,fun b o q n hb=>hideAll_get _ q hb,hkB,⟨fun b o q n hb _=>x2.stay b o (hideAll_get _ q hb),fun b o q n hb _=>?_,fun _ _ _ n _=>n,fun b o q _=>he b o (m.keeps b o q),fun _ _ z=>z,fun _ _ _ z=>z,fun _ ps z=>⟨#[],by rw[Array.append_empty];exact z⟩⟩,by rw[es],by rw[es];exact I.bare⟩
  obtain⟨_,o2,y,nf⟩:=st.mem hb
  rw[q] at y;cases y
  exact up b o (m.keeps b o q) nf
theorem zgb{scope:Scope}{cd:Value}{A:Around}{outer:List Env}{s₀:Shared}{H₀:Hp}{E:XK}(h:XS (cxOf (CXr P w) P w K mg base N qual scope f cd A outer s₀ H₀ E) pins σ H' C e s')(hE:E (.ref C) none H'):(cxOf (CXr P w) P w K mg base N qual scope f cd A outer s₀ H₀ E).xe (.ref e) s':=by
 unfold cxOf
 dsimp only
 unfold leaving
 refine wpAny_bind (h.come rfl rfl fun h2 s1 H1 I f=>⟨e,C,H',rfl,?_,hE⟩)
 have J:=f.inv I
 obtain⟨B,x,kb,hk,_⟩:=f
 refine⟨B,⟨x.stay,x.new,x.fr.2.2,x.tr⟩,fun b o q n hb=>?_,hk,J.base,J.os,J.bare⟩
 refine kb b o (I.base.keep b o q n hb (by simp[cxOf])) (I.base.free b o q n (by simp[cxOf])) fun z=>?_
 rcases List.mem_cons.mp (show b∈s₀.heap.objs.size::frs outer from z) with z | z
 ·rw[z] at q;exact absurd (Heap.lt_size q) (Nat.lt_irrefl _)
 ·exact hb z
end L2
namespace L2
open PySem PySem.Spec PyProof.Rows
inductive Fl where
 | nx | bk | ct | rt (d:D) | rf (ds:List D) | r2 (dss:List (List D)) | xc (c:Str) | ra (k:AK) (ps:List Pt)
abbrev FS:=DE0->Option (Fl×DE0)
structure N2 (K:PySem.W.Frag) (G:Gd) (H0 H:Hp) (l:Addr) (ls:List Addr) (dss:List (List D)):Prop where
 nd:(l::ls).Nodup
 new:∀a∈l::ls,H0 a=none
 top:H l=some (.lst (ls.map V.ref))
 len:ls.length=dss.length
 inn:∀(j:Nat) (ds:List D) (a:Addr),dss[j]?=some ds->ls[j]?=some a->∃vs,H a=some (.lst vs)/\Reps K H (fun b=>G b/\b∉l::ls) ds vs
def EndOk(X:Cx)(G:Gd)(H0:Hp)(W:Addr->Prop)(H:Hp)(Dn:Ends)(env':DE0):Fl->Prop
 | .nx=>∀W' σ' H',Step W H W' H'->Ok X.K G H0 W' env' σ' H'->Dn.nx σ' H'
 | .bk=>∀W' σ' H',Step W H W' H'->Ok X.K G H0 W' env' σ' H'->Dn.bk σ' H'
 | .ct=>∀W' σ' H',Step W H W' H'->Ok X.K G H0 W' env' σ' H'->Dn.ct σ' H'
 | .rt d=>∀W' σ' v H',Step W H W' H'->Ok X.K G H0 W' env' σ' H'->Rep X.K H' (Ow G W') d v->Dn.rt v H'
 | .rf ds=>∀l vs H',Same H0 H'->H0 l=none->H' l=some (.lst vs)->Reps X.K H' (fun a=>G a/\a≠l) ds vs->Dn.rt (.ref l) H'
 | .r2 dss=>∀l ls H',Same H0 H'->N2 X.K G H0 H' l ls dss->Dn.rt (.ref l) H'
 | .xc c=>∀W' σ' H' C,Cl X.K c C->Step W H W' H'->Ok X.K G H0 W' env' σ' H'->∀pins e s',XS X pins σ' H' C e s'->X.xe (.ref e) s'
 | .ra k ps=>∀W' σ' p H',Step W H W' H'->Ok X.K G H0 W' env' σ' H'->SlOk X.K G W' H' (.ag k none ps) (.ref p)->Dn.rt (.ref p) H'
def tDS(X:Cx)(G:Gd)(H0:Hp)(g:FS):TS:=fun Dn σ H=>∃W env fl env',Ok X.K G H0 W env σ H/\g env=some (fl,env')/\EndOk X G H0 W H Dn env' fl
structure DSx (X:Cx) (G:Gd) (H0:Hp) (s:Stmt) (g:FS):Prop where
 out:PS X s (tDS X G H0 g)
structure DBx (X:Cx) (G:Gd) (H0:Hp) (s:List Stmt) (g:FS):Prop where
 out:PSs X s (tDS X G H0 g)
variable{X:Cx}{e:Expr}{t t':TS}
theorem PS.imp{e:Stmt}(h:PS X e t)(i:∀D σ H,t' D σ H->t D σ H):PS X e t':=fun pins s σ H D I q=>h pins s σ H D I (i D σ H q)
theorem PSs.imp{e:List Stmt}(h:PSs X e t)(i:∀D σ H,t' D σ H->t D σ H):PSs X e t':=fun pins s σ H D I q=>h pins s σ H D I (i D σ H q)
variable{G:Gd}{W W1:Addr->Prop}{H0 H H1:Hp}{Dn:Ends}{env':DE0}{fl:Fl}
protected theorem EndOk.step(st:Step W H W1 H1)(h:EndOk X G H0 W H Dn env' fl):EndOk X G H0 W1 H1 Dn env' fl:=by
 cases fl with
 | nx=>exact fun W' σ' H' s o=>h W' σ' H' (st.trans s) o
 | bk=>exact fun W' σ' H' s o=>h W' σ' H' (st.trans s) o
 | ct=>exact fun W' σ' H' s o=>h W' σ' H' (st.trans s) o
 | rt d=>exact fun W' σ' v H' s o=>h W' σ' v H' (st.trans s) o
 | rf ds=>exact h
 | r2 dss=>exact h
 | xc c=>exact fun W' σ' H' C z s o=>h W' σ' H' C z (st.trans s) o
 | ra k ps=>exact fun W' σ' p H' s o=>h W' σ' p H' (st.trans s) o
def Fl.out:Fl->Bool | .rt _=>true | .rf _=>true | .r2 _=>true | .xc _=>true | .ra _ _=>true | _=>false
variable{Dn':Ends}
theorem EndOk.go(ho:fl.out=true)(h:EndOk X G H0 W H Dn env' fl)(e:Dn'.rt=Dn.rt)(st:Step W H W1 H1):EndOk X G H0 W1 H1 Dn' env' fl:=by
 cases fl with
 | nx=>cases ho
 | bk=>cases ho
 | ct=>cases ho
 | rt d=>intro W' σ' v H' s o r;rw[e];exact h W' σ' v H' (st.trans s) o r
 | rf ds=>intro v vs H' s n l r;rw[e];exact h v vs H' s n l r
 | r2 dss=>intro v ls H' s n;rw[e];exact h v ls H' s n
 | xc c=>exact fun W' σ' H' C z s o=>h W' σ' H' C z (st.trans s) o
 | ra k ps=>intro W' σ' p H' s o r;rw[e];exact h W' σ' p H' (st.trans s) o r
@[simp] def sNil:FS:=fun e=>some (.nx,e)
@[simp] def sSeq(g h:FS):FS:=fun e=>(g e).bind fun r=>match r.1 with | .nx=>h r.2 | _=>some r
@[simp] def sSet(i:Nat)(f:FE):FS:=fun e=>(f e).map fun r=>(.nx,r.2.set i (some (.sh r.1)))
@[simp] def sOwn(i:Nat)(f:FA):FS:=fun e=>(f e).map fun r=>(.nx,r.2.set i (some (.ow r.1)))
@[simp] def sRet(f:FE):FS:=fun e=>(f e).map fun r=>(.rt r.1,r.2)
@[simp] def sIf(c:FT)(g h:FS):FS:=fun e=>(c e).bind fun r=>if r.1=true then g r.2 else h r.2
@[simp] def ze9(f:FE):FS:=fun e=>(f e).map fun r=>(.nx,r.2)
def forL(i:Nat)(g:FS):List D->DE0->Option (Fl×DE0)
 | [],e=>some (.nx,e)
 | d::r,e=>(g (e.set i (some (.sh d)))).bind fun q=>match q.1 with | .nx=>forL i g r q.2 | .ct=>forL i g r q.2 | .bk=>some (.nx,q.2) | .rt d=>some (.rt d,q.2) | .rf ds=>some (.rf ds,q.2) | .r2 ds=>some (.r2 ds,q.2) | .xc c=>some (.xc c,q.2) | .ra k ps=>some (.ra k ps,q.2)
@[simp] def sFor(i:Nat)(fi:FI)(g:FS):FS:=fun e=>(fi e).bind fun r=>forL i g r.1 r.2
section
variable {X:Cx} {G:Gd} {H0:Hp} {a b c e:Expr} {es rest:List Expr} {f g:FE} {F:FA} {p q:FT} {s:Stmt} {ss:List Stmt} {u v:FS} {pos p' p1 pos1:Pos} {x:Str} {i:Nat}
theorem za4  : DBx X G H0 [] sNil:=⟨zjp.imp fun Dn σ H ⟨W,env,fl,env',ok,q,k⟩=>by
 cases q
 exact k W σ H Step.refl ok⟩
theorem zae(h1:DSx X G H0 s u)(h2:DBx X G H0 ss v):DBx X G H0 (s::ss) (sSeq u v):=⟨(zh0 h1.out h2.out).imp fun Dn σ H ⟨W,env,fl,env',ok,q,k⟩=>by
 cases e1:u env with
 | none=>simp[sSeq,e1] at q
 | some r =>
   obtain⟨fl1,env1⟩:=r
   refine⟨W,env,fl1,env1,ok,e1,?_⟩
   cases fl1 with
   | nx =>
     have q:v env1=some (fl,env'):=by simpa[sSeq,e1] using q
     exact fun W1 σ1 H1 s1 ok1=>⟨W1,env1,fl,env',ok1,q,k.step s1⟩
   | bk =>
     have q:some (Fl.bk,env1)=some (fl,env'):=by simpa[sSeq,e1] using q
     cases q;exact k
   | ct =>
     have q:some (Fl.ct,env1)=some (fl,env'):=by simpa[sSeq,e1] using q
     cases q;exact k
   | rt d =>
     have q:some (Fl.rt d,env1)=some (fl,env'):=by simpa[sSeq,e1] using q
     cases q;exact k
   | rf d =>
     have q:some (Fl.rf d,env1)=some (fl,env'):=by simpa[sSeq,e1] using q
     cases q;exact k
   | r2 d =>
     have q:some (Fl.r2 d,env1)=some (fl,env'):=by simpa[sSeq,e1] using q
     cases q;exact k
   | xc d =>
     have q:some (Fl.xc d,env1)=some (fl,env'):=by simpa[sSeq,e1] using q
     cases q;exact k
   | ra d d' =>
     have q:some (Fl.ra d d',env1)=some (fl,env'):=by simpa[sSeq,e1] using q
     cases q;exact k⟩
theorem zai(h:DSx X G H0 s u):DBx X G H0 [s] u:=⟨zjq h.out⟩
theorem zm7(hN:X.N.Nodup)(hi:X.N[i]?=some x:=by rfl)(he:DEx X G H0 e f)(ps:PS X (.Assign [.Name x p'] e pos) (tAsg (tD X.K G H0 f) (zcy i))):DSx X G H0 (.Assign [.Name x p'] e pos) (sSet i f):=⟨ps.imp fun Dn σ H ⟨W,env,fl,env',ok,q,k⟩=>by
 cases e1:f env with
 | none=>simp[sSet,e1] at q
 | some r =>
   have q:some (Fl.nx,r.2.set i (some (Sl.sh r.1)))=some (fl,env'):=by simpa[sSet,e1] using q
   cases q
   exact⟨W,env,_,_,ok,e1,fun W1 v1 H1 s1 ok1 p1=>k W1 _ H1 s1 (ok1.set p1)⟩⟩
theorem zjf(ps:PS X (.Assign [.Name x p'] e pos) (tAsg (tDF X.K G H0 F) (zcy i))):DSx X G H0 (.Assign [.Name x p'] e pos) (sOwn i F):=⟨ps.imp fun Dn σ H ⟨W,env,fl,env',ok,q,k⟩=>by
 cases e1:F env with
 | none=>simp[sOwn,e1] at q
 | some r =>
   have q:some (Fl.nx,r.2.set i (some (Sl.ow r.1)))=some (fl,env'):=by simpa[sOwn,e1] using q
   cases q
   exact⟨W,env,_,_,ok,e1,fun W1 l vs H1 s1 ok1 ok2 nW hl rp=>k (addW W1 l) _ H1 s1 (ok2.setO (.inr rfl) hl rp (ok1.noOwn nW))⟩⟩
theorem zao(he:DEx X G H0 e f):DSx X G H0 (.Return (some e) pos) (sRet f):=⟨(zi3 he.out).imp fun Dn σ H ⟨W,env,fl,env',ok,q,k⟩=>by
 cases e1:f env with
 | none=>simp[sRet,e1] at q
 | some r =>
   have q:some (Fl.rt r.1,r.2)=some (fl,env'):=by simpa[sRet,e1] using q
   cases q
   exact⟨W,env,_,_,ok,e1,fun W1 v1 H1 s1 ok1 p1=>k W1 σ v1 H1 s1 ok1 p1⟩⟩
theorem zb1{aa bb:List Stmt}(hc:DTx X G H0 c p)(ha:DBx X G H0 aa u)(hb:DBx X G H0 bb v):DSx X G H0 (.If c aa bb pos) (sIf p u v):=⟨(zny hc.out ha.out hb.out).imp fun Dn σ H ⟨W,env,fl,env',ok,q,k⟩=>by
 cases e1:p env with
 | none=>simp[sIf,e1] at q
 | some r =>
   obtain⟨t,env1⟩:=r
   refine⟨W,env,t,env1,ok,e1,fun W1 H1 s1 ok1=>?_⟩
   cases t with
   | true=>rw[if_pos rfl];exact⟨W1,env1,fl,env',ok1,by simpa[sIf,e1] using q,k.step s1⟩
   | false=>rw[if_neg Bool.false_ne_true];exact⟨W1,env1,fl,env',ok1,by simpa[sIf,e1] using q,k.step s1⟩⟩
theorem zhd(he:DEx X G H0 e f)(hs:swapsWith e none pos.line X.env=pure false:=by rfl):DSx X G H0 (.Expr e pos) (ze9 f):=⟨(zjr he.out hs).imp fun Dn σ H ⟨W,env,fl,env',ok,q,k⟩=>by
 cases e1:f env with
 | none=>simp[ze9,e1] at q
 | some r =>
   have q:some (Fl.nx,r.2)=some (fl,env'):=by simpa[ze9,e1] using q
   cases q
   exact⟨W,env,_,_,ok,e1,fun W1 v1 H1 s1 ok1 p1=>k W1 σ H1 s1 ok1⟩⟩
theorem zdn{tg:Str}{px:Pos}{body:List Stmt}{fi:FI}(hi:DIx X G H0 (.Name tg px) a fi)(hg:PG X (.Name tg px) (zcy i))(hb:DBx X G H0 body u)(hp:PassesOwn (model X.prog X.w) X.A X.env X.xe:=by passes_own)(hc:X.calm=true:=by rfl)(hs:∀x,foldedSetIterable a X.env x=pure x:=by intro _;rfl):DSx X G H0 (.For (.Name tg px) a body [] pos) (sFor i fi u):=⟨(zi5 hp hc hi.out hg hb.out hs).imp fun Dn σ H ⟨W,env,fl,env',ok,q,k⟩=>by
 cases e1:fi env with
 | none=>simp[sFor,e1] at q
 | some z =>
   obtain⟨ds,env1⟩:=z
   have q:forL i u ds env1=some (fl,env'):=by simpa[sFor,e1] using q
   refine⟨W,env,ds,env1,ok,e1,fun W1 J H1 s1 ok1 wk=>?_⟩
   refine⟨fun n m σ' H'=>∃W' env2,m=ds.length-n/\n<=ds.length/\Step W1 H1 W' H'/\Ok X.K G H0 W' env2 σ' H'/\forL i u (ds.drop n) env2=some (fl,env'),⟨ds.length,W1,env1,rfl,Nat.zero_le _,Step.refl,ok1,q⟩,?_⟩
   rintro n m σ' H' ⟨W',env2,rfl,hn,st,ok',ef⟩
   by_cases hlt:n<ds.length
   ·have eq:ds.drop n=ds[n]::ds.drop (n+1):=List.drop_eq_getElem_cons hlt
    rw[eq] at ef
    obtain⟨hg,hy⟩:=wk.go W' H' n ds[n] st (by simp[hlt])
    unfold forL at ef
    cases e3:u (env2.set i (some (.sh ds[n]))) with
    | none=>rw[e3] at ef;cases ef
    | some r =>
      obtain⟨fl3,env3⟩:=r
      rw[e3,Option.bind_some] at ef
      refine .inr ⟨hg,fun σ2 H2=>∃W2 env4,Step W1 H1 W2 H2/\Ok X.K G H0 W2 env4 σ2 H2/\forL i u (ds.drop (n+1)) env4=some (fl,env'),fun σ2 H2 ⟨W2,env4,s2,ok2,e4⟩=>⟨ds.length-(n+1),by omega,W2,env4,rfl,hlt,s2,ok2,e4⟩,fun x H'' y=>?_⟩
      obtain⟨rfl,rx⟩:=hy x H'' y
      refine⟨W',_,fl3,env3,ok'.set rx,e3,?_⟩
      cases fl3 with
      | nx=>exact fun W2 σ2 H2 s2 ok2=>⟨W2,env3,st.trans s2,ok2,ef⟩
      | ct=>exact fun W2 σ2 H2 s2 ok2=>⟨W2,env3,st.trans s2,ok2,ef⟩
      | bk =>
        cases ef
        exact fun W2 σ2 H2 s2 ok2=>k W2 σ2 H2 ((s1.trans st).trans s2) ok2
      | rt d=>cases ef;exact k.go rfl rfl (s1.trans st)
      | rf d=>cases ef;exact k.go rfl rfl (s1.trans st)
      | r2 d=>cases ef;exact k.go rfl rfl (s1.trans st)
      | xc d=>cases ef;exact k.go rfl rfl (s1.trans st)
      | ra d d'=>cases ef;exact k.go rfl rfl (s1.trans st)
   ·have e:n=ds.length:=by omega
    subst e
    rw[List.drop_length] at ef
    cases ef
    exact .inl ⟨wk.stop W' H' st,k W' σ' H' (s1.trans st) ok'⟩⟩
end
variable{n:Nat}
theorem lt20(h:n<2 ^ 20):n<sizeLine:=Nat.lt_of_lt_of_le h (by rw[sizeLine_eq];decide)
@[simp] def zkm(d:D)(e:DE0)(i:Nat):Option (D×DE0):=match e[i]? with
 | some (some (.ow ds))=>if Few (ds.length+1) then some (.non,e.set i (some (.ow (ds++[d])))) else none
 | _=>none
@[simp] def zdb(i:Nat)(f:FE):FE:=fun e=>match e[i]? with
 | some (some (.ow _))=>(f e).bind fun r=>zkm r.1 r.2 i
 | _=>none
variable{Nn Cn:List Str}{i:Nat}{a:Expr}{f:FE}{pos p' p1:Pos}{x:Str}
theorem zeu(ha:DEx X G H0 a f)(an:Ats Nn Cn X)(hno:Nn[i]?=some x:=by rfl)(hbase:attributeBase (.Name x p') "append" X.env (eval (.Name x p') X.env)=eval (.Name x p') X.env:=by rfl)(hfew:((backTo pos (starEach [a] X.env)).all (fun x=>!x.1) && (backToKw pos (keywordEach [] X.env)).all (fun x=>x.1.isSome)
   && decide ([a].length+([]:List Keyword).length+(if ([]:List Keyword).isEmpty then 0 else 1)<30))=true:=by rfl)(hline:(p1.endLine==pos.line)=true:=by rfl)(hs:starEach [a] X.env=(false,eval a X.env)::starEach [] X.env:=by rfl) :
  DEx X G H0 (.Call (.Attribute (.Name x p') "append" p1) [a] [] pos) (zdb i f):=⟨(zn8 PySem.F.plainAttrs_list PySem.F.slot_list_append PySem.F.type_list_append zgt ((an.a hno).pe) (zbz ha.out zc4 hs) hbase hfew hline hs rfl).imp fun σ H Q ⟨W,env,d,env',ok,q,k⟩=>by
 unfold zdb at q
 split at q
 case h_2=>cases q
 rename_i ds0 hq0
 obtain⟨v,hv,l,vs0,rfl,hW0,hl0,_⟩:=ok.slot i _ hq0
 cases e1:f env with
 | none=>rw[e1] at q;cases q
 | some r =>
   obtain⟨da,env1⟩:=r
   rw[e1,Option.bind_some] at q
   unfold zkm at q
   dsimp only at q
   split at q
   case h_2=>cases q
   rename_i ds hq
   split at q
   case isFalse=>cases q
   rename_i hlen
   cases q
   refine⟨_,hv,.inl ⟨rfl,_,.inl (.inl hl0)⟩,W,env,da,env1,ok,e1,fun W1 v1 H1 s1 ok1 r1=>?_⟩
   obtain⟨v',e2,l',vs,e3,hW,hl,r⟩:=ok1.slot i _ hq
   rw[hv] at e2;cases e2;cases e3
   obtain⟨t1,t2⟩:=ok1.turn hq hv (r.append (.cons r1 .nil))
   exact⟨l,vs,v1,rfl,rfl,hl,by rw[← r.length];exact lt20 (Nat.lt_of_succ_le hlen),k W1 _ _ (s1.trans t2) t1 .non⟩⟩
def zon(k:D)(e:DE0)(i:Nat):Option (D×DE0):=match k,e[i]? with
 | .int k,some (some (.ow ds))=>if Few ds.length then(ixN ds.length k).bind fun j=>(ds[j]?).map fun d=>(d,e.set i (some (.ow (ds.eraseIdx j)))) else none
 | _,_=>none
def zm8(i:Nat)(f:FE):FE:=fun e=>match e[i]? with
 | some (some (.ow _))=>(f e).bind fun r=>zon r.1 r.2 i
 | _=>none
def zbk(n:Nat)(ds:List D):DE0:=ds.map (fun d=>some (Sl.sh d))++List.replicate (n-ds.length) none
def runD(n ar:Nat)(g:FS):List D->Option D:=fun ds=>if ds.length=ar then(match g (zbk n ds) with | some (.rt d,_)=>some d | some (.nx,_)=>some .non | _=>none) else none
theorem zcq:∀ {n:Nat} {ds:List D} {i:Nat} {s:Sl},(zbk n ds)[i]?=some (some s)->∃d,ds[i]?=some d/\s=.sh d:=fun {n ds i s} h=>by
 unfold zbk at h
 by_cases hi:i<ds.length
 ·rw[List.getElem?_append_left (by simpa using hi),List.getElem?_map] at h
  cases e:ds[i]? with
  | none=>rw[e] at h;cases h
  | some d=>rw[e] at h;cases h;exact⟨d,rfl,rfl⟩
 ·rw[List.getElem?_append_right (by simpa using hi),List.getElem?_replicate] at h
  split at h <;> cases h
variable{N:List Str}{K:PySem.W.Frag}
theorem zc2{O:Addr->Prop}{ds:List D}{vs:List V}(r:Reps K H O ds vs):Ok K (gd fun a=>O a\/H a=none) H NoW (zbk N.length ds) (zbv N vs) H:=by
 refine⟨Same.refl _,fun a z=>.inr z,fun l z=>z.elim,fun i s e=>?_,fun i j s1 s2 v1 v2 a e1 _ _ _ o _=>?_,?_⟩
 ·obtain⟨d,e1,rfl⟩:=zcq e
  obtain⟨v,e2,r1⟩:=r.get e1
  refine⟨v,?_,r1.mono (fun _ _ h=>h) fun a us o h=>⟨⟨.inl o,fun z=>z⟩,h⟩⟩
  unfold zbv
  rw[List.getElem?_append_left (by simpa using(List.getElem?_eq_some_iff.mp e2).1),List.getElem?_map,e2]
  rfl
 ·obtain⟨d,_,z⟩:=zcq e1
  subst z
  exact o.elim
 ·unfold zbk zbv
  rw[List.length_append,List.length_append,List.length_map,List.length_map,List.length_replicate,List.length_replicate,r.length]
variable{CX:CXT}{fd:FuncData}{ps:List Str}{k:Nat}{g:FE}{P:Program}{w:World}{mg:Str->Option Value}{base:Heap}
theorem fn_D{qual:Str}{st:Stmt}{f:Addr}{g:FS}{ar:Nat}(F:Fun K x qual st f fd)(S:zb0 N ps (zac st))(hn:n=N.length)(ha:ar=ps.length)(hbody:∀(cdv:Value) (A:Around) (outer:List Env) (s:Shared) (H:Hp) (E:XK) (G:Gd) (H0:Hp),Room k (A.deeper (envOfC qual (zac st) s.heap.objs.size f cdv)) ->
   DBx (cxOf CX P w K mg base N qual (zac st) f cdv A outer s H E).nox G H0 (zat st) g):FnOk P w K mg base CX (k+1) f fd ps (dSp K (runD n ar g)):=by
 subst hn ha
 refine F.okC S (fun vs H Q E h=>?_) (fun cdv A outer s H vs Q E hr h=>?_)
 ·obtain⟨O,ds,d,r,e,_⟩:=h
  rw[← r.length]
  unfold runD at e
  split at e
  ·assumption
  ·cases e
 ·obtain⟨O,ds,d,r,e,k⟩:=h
  refine⟨_,(hbody cdv A outer s H E (gd fun a=>O a\/H a=none) H hr).out,?_⟩
  unfold runD at e
  split at e
  case isFalse=>cases e
  split at e
  ·rename_i d' env' hg
   cases e
   exact⟨NoW,_,_,env',zc2 r,hg,fun W' σ' v H' st ok' rp=>k v H' ok'.stay (rp.mono (fun _ _ h=>h) fun a us o h=>⟨o.1,h⟩)⟩
  ·rename_i env' hg
   cases e
   exact⟨NoW,_,_,env',zc2 r,hg,fun W' σ' H' st ok'=>k .non H' ok'.stay .non⟩
  ·cases e
def zfu(K:PySem.W.Frag):Sp:=fun vs H Q _=>∃(a:Addr) (ns:List Int),vs=[.ref a]/\SqL K H a (ns.map V.int)/\ns.length<=63/\∀H',Q (.bl true) H'
theorem zoo{f:Addr}{m:List D->Option D}(F:FnOk P w K mg base CX k f fd ps (dSp K m))(h:∀ns:List Int,ns.length<=63->m [.lst (ns.map D.int)]=some (.bl true)) :
  FnOk P w K mg base CX k f fd ps (zfu K):=F.imp fun vs H Q E ⟨a,ns,e,hr,hl,q⟩=>by
 subst e
 exact⟨fun _=>True,[.lst (ns.map D.int)],.bl true,.cons (hr.elim (fun z=>.lst trivial z (zb6 ns)) fun z=>.klst z (zb6 ns)) .nil,h ns hl,fun v H' _ r=>by rw[r.bl_];exact q H'⟩
variable{F:FA}
theorem fr_D:∀σ H Q,tD X.K G H0 (fLst F) σ H Q->tDF X.K G H0 F σ H Q:=fun σ H Q ⟨W,env,d,env',ok,q,k⟩=>by
 cases e1:F env with
 | none=>simp[fLst,e1] at q
 | some r =>
   have q:some (D.lst r.1,r.2)=some (d,env'):=by simpa[fLst,e1] using q
   cases q
   refine⟨W,env,_,_,ok,e1,fun W1 l vs H1 s1 ok1 ok2 nW hl rp=>k W1 _ H1 ⟨s1.keep,fun a z=>s1.ws a (.inl z)⟩ ok1 (.lst ⟨ok1.good l (ok2.wl l (.inr rfl)).1,nW⟩ (.inl hl) (rp.mono (fun _ _ h=>h) fun a us o h=>⟨⟨o.1,fun z=>o.2 (.inl z)⟩,h⟩))⟩
theorem zah(tn:Tos Nn X)(he:DEx X G H0 e f)(hto:Nn[i]?=some x:=by rfl)(hs:swapsWith e (some (.Name x p')) pos.line X.env=pure false:=by rfl):DSx X G H0 (.Assign [.Name x p'] e pos) (sSet i f):=zm7 (tn.t hto).nd (tn.t hto).n he (zi4 (tn.t hto).nd (tn.t hto).n (tn.t hto).l he.out hs (tn.t hto).f)
theorem zkn(ps:PS X (.Assign [.Name x p'] e pos) (tAsg (tDF X.K G H0 F) (zcy i))):DSx X G H0 (.Assign [.Name x p'] e pos) (sSet i (fLst F)):=⟨(PS.imp ps (t':=tAsg (tD X.K G H0 (fLst F)) (zcy i)) fun Dn σ H h=>fr_D σ H _ h).imp fun Dn σ H ⟨W,env,fl,env',ok,q,k⟩=>by
 cases e1:fLst F env with
 | none=>simp only[sSet,e1,Option.map_none] at q;cases q
 | some r =>
   have q:some (Fl.nx,r.2.set i (some (Sl.sh r.1)))=some (fl,env'):=by simpa only[sSet,e1,Option.map_some] using q
   cases q
   exact⟨W,env,_,_,ok,e1,fun W1 v1 H1 s1 ok1 p1=>k W1 _ H1 s1 (ok1.set p1)⟩⟩
variable{y:Str}{ix:List Nat}{sc:Scope}{fi:FI}{b:Expr}
theorem zfa{Cm:Cx->Prop}{px py spos:Pos}{te:FE}{tt:FT}{cd:Expr}(hc:∀cl C s₂ H₂ fp pins σ,Inv X pins σ H₂ s₂->(∀b∈fp,FpOk X pins H₂ b)->Cm (zak X x (subN Nn ix) sc cl C s₂ H₂ fp))(an:Ats Nn Cn X)(tn:Tos Nn X)(hi:DIC Cm X G H0 (.Name x px) a fi)(hif:∀cl C s₂ H₂ fp G H0,Cm (zak X x (subN Nn ix) sc cl C s₂ H₂ fp)->Ats (x::(subN Nn ix)) (subN Nn ix) (zak X x (subN Nn ix) sc cl C s₂ H₂ fp)->DTx (zak X x (subN Nn ix) sc cl C s₂ H₂ fp) G H0 cd tt)(hel:∀cl C s₂ H₂ fp G H0,Cm (zak X x (subN Nn ix) sc cl C s₂ H₂ fp)->Ats (x::(subN Nn ix)) (subN Nn ix) (zak X x (subN Nn ix) sc cl C s₂ H₂ fp)->DEx (zak X x (subN Nn ix) sc cl C s₂ H₂ fp) G H0 e te)(hcb:zg0 Nn Cn ix x sc=true:=by decide +kernel)(hto:Nn[i]?=some y:=by rfl)(hsw:swapsWith (.ListComp e [⟨.Name x px,a,[cd],0⟩] sc pos) (some (.Name y py)) spos.line X.env=pure true:=by rfl)(hs:∀v,foldedSetIterable a X.env v=pure v:=by intro _;rfl) :
  PS X (.Assign [.Name y py] (.ListComp e [⟨.Name x px,a,[cd],0⟩] sc pos) spos) (tAsg (tDF X.K G H0 (ze7 fi ix tt te)) (zcy i)) :=
 (zka (zkc an hcb) hc (tn.t hto).nd (tn.t hto).n (tn.t hto).l hi.out (fun cl C s₂ H₂ fp cm=>if_x (X:=X) rfl (fun G H0=>hif cl C s₂ H₂ fp G H0 cm (zfp hcb))) (fun cl C s₂ H₂ fp cm=>el_x (X:=X) rfl (fun G H0=>hel cl C s₂ H₂ fp G H0 cm (zfp hcb))) hsw (tn.t hto).f hs).imp fun D σ H h=>zm5 σ H _ h
abbrev FA2:=DE0->Option (List (List D)×DE0)
def tDF2(K:PySem.W.Frag)(G:Gd)(H0:Hp)(f:FA2):TE:=fun σ H Q=>∃W env dss env',Ok K G H0 W env σ H/\f env=some (dss,env') /\
 ∀W' l H',Step W H W' H'->Ok K G H0 W' env' σ H'->SlOk K G W' H' (.o2 dss) (.ref l) ->
  (∀(j:Nat) (s:Sl) (v:V) (a:Addr),env'[j]?=some (some s)->σ[j]?=some (some v)->Owns H' (.o2 dss) (.ref l) a->¬Owns H' s v a)->Q (.ref l) H'
structure DF2x (X:Cx) (G:Gd) (H0:Hp) (e:Expr) (f:FA2):Prop where
 out:PE X e (tDF2 X.K G H0 f)
@[simp] def app2(k d:D)(e:DE0)(i:Nat):Option (D×DE0):=match k,e[i]? with
 | .int k,some (some (.o2 dss))=>(ixN dss.length k).bind fun j=>(dss[j]?).bind fun ds=>if Few (ds.length+1) then some (.non,e.set i (some (.o2 (dss.set j (ds++[d]))))) else none
 | _,_=>none
@[simp] def zij(i:Nat)(g f:FE):FE:=fun e=>match e[i]? with
 | some (some (.o2 _))=>(g e).bind fun r=>(f (r.2.map capt)).bind fun q=>app2 r.1 q.1 r.2 i
 | _=>none
theorem za2{env:Env}:∀ {names:List (Str×NameKind)} {x:Str},names.lookup x=some .globalImplicit ->
  (names.map fun(n,k)=>if (k==NameKind.free && env.scope.kind==.function && env.kindOf n==some .cell) then(n,NameKind.cell) else(n,k)).lookup x=some .globalImplicit
 | [],_,h=>by simp at h
 | (n,k)::r,x,h=>by
   have ih:=@za2 env r x
   show List.lookup x ((if (k==NameKind.free && env.scope.kind==.function && env.kindOf n==some .cell)=true then(n,NameKind.cell) else(n,k))::_)=_
   cases hx:x==n with
   | true =>
     simp only[List.lookup_cons,hx] at h
     cases h
     simp[List.lookup_cons,hx]
   | false =>
     simp only[List.lookup_cons,hx] at h
     by_cases hc:(k==NameKind.free && env.scope.kind==.function && env.kindOf n==some .cell)=true
     ·rw[if_pos hc];simp only[List.lookup_cons,hx];exact ih h
     ·rw[if_neg hc];simp only[List.lookup_cons,hx];exact ih h
variable{N':List Str}{cl:List (Str×Addr)}{C:Addr}{s:Shared}{fp:List Addr}
theorem gl_c(h:sc.names.lookup x=some .globalImplicit):Gl (zak X y N' sc cl C s H fp) x:=za2 h
def AllK(X:Cx):List Str->Prop
 | []=>True
 | u::r=>(X.env.kindOf u=some .cell\/X.env.kindOf u=some .free)/\AllK X r
theorem AllK.mem:∀ {l:List Str},AllK X l->∀u∈l,X.env.kindOf u=some .cell\/X.env.kindOf u=some .free
 | [],_,_,h=>nomatch h
 | _::_,h,u,hu=>by
   rcases List.mem_cons.mp hu with rfl | hu
   ·exact h.1
   ·exact AllK.mem h.2 u hu
theorem zm9:Ty "int" "int":=⟨by decide +kernel,by decide +kernel,by decide +kernel,by decide +kernel⟩
theorem zko:Ty "bool" "bool":=⟨by decide +kernel,by decide +kernel,by decide +kernel,by decide +kernel⟩
theorem zhe:Ty "str" "str":=⟨by decide +kernel,by decide +kernel,by decide +kernel,by decide +kernel⟩
theorem zkp:Ty "list" "list":=⟨by decide +kernel,by decide +kernel,by decide +kernel,by decide +kernel⟩
theorem zfv:Ty "tuple" "tuple":=⟨by decide +kernel,by decide +kernel,by decide +kernel,by decide +kernel⟩
theorem Vals.ins{xs:List V}{its:List Value}{y:V}{u:Value}(r:Vals xs its)(ru:Vals [y] [u])(k:Nat):Vals (xs.take k++y::xs.drop k) (its.take k++u::its.drop k):=by
 have:=(r.take k).append (ru.append (r.drop k))
 simpa using this
def zcu:List Nat->List D->DE0->DE0
 | i::ix,d::ds,e=>zcu ix ds (e.set i (some (.sh d)))
 | _,_,e=>e
def gIs:List Nat->TGs
 | []=>gNil
 | i::ix=>zlu (zcy i) (gIs ix)
def sUnp(ix:List Nat)(f:FE):FS:=fun e=>(f e).bind fun r=>match r.1 with
 | .tup ds=>if ds.length=ix.length then some (.nx,zcu ix ds r.2) else none
 | _=>none
def unp(ix:List Nat)(d:D)(e:DE0):Option DE0:=match d with
 | .tup ds=>if ds.length=ix.length then some (zcu ix ds e) else none
 | _=>none
def forU(ix:List Nat)(g:FS):List D->DE0->Option (Fl×DE0)
 | [],e=>some (.nx,e)
 | d::r,e=>(unp ix d e).bind fun e1=>(g e1).bind fun q=>match q.1 with | .nx=>forU ix g r q.2 | .ct=>forU ix g r q.2 | .bk=>some (.nx,q.2) | .rt d=>some (.rt d,q.2) | .rf ds=>some (.rf ds,q.2) | .r2 ds=>some (.r2 ds,q.2) | .xc c=>some (.xc c,q.2) | .ra k ps=>some (.ra k ps,q.2)
@[simp] def zhf(ix:List Nat)(fi:FI)(g:FS):FS:=fun e=>(fi e).bind fun r=>forU ix g r.1 r.2
theorem zjg{K:PySem.W.Frag}{W:Addr->Prop}{H:Hp}:∀(ix:List Nat) (ds:List D) (vs:List V) (env:DE0) (σ:St) (Q:St->Hp->Prop),Ok K G H0 W env σ H->Reps K H (Ow G W) ds vs->ds.length=ix.length ->
  (∀σ',Ok K G H0 W (zcu ix ds env) σ' H->Q σ' H)->gIs ix vs σ H Q
 | [],ds,vs,env,σ,Q,ok,r,hl,k=>by
   cases r with
   | nil=>exact⟨rfl,k σ ok⟩
   | cons _ _=>cases hl
 | i::ix,ds,vs,env,σ,Q,ok,r,hl,k=>by
   cases r with
   | nil=>cases hl
   | @cons d v ds vs r0 r =>
     refine⟨v,vs,rfl,?_⟩
     exact zjg ix ds vs _ _ Q (ok.set r0) r (Nat.succ.inj hl) k
theorem zna  : PGs X [] (gIs []):=zjs
variable{es:List Expr}
theorem zfb(tn:Tos Nn X)(h:PGs X es (gIs ix))(hto:Nn[i]?=some x:=by rfl)(hs:(assignEach (.Name x pos::es) X.env).map (·.2)=assign (.Name x pos) X.env::(assignEach es X.env).map (·.2):=by rfl):PGs X (.Name x pos::es) (gIs (i::ix)):=zh1 (zgi (tn.t hto).nd (tn.t hto).n (tn.t hto).l (tn.t hto).f) h hs
variable{u:FS}
theorem zkq{body:List Stmt}(hi:DIx X G H0 (.Tuple es k p1) a fi)(h:PGs X es (gIs ix))(hb:DBx X G H0 body u)(hp:PassesOwn (model X.prog X.w) X.A X.env X.xe:=by passes_own)(hc:X.calm=true:=by rfl)(hn:(assignEach es X.env).length=ix.length:=by rfl)(hst:(assignEach es X.env).findIdx? (·.1)=none:=by rfl)(hs:∀x,foldedSetIterable a X.env x=pure x:=by intro _;rfl):DSx X G H0 (.For (.Tuple es k p1) a body [] pos) (zhf ix fi u):=⟨(zi5 hp hc hi.out (zlv (n:=ix.length) hc h hn hst) hb.out hs).imp fun Dn σ H ⟨W,env,fl,env',ok,q,k⟩=>by
 cases e1:fi env with
 | none=>simp[zhf,e1] at q
 | some z =>
   obtain⟨ds,env1⟩:=z
   have q:forU ix u ds env1=some (fl,env'):=by simpa[zhf,e1] using q
   refine⟨W,env,ds,env1,ok,e1,fun W1 J H1 s1 ok1 wk=>?_⟩
   refine⟨fun n m σ' H'=>∃W' env2,m=ds.length-n/\n<=ds.length/\Step W1 H1 W' H'/\Ok X.K G H0 W' env2 σ' H'/\forU ix u (ds.drop n) env2=some (fl,env'),⟨ds.length,W1,env1,rfl,Nat.zero_le _,Step.refl,ok1,q⟩,?_⟩
   rintro n m σ' H' ⟨W',env2,rfl,hn,st,ok',ef⟩
   by_cases hlt:n<ds.length
   ·have eq:ds.drop n=ds[n]::ds.drop (n+1):=List.drop_eq_getElem_cons hlt
    rw[eq] at ef
    obtain⟨hg,hy⟩:=wk.go W' H' n ds[n] st (by simp[hlt])
    unfold forU at ef
    cases e2:unp ix ds[n] env2 with
    | none=>rw[e2] at ef;cases ef
    | some env5 =>
    rw[e2,Option.bind_some] at ef
    cases e3:u env5 with
    | none=>rw[e3] at ef;cases ef
    | some r =>
      obtain⟨fl3,env3⟩:=r
      rw[e3,Option.bind_some] at ef
      refine .inr ⟨hg,fun σ2 H2=>∃W2 env4,Step W1 H1 W2 H2/\Ok X.K G H0 W2 env4 σ2 H2/\forU ix u (ds.drop (n+1)) env4=some (fl,env'),fun σ2 H2 ⟨W2,env4,s2,ok2,e4⟩=>⟨ds.length-(n+1),by omega,W2,env4,rfl,hlt,s2,ok2,e4⟩,fun x H'' y=>?_⟩
      obtain⟨rfl,rx⟩:=hy x H'' y
      generalize ds[n]=dn at rx e2
      unfold unp at e2
      split at e2
      case h_2=>cases e2
      rename_i dds
      split at e2
      case isFalse=>cases e2
      rename_i hl
      cases e2
      cases rx with
      | @tup a vs _ ht rr =>
      refine⟨a,vs,rfl,.inl (.inl ht),by rw[← rr.length];exact hl,zjg ix dds vs _ σ' _ ok' rr hl fun σ3 ok3=>?_⟩
      refine⟨W',_,fl3,env3,ok3,e3,?_⟩
      cases fl3 with
      | nx=>exact fun W2 σ2 H2 s2 ok2=>⟨W2,env3,st.trans s2,ok2,ef⟩
      | ct=>exact fun W2 σ2 H2 s2 ok2=>⟨W2,env3,st.trans s2,ok2,ef⟩
      | bk =>
        cases ef
        exact fun W2 σ2 H2 s2 ok2=>k W2 σ2 H2 ((s1.trans st).trans s2) ok2
      | rt d=>cases ef;exact k.go rfl rfl (s1.trans st)
      | rf d=>cases ef;exact k.go rfl rfl (s1.trans st)
      | r2 d=>cases ef;exact k.go rfl rfl (s1.trans st)
      | xc d=>cases ef;exact k.go rfl rfl (s1.trans st)
      | ra d d'=>cases ef;exact k.go rfl rfl (s1.trans st)
   ·have e:n=ds.length:=by omega
    subst e
    rw[List.drop_length] at ef
    cases ef
    exact .inl ⟨wk.stop W' H' st,k W' σ' H' (s1.trans st) ok'⟩⟩
def fRep(F:FA)(g:FE):FA:=fun e=>(F e).bind fun r=>(g r.2).bind fun q=>match q.1 with
 | .int k=>if Few (r.1.length*k.toNat)/\Bnd (-(2 ^ 62)) (2 ^ 62) k then some ((List.replicate k.toNat r.1).flatten,q.2) else none
 | _=>none
theorem Reps.rep{K:PySem.W.Frag}{H:Hp}{O:Addr->Prop}{ds:List D}{vs:List V}(r:Reps K H O ds vs):∀k:Nat,Reps K H O (List.replicate k ds).flatten (List.replicate k vs).flatten
 | 0=>.nil
 | k+1=>by
   rw[List.replicate_succ,List.flatten_cons,List.replicate_succ,List.flatten_cons]
   exact r.append (Reps.rep r k)
theorem znb(ha:DFx X G H0 a F)(hb:DEx X G H0 b g):DFx X G H0 (.BinOp a .Mult b pos) (fRep F g):=⟨(zju zmg ha.out hb.out).imp fun σ H Q ⟨W,env,d,env',ok,q,k⟩=>by
 unfold fRep at q
 cases e1:F env with
 | none=>rw[e1] at q;cases q
 | some r =>
   obtain⟨ds,env1⟩:=r
   rw[e1,Option.bind_some] at q
   dsimp only at q
   cases e2:g env1 with
   | none=>rw[e2] at q;cases q
   | some r2 =>
     obtain⟨d2,env2⟩:=r2
     rw[e2,Option.bind_some] at q
     dsimp only at q
     split at q
     case h_2=>cases q
     rename_i kk
     split at q
     case isFalse=>cases q
     rename_i hc
     obtain⟨hf,hk1,hk2⟩:=hc
     cases q
     refine⟨W,env,_,_,ok,e1,fun W1 l vs H1 s1 ok1 ok1' nW hl rr=>⟨W1,env1,_,_,ok1,e2,fun W2 v2 H2 s2 ok2 p2=>?_⟩⟩
     have s1':Step W H W1 H1:=⟨s1.keep,fun a h=>s1.ws a (.inl h)⟩
     have rr1:Reps X.K H1 (Ow G W1) ds vs:=rr.mono (fun _ _ h=>h) fun a us o h=>⟨⟨o.1,fun z=>o.2 (.inl z)⟩,h⟩
     have rr2:=ok1.reps s2 rr1
     have hl2:H2 l=some (.lst vs):=s2.keep l _ hl nW
     cases p2
     refine⟨l,kk,vs,rfl,rfl,hl2,by omega,by omega,?_,fun n hn=>?_⟩
     ·rw[← rr.length];exact Nat.le_trans hf (by rw[sizeLine_eq];decide)
     ·obtain⟨h1,h2,h3,h4,h5,h6⟩:=zc9 ok2 (Reps.rep rr2 kk.toNat) hn
      exact k W2 n _ _ ((s1'.trans s2).trans h1) h2 h3 h4 h5 h6⟩
structure ZNe (z ti to i1 i2:Addr):Prop where
 a1:ti≠z
 a2:to≠z
 a3:i1≠z
 a4:i2≠z
 a5:ti≠to
 a6:ti≠i1
 a7:ti≠i2
 a8:to≠i1
 a9:to≠i2
 aA:i1≠i2
structure zop (K:PySem.W.Frag) (G:Gd) (J:It) (W:Addr->Prop) (H:Hp) (ds:List D):Prop where
 go:∀W' H' (i:Nat) d,Step W H W' H'->ds[i]?=some d->J.go i H'/\∀x H'',J.yld i H' x H''->Same H' H''/\Rep K H'' (Ow G W') d x
 stop:∀W' H',Step W H W' H'->J.stop ds.length H'
def tDJ(K:PySem.W.Frag)(G:Gd)(H0:Hp)(f:FI):TI:=fun σ H R=>∃W env ds env',Ok K G H0 W env σ H/\f env=some (ds,env') /\
 ∀W' J H',Step W H W' H'->Ok K G H0 W' env' σ H'->zop K G J W' H' ds->R J H'
structure DJx (X:Cx) (G:Gd) (H0:Hp) (tg:Expr) (e:Expr) (f:FI):Prop where
 out:PI X tg e (tDJ X.K G H0 f)
theorem zik{env env0:DE0}{z:Int}(h:fVar i env=some (.int z,env0)):env[i]?=some (some (.sh (.int z)))/\env0=env:=by
 unfold fVar at h
 split at h
 ·rename_i d hd
  cases h
  exact⟨hd,rfl⟩
 all_goals cases h
theorem zoq{op:D->D->Option D}{o:Int->Int->Int}(ho:∀d1 d2 d,op d1 d2=some d->∃u v,d1=.int u/\d2=.int v/\d=.int (o u v)):∀Dn σ H,tDS X G H0 (sSet i (fBin op (fVar i) f)) Dn σ H->tAug i (tD X.K G H0 f) (ipI o) Dn σ H :=
 fun Dn σ H ⟨W,env,fl,env',ok,q,k⟩=>by
 unfold sSet fBin at q
 cases e0:fVar i env with
 | none=>rw[e0] at q;cases q
 | some r0 =>
   obtain⟨d0,env0⟩:=r0
   rw[e0,Option.bind_some] at q
   dsimp only at q
   cases e1:f env0 with
   | none=>rw[e1] at q;cases q
   | some r1 =>
     obtain⟨d1,env1⟩:=r1
     rw[e1,Option.bind_some] at q
     dsimp only at q
     cases e2:op d0 d1 with
     | none=>rw[e2] at q;cases q
     | some d2 =>
       rw[e2] at q
       cases q
       obtain⟨u,v,rfl,rfl,rfl⟩:=ho _ _ _ e2
       obtain⟨h0,rfl⟩:=zik e0
       obtain⟨y,hy,ry⟩:=ok.slot i _ h0
       refine⟨y,hy,W,env0,_,_,ok,e1,fun W1 v1 H1 s1 ok1 r1=>⟨u,v,Rep.int_ ry,r1.int_,k W1 _ H1 s1 (ok1.set (.int _))⟩⟩
theorem zkr(tn:Tos Nn X)(he:DEx X G H0 e f)(hto:Nn[i]?=some x:=by rfl) :
  DSx X G H0 (.AugAssign (.Name x p') .Add e pos) (sSet i (fBin za1 (fVar i) f)):=⟨(zlw (tn.t hto).nd (tn.t hto).n (tn.t hto).l he.out zlx (tn.t hto).f).imp (zoq fun d1 d2 d h=>by
 cases d1 <;> cases d2 <;> simp[za1] at h
 exact⟨_,_,rfl,rfl,h.symm⟩)⟩
structure zor (K:PySem.W.Frag) (G:Gd) (J:It) (W:Addr->Prop) (H:Hp) (ds:List D):Prop where
 go:∀H' (i:Nat) d,Same H H'->ds[i]?=some d->J.go i H'/\∀x H'',J.yld i H' x H''->H''=H'/\Rep K H' (Ow G W) d x
 stop:∀H',Same H H'->J.stop ds.length H'
def tDC(K:PySem.W.Frag)(G:Gd)(H0:Hp)(f:FI):TI:=fun σ H R=>∃W env ds env',Ok K G H0 W env σ H/\f env=some (ds,env') /\
 ∀W' J H',Step W H W' H'->Ok K G H0 W' env' σ H'->zor K G J W' H' ds->R J H'
structure DCx (X:Cx) (G:Gd) (H0:Hp) (tg:Expr) (e:Expr) (f:FI):Prop where
 out:PI X tg e (tDC X.K G H0 f)
section
variable {X:Cx} {G:Gd} {H0:Hp} {a b c e:Expr} {es rest:List Expr} {f g:FE} {F:FA} {u:FS} {pos p' p1 pos1:Pos} {x:Str} {i:Nat}
def tDL(K:PySem.W.Frag)(G:Gd)(H0:Hp)(f:FA):TA:=fun σ H Q=>∃W env ds env',Ok K G H0 W env σ H/\f env=some (ds,env') /\
 ∀W' vs H',Step W H W' H'->Ok K G H0 W' env' σ H'->Reps K H' G ds vs->Q vs H'
structure DLx (X:Cx) (G:Gd) (H0:Hp) (es:List Expr) (f:FA):Prop where
 out:PA X es (tDL X.K G H0 f)
variable {CX:CXT} {k:Nat} {fa:Addr} {fd:FuncData} {ps:List Str} {m:List D->Option D} {E:XK}
end
section
variable {X:Cx} {G:Gd} {H0:Hp} {a b c e:Expr} {es rest:List Expr} {f g:FE} {F:FA} {pos p' p1 pos1:Pos} {x:Str} {i:Nat}
end
variable{xs:List Str}
theorem gl_p(h:sc.names.lookup x=some .globalImplicit):Gl (zkb X xs N' sc cl C s H fp) x:=za2 h
section
variable (P:Program) (w:World)
end
section
variable {X:Cx}
variable {a b:Expr} {ta tb:TE} {pos:Pos}
variable {tA tB':TT} {rest:List Expr}
end
section
variable {X:Cx} {st:Stmt} {rest:List Stmt} {t u:TS} {e:Expr} {te:TE} {pos:Pos}
end
section
variable {X:Cx} {CX:CXT} {k:Nat} {f C:Addr} {fd:FuncData} {ps ks:List Str} {sp:Sp} {E:XK} {x m:Str} {p pos apos kpos:Pos} {e o:Expr} {es:List Expr} {kws:List Keyword} {te ta:TE} {t tk:TA} {nm:Option Str}
variable {g:List Value->List Value->List Value} {gV:List V->List V->List V}
end
section
variable {κ:Type} [DecidableEq κ]
def valV(kvs:List (κ×V))(k:κ):Option V:=(kvs.find? fun kv=>decide (kv.1=k)).map (·.2)
def putK(kvs:List (κ×V))(k:κ)(v:V):List (κ×V) :=
 if (kvs.any fun kv=>decide (kv.1=k))=true then kvs.map (fun kv=>if kv.1=k then(kv.1,v) else kv) else kvs++[(k,v)]
def znc(kvs:List (κ×V))(k:κ):List (κ×V):=kvs.filter fun kv=>decide (kv.1≠k)
theorem zd0{p:κ×V}{r:List (κ×V)}{k:κ}(e:p.1=k):valV (p::r) k=some p.2:=by simp[valV,List.find?_cons,e]
theorem zd1{p:κ×V}{r:List (κ×V)}{k:κ}(e:¬p.1=k):valV (p::r) k=valV r k:=by simp[valV,List.find?_cons,e]
theorem zfw(k:κ):∀kvs:List (κ×V),(kvs.any fun kv=>decide (kv.1=k))=(valV kvs k).isSome
 | []=>rfl
 | p::r=>by
   rw[List.any_cons]
   by_cases e:p.1=k
   ·simp only[zd0 e,decide_eq_true e,Bool.true_or,Option.isSome_some]
   ·rw[zd1 e,decide_eq_false e,Bool.false_or];exact zfw k r
theorem RelO.isSome_eq{o:Option V}{u:Option Value}(r:RelO o u):o.isSome=u.isSome:=by
 cases o with
 | none=>cases u with
   | none=>rfl
   | some _=>exact(show False from r).elim
 | some _=>cases u with
   | none=>exact(show False from r).elim
   | some _=>rfl
theorem RelO.getD{o:Option V}{u:Option Value}{d:V}{d':Value}(r:RelO o u)(rd:RelV d d'):RelV (o.getD d) (u.getD d'):=by
 cases o with
 | none=>cases u with
   | none=>exact rd
   | some _=>exact(show False from r).elim
 | some _=>cases u with
   | none=>exact(show False from r).elim
   | some _=>exact r
theorem KV.val{kvs:List (κ×V)}{vs:List (κ×Value)}(r:KV kvs vs)(k:κ):RelO (valV kvs k) (valueAt vs k):=by
 unfold KV at r
 induction r with
 | nil=>exact True.intro
 | @cons p q ps qs h t ih =>
   obtain⟨h1,h2⟩:=h
   by_cases e:p.1=k
   ·have e':q.1=k:=h1.symm.trans e
    have b:valueAt (q::qs) k=some q.2:=by simp[valueAt,List.find?_cons,e']
    rw[zd0 e,b];exact h2
   ·have e':¬q.1=k:=fun z=>e (h1.trans z)
    have b:valueAt (q::qs) k=valueAt qs k:=by simp[valueAt,List.find?_cons,e']
    rw[zd1 e,b];exact ih
theorem KV.any{kvs:List (κ×V)}{vs:List (κ×Value)}(r:KV kvs vs)(k:κ):(kvs.any fun kv=>decide (kv.1=k))=vs.any fun kv=>decide (kv.1=k):=by
 unfold KV at r
 induction r with
 | nil=>rfl
 | cons h t ih=>rw[List.any_cons,List.any_cons,ih,h.1]
theorem KV.repl{kvs:List (κ×V)}{vs:List (κ×Value)}(r:KV kvs vs)(k:κ){y:V}{u:Value}(ry:RelV y u) :
  KV (kvs.map fun kv=>if kv.1=k then(kv.1,y) else kv) (vs.map fun kv=>if kv.1=k then(kv.1,u) else kv):=by
 unfold KV at r ⊢
 induction r with
 | nil=>exact .nil
 | @cons p q ps qs h t ih =>
   rw[List.map_cons,List.map_cons]
   refine .cons ?_ ih
   obtain⟨h1,h2⟩:=h
   by_cases e:p.1=k
   ·rw[if_pos e,if_pos (h1.symm.trans e)];exact⟨h1,ry⟩
   ·rw[if_neg e,if_neg (fun z=>e (h1.trans z))];exact⟨h1,h2⟩
theorem KV.put{kvs:List (κ×V)}{vs:List (κ×Value)}(r:KV kvs vs)(k:κ){y:V}{u:Value}(ry:RelV y u):KV (putK kvs k y) (stored vs k u):=by
 unfold putK stored
 rw[r.any k]
 by_cases e:(vs.any fun kv=>decide (kv.1=k))=true
 ·rw[if_pos e,if_pos e];exact r.repl k ry
 ·rw[if_neg e,if_neg e];exact Paired.snoc r ⟨rfl,ry⟩
theorem KV.drop{kvs:List (κ×V)}{vs:List (κ×Value)}(r:KV kvs vs)(k:κ):KV (znc kvs k) (without vs k):=by
 unfold KV at r ⊢
 unfold znc without
 induction r with
 | nil=>exact .nil
 | @cons p q ps qs h t ih =>
   obtain⟨h1,h2⟩:=h
   rw[List.filter_cons,List.filter_cons]
   by_cases e:p.1=k
   ·have a:¬decide (p.1≠k)=true:=by simp[e]
    have b:¬decide (q.1≠k)=true:=by simp[h1.symm.trans e]
    rw[if_neg a,if_neg b];exact ih
   ·have e':¬q.1=k:=fun z=>e (h1.trans z)
    have a:decide (p.1≠k)=true:=by simp[e]
    have b:decide (q.1≠k)=true:=by simp[e']
    rw[if_pos a,if_pos b];exact .cons ⟨h1,h2⟩ ih
theorem KV.length{kvs:List (κ×V)}{vs:List (κ×Value)}(r:KV kvs vs):kvs.length=vs.length:=Paired.length r
end
abbrev KT(H:Hp):List (List Key×V)->List (List Key×Addr×Value)->Prop:=Paired fun p q=>p.1=q.1/\H q.2.1=some (.tup (p.1.map kV))/\RelV p.2 q.2.2
variable{xs:List (List Key×Addr×Value)}{kvs:List (List Key×V)}
theorem KT.val(r:KT H kvs xs)(k:List Key):RelO (valV kvs k) ((atKey xs k).map (·.2)):=by
 induction r with
 | nil=>exact True.intro
 | @cons p q ps qs h t ih =>
   obtain⟨h1,_,h2⟩:=h
   by_cases e:p.1=k
   ·have e':q.1=k:=h1.symm.trans e
    have b:atKey (q::qs) k=some q.2:=by simp[atKey,List.find?_cons,e']
    rw[zd0 e,b];exact h2
   ·have e':¬q.1=k:=fun z=>e (h1.trans z)
    have b:atKey (q::qs) k=atKey qs k:=by simp[atKey,List.find?_cons,e']
    rw[zd1 e,b];exact ih
variable{y:V}{u:Value}
theorem KT.repl(r:KT H kvs xs)(k:List Key)(ry:RelV y u) :
  KT H (kvs.map fun kv=>if kv.1=k then(kv.1,y) else kv) (xs.map (putAt k u)):=by
 induction r with
 | nil=>exact .nil
 | @cons p q ps qs h t ih =>
   rw[List.map_cons,List.map_cons]
   refine .cons ?_ ih
   obtain⟨h1,h2,h3⟩:=h
   unfold putAt
   by_cases e:p.1=k
   ·rw[if_pos e,if_pos (h1.symm.trans e)];exact⟨h1,h2,ry⟩
   ·rw[if_neg e,if_neg (fun z=>e (h1.trans z))];exact⟨h1,h2,h3⟩
variable{b:Addr}
theorem KT.put(r:KT H kvs xs)(k:List Key)(hb:H b=some (.tup (k.map kV)))(ry:RelV y u) :
  KT H (putK kvs k y) (storedH xs k b u):=by
 have e:(kvs.any fun kv=>decide (kv.1=k))=(atKey xs k).isSome:=by
  rw[zfw,(r.val k).isSome_eq,Option.isSome_map]
 unfold putK storedH
 rw[e]
 by_cases q:(atKey xs k).isSome=true
 ·rw[if_pos q,if_pos q];exact r.repl k ry
 ·rw[if_neg q,if_neg q];exact Paired.snoc r ⟨rfl,hb,ry⟩
theorem KT.keeps{H':Hp}(r:KT H kvs xs)(ht:∀b ys,H b=some (.tup ys)->H' b=some (.tup ys)):KT H' kvs xs :=
 Paired.mapP r fun _ _ z=>⟨z.1,ht _ _ z.2.1,z.2.2⟩
def DGet(H:Hp)(a:Addr)(y:V)(r:Option V):Prop :=
 (∃kvs k,Rd H a (.dK kvs)/\y=kV k/\r=valV kvs k)\/∃kvs k b,Rd H a (.dT kvs)/\y=.ref b/\H b=some (.tup (k.map kV))/\r=valV kvs k
def DPut(H:Hp)(a:Addr)(y v:V)(H':Hp):Prop :=
 (∃kvs k,H a=some (.dK kvs)/\y=kV k/\kvs.length<sizeLine/\H'=upd H a (.dK (putK kvs k v))) \/
 ∃kvs k b,H a=some (.dT kvs)/\y=.ref b/\H b=some (.tup (k.map kV))/\kvs.length<sizeLine/\H'=upd H a (.dT (putK kvs k v))
protected theorem DGet.k{H:Hp}{a:Addr}{kvs:List (Key×V)}{k:Key}(e:H a=some (.dK kvs)):DGet H a (kV k) (valV kvs k):=.inl ⟨kvs,k,.inl e,rfl,rfl⟩
variable{a:Addr}{k:List Key}
protected theorem DGet.t(e:H a=some (.dT kvs))(eb:H b=some (.tup (k.map kV))):DGet H a (.ref b) (valV kvs k):=.inr ⟨kvs,k,b,.inl e,rfl,eb,rfl⟩
protected theorem DPut.k{H:Hp}{a:Addr}{kvs:List (Key×V)}{k:Key}{v:V}(e:H a=some (.dK kvs))(hl:kvs.length<sizeLine):DPut H a (kV k) v (upd H a (.dK (putK kvs k v))):=.inl ⟨kvs,k,e,rfl,hl,rfl⟩
protected theorem DPut.t{v:V}(e:H a=some (.dT kvs))(eb:H b=some (.tup (k.map kV)))(hl:kvs.length<sizeLine) :
  DPut H a (.ref b) v (upd H a (.dT (putK kvs k v))):=.inr ⟨kvs,k,b,e,rfl,eb,hl,rfl⟩
structure M1 (X:Cx) (o:Expr) (m:Str) (apos:Pos) (e:Expr) (cpos:Pos):Prop where
 base:attributeBase o m X.env (eval o X.env)=eval o X.env
 few:((backTo cpos (starEach [e] X.env)).all (fun x=>!x.1) && (backToKw cpos (keywordEach [] X.env)).all (fun x=>x.1.isSome)
  && decide (([e]:List Expr).length+([]:List Keyword).length+(if ([]:List Keyword).isEmpty then 0 else 1)<30))=true
 line:(apos.endLine==cpos.line)=true
 trees:backTo cpos (starEach [e] X.env)=[(false,eval e X.env)]
structure M2 (X:Cx) (o:Expr) (m:Str) (apos:Pos) (e f:Expr) (cpos:Pos):Prop where
 base:attributeBase o m X.env (eval o X.env)=eval o X.env
 few:((backTo cpos (starEach [e,f] X.env)).all (fun x=>!x.1) && (backToKw cpos (keywordEach [] X.env)).all (fun x=>x.1.isSome)
  && decide (([e,f]:List Expr).length+([]:List Keyword).length+(if ([]:List Keyword).isEmpty then 0 else 1)<30))=true
 line:(apos.endLine==cpos.line)=true
 trees:backTo cpos (starEach [e,f] X.env)=[(false,eval e X.env),(false,eval f X.env)]
end L2
namespace Att
open PySem PySem.W PySem.Calls PyProof.Rows
end Att
namespace L2
open PySem PySem.Spec PyProof.Rows
section
variable {κ:Type} [DecidableEq κ]
end
section
variable {X:Cx} {G:Gd} {H0:Hp} {a b c e:Expr} {es rest:List Expr} {f g:FE} {F:FA} {pos p' p1 pos1:Pos} {x:Str} {i:Nat}
end
section
variable {X:Cx} {G:Gd} {H0:Hp} {a b c e:Expr} {es rest:List Expr} {f g:FE} {F:FA} {pos p' p1 pos1:Pos} {x:Str} {i:Nat}
end
section
variable {X:Cx} {G:Gd} {H0:Hp} {a b c e:Expr} {es rest:List Expr} {f g:FE} {F:FA} {pos p' p1 pos1:Pos} {x:Str} {i:Nat}
end
end L2
namespace L2
open PySem
theorem zfx{i:Nat}{g:FS}(P:Nat->DE0->Prop):∀(ds:List D) (e:DE0) (n:Nat),P n e->(∀(k:Nat) (d:D) (e:DE0),ds[k]?=some d->P (n+k) e->∃e',g (e.set i (some (.sh d)))=some (.nx,e')/\P (n+k+1) e') ->
  ∃e',forL i g ds e=some (.nx,e')/\P (n+ds.length) e'
 | [],e,n,h,_=>⟨e,rfl,h⟩
 | d::r,e,n,h,hs=>by
   obtain⟨e1,h1,p1⟩:=hs 0 d e rfl h
   obtain⟨e2,h2,p2⟩:=zfx P r e1 (n+1) p1 fun k d' e' hk hp=>by
    have:=hs (k+1) d' e' (by simpa using hk) (by rw[← Nat.add_assoc,Nat.add_right_comm];exact hp)
    rw[show n+(k+1)+1=n+1+k+1 by omega] at this
    exact this
   refine⟨e2,?_,by rw[List.length_cons,show n+(r.length+1)=n+1+r.length by omega];exact p2⟩
   simp only[forL,h1,Option.bind_some,h2]
variable{i:Int}{g:FS}
theorem zbw{i:Nat}(P:Nat->DE0->Prop)(ds:List D)(e:DE0)(h:P 0 e)(hs:∀(k:Nat) (d:D) (e:DE0),ds[k]?=some d->P k e->∃e',g (e.set i (some (.sh d)))=some (.nx,e')/\P (k+1) e') :
  ∃e',forL i g ds e=some (.nx,e')/\P ds.length e':=by
 obtain⟨e',h1,h2⟩:=zfx P ds e 0 h fun k d e hk hp=>by
  obtain⟨e',q1,q2⟩:=hs k d e hk (by simpa using hp)
  exact⟨e',q1,by simpa using q2⟩
 exact⟨e',h1,by simpa using h2⟩
variable{lo:Int}{n:Nat}{d:D}
theorem zcd{k:Nat}(h:(rngD lo n)[k]?=some d):d=.int (lo+k)/\k<n:=by
 unfold rngD at h
 rw[List.getElem?_map] at h
 by_cases hk:k<n
 ·rw[List.getElem?_range hk] at h
  exact⟨(Option.some.inj h).symm,hk⟩
 ·rw[List.getElem?_eq_none (by simpa using hk)] at h;cases h
theorem zdc:(rngD lo n).length=n:=by simp[rngD]
theorem zfy(h:-1000000000000<i/\i<1000000000000):zdy i:=⟨by omega,by omega⟩
variable{α:Type}
theorem znd{xs:List α}(h0:0<=i)(h1:i<xs.length):∃x,atI xs i=some x/\xs[i.toNat]?=some x:=by
 have hl:i.toNat<xs.length:=by omega
 exact⟨xs[i.toNat],by unfold atI ixN;rw[if_pos h0,if_pos h1];simp[hl],by simp[hl]⟩
theorem zbt{ar:Nat}{ds:List D}{e':DE0}(h:ds.length=ar)(hg:g (zbk n ds)=some (.rt d,e')):runD n ar g ds=some d:=by
 unfold runD
 rw[if_pos h,hg]
theorem few(h:n<=1000000):Few n:=Nat.le_trans h (by decide)
theorem zdd(n:Nat)(hn:n<=1000000):iR1 [.int n]=some (rngD 0 n):=by
 unfold iR1
 dsimp only
 rw[if_pos (show Bnd _ _ _ from⟨by omega,by omega⟩),Int.toNat_natCast]
variable{j:Int}
theorem zb2(h:0<j):dMod (.int i) (.int j)=some (.int (i % j)):=by
 unfold dMod;dsimp only;rw[if_pos h]
theorem zd2(h:0<j)(h2:j<1073741824):dDiv (.int i) (.int j)=some (.int (i / j)):=by
 unfold dDiv;dsimp only;rw[if_pos (show Bnd _ _ _ from⟨by omega,h2⟩)]
theorem zfz{α:Type}{tt:FT}{te:FE}{base:DE0}(φ ψ:α->D)(p:α->Bool):∀(xs:List α),(∀x∈xs,∃e1,tt (some (.sh (φ x))::base)=some (p x,e1)/\(p x=true->∃e',te e1=some (ψ x,e')))->zda tt te base (xs.map φ)=some ((xs.filter p).map ψ)
 | [],_=>rfl
 | x::xs,h=>by
   obtain⟨e1,h1,h2⟩:=h x List.mem_cons_self
   have ih:=zfz φ ψ p xs fun y hy=>h y (List.mem_cons_of_mem _ hy)
   cases hp:p x with
   | false =>
     rw[hp] at h1
     simp only[List.map_cons,zda,h1,Option.bind_some,Bool.false_eq_true,if_false,ih,List.filter_cons,hp]
   | true =>
     rw[hp] at h1
     obtain⟨e',he⟩:=h2 hp
     simp only[List.map_cons,zda,h1,Option.bind_some,if_true,he,ih,Option.map_some,List.filter_cons,hp]
theorem zdo{α:Type}:∀ {l:List α} {n:Nat} {z:α},l[n]?=some z->l.Perm (z::l.eraseIdx n)
 | [],_,_,h=>by simp at h
 | a::l,0,z,h=>by simp at h;subst h;exact .refl _
 | a::l,n+1,z,h=>by
   have ih:=zdo (l:=l) (n:=n) (z:=z) (by simpa using h)
   rw[List.eraseIdx_cons_succ]
   exact(ih.cons a).trans (List.Perm.swap z a _)
theorem zf0{α:Type}:∀ {l:List (List α)} {j:Nat} {s:List α} {x:α},l[j]?=some s->(l.set j (s++[x])).flatten.Perm (x::l.flatten)
 | [],_,_,_,h=>by simp at h
 | a::l,0,s,x,h=>by
   simp at h;subst h
   simp only[List.set_cons_zero,List.flatten_cons,List.append_assoc,List.singleton_append]
   exact List.perm_middle
 | a::l,j+1,s,x,h=>by
   have ih:=zf0 (l:=l) (j:=j) (s:=s) (x:=x) (by simpa using h)
   simp only[List.set_cons_succ,List.flatten_cons]
   exact(ih.append_left a).trans List.perm_middle
theorem zhg(i j:Int):(rngL i j)=(List.range (j-i).toNat).map fun(k:Nat)=>i+(k:Int):=rfl
theorem zev{α:Type}{i:Nat}{g:FS}(φ:α->D)(P:List α->DE0->Prop)(all:List α)(hs:∀(p:List α) (x:α) (q:List α) (e:DE0),all=p++x::q->P p e->∃e',g (e.set i (some (.sh (φ x))))=some (.nx,e')/\P (p++[x]) e') :
  ∀(xs pre:List α) (e:DE0),all=pre++xs->P pre e->∃e',forL i g (xs.map φ) e=some (.nx,e')/\P all e'
 | [],pre,e,h,hp=>⟨e,rfl,by rw[h,List.append_nil];exact hp⟩
 | x::xs,pre,e,h,hp=>by
   obtain⟨e1,h1,p1⟩:=hs pre x xs e h hp
   obtain⟨e2,h2,p2⟩:=zev φ P all hs xs (pre++[x]) e1 (by rw[h];simp) p1
   exact⟨e2,by simp only[List.map_cons,forL,h1,Option.bind_some,h2],p2⟩
theorem zil{i:Nat}(φ:α->D)(P:List α->DE0->Prop)(all:List α)(e:DE0)(h0:P [] e)(hs:∀(p:List α) (x:α) (q:List α) (e:DE0),all=p++x::q->P p e->∃e',g (e.set i (some (.sh (φ x))))=some (.nx,e')/\P (p++[x]) e') :
  ∃e',forL i g (all.map φ) e=some (.nx,e')/\P all e':=zev φ P all hs all [] e rfl h0
end L2
namespace L2
open PySem PySem.Spec PyProof.Rows PySem.W
abbrev Ag:=AK×List Pt
def EXs(X:Cx)(σ:St):XK:=fun cls _ H'=>∀pins H s C ea s',cls=.ref C->Inv X pins σ H s->Fly X.prog X.w X.stack H s C ea H' s'->X.xe (.ref ea) s'
variable{σ:St}{H:Hp}{s:Stmt}{us vs:List V}{X:Cx}{k:Nat}{f:Addr}{fd:FuncData}{ps:List Str}{sp:Sp}
theorem zks{pins:List (Addr×Obj)}{s:Shared}{Q:VK}{us:List Value}(F:FnOk X.prog X.w X.K X.mg X.base (CXr X.prog X.w) k f fd ps sp)(hr:Room k X.A)(hb:Binds X.K fd ps [])(I:Inv X pins σ H s)(r:Vals vs us)(h:sp vs H Q (EXs X σ)):wpAny (model X.prog X.w) X.A (call (.ref f) us) (EP X pins σ Q) X.xe s:=by
 have hl:(us++[]).length=ps.length:=by rw[List.append_nil,← r.length];exact F.len _ _ _ _ h
 have hz:=hb s us I.kIn hl
 rw[List.append_nil] at hz
 refine wpAny_call (codeAny_mono (F.run X.A X.stack s H ⟨us,[]⟩ us vs Q (EXs X σ) hr I.env0 hz r h) fun r s' hq=>?_)
 cases r with
 | error e =>
   obtain⟨ea,C,H',rfl,fl,z⟩:=hq
   exact z pins H s C ea s' rfl I fl
 | ok fl =>
   cases fl with
   | ret u=>exact I.after hq
   | next=>exact False.elim hq
   | brk=>exact False.elim hq
   | cont=>exact False.elim hq
def zne(X:Cx)(sp:Sp)(t:TA):TE:=fun σ H Q=>t σ H fun vs H1=>sp vs H1 Q (EXs X σ)
variable{x:Str}{p pos:Pos}{e:Expr}{es:List Expr}{t:TA}
theorem zf1(F:FnOk X.prog X.w X.K X.mg X.base (CXr X.prog X.w) k f fd ps sp)(hr:Room k X.A)(hg:Gl X x)(hm:X.mg x=some (.ref f))(hk:PySem.W.keepIn X.K (.ref f)=true)(hb:Binds X.K fd ps [])(ha:PA X (e::es) t)(hdb:(x==("__debug__" : Str))=false:=by decide)(he:starEach (e::es) X.env=(false,eval e X.env)::starEach es X.env:=by rfl)(hpl:(backTo pos (starEach es X.env)).any (·.1)=false:=by rfl) :
  PE X (.Call (.Name x p) (e::es) [] pos) (zne X sp t):=by
 intro pins s σ H Q I h
 refine wpAny_Call_Name_kw (zcp I hg hm ?_ hdb)
 refine PySem.W.callWith_K (h₀:=X.base) I.ok.mod.kin hk (thn (ha pos pins s σ H _ I h) fun us s1 ⟨vs,H1,I1,r,q⟩=>⟨I1.kIn,?_⟩) he hpl
 exact zks F hr hb I1 r q
abbrev XF:=DE0->Option (Str×DE0)
def XEnd(X:Cx)(G:Gd)(H0:Hp)(W:Addr->Prop)(H:Hp)(σ:St)(c:Str)(env':DE0):Prop:=∀W' H' C,Cl X.K c C->Step W H W' H'->Ok X.K G H0 W' env' σ H'->∀pins e s',XS X pins σ H' C e s'->X.xe (.ref e) s'
def tDX(X:Cx)(G:Gd)(H0:Hp)(x:XF)(σ:St)(H:Hp):Prop:=∃W env c env',Ok X.K G H0 W env σ H/\x env=some (c,env')/\XEnd X G H0 W H σ c env'
structure JX (X:Cx) (G:Gd) (H0:Hp) (e:Expr) (x:XF):Prop where
 out:PE X e (fun σ H _=>tDX X G H0 x σ H)
structure JXA (X:Cx) (G:Gd) (H0:Hp) (es:List Expr) (x:XF):Prop where
 out:PA X es (fun σ H _=>tDX X G H0 x σ H)
structure JXS (X:Cx) (G:Gd) (H0:Hp) (s:Stmt) (x:XF):Prop where
 out:PS X s (fun _ σ H=>tDX X G H0 x σ H)
@[simp] def sXp(x:XF)(g:FS):FS:=fun e=>match x e with | some r=>some (.xc r.1,r.2) | none=>g e
variable{x:XF}{G:Gd}{H0:Hp}{g:FS}
theorem znf(hn:DSx X G H0 s g)(hx:JXS X G H0 s x):DSx X G H0 s (sXp x g):=⟨fun pins s' σ H D I ⟨W,env,fl,env',ok,q,k⟩=>by
 unfold sXp at q
 cases e1:x env with
 | none=>rw[e1] at q;exact hn.out pins s' σ H D I ⟨W,env,fl,env',ok,q,k⟩
 | some r =>
   rw[e1] at q;cases q
   exact hx.out pins s' σ H D I ⟨W,env,r.1,r.2,ok,e1,fun W' H' C hc st ok'=>k W' σ H' C hc st ok'⟩⟩
theorem zkt(h:JX X G H0 e x):JXS X G H0 (.Return (some e) pos) x:=⟨(zi3 h.out).imp fun _ _ _ z=>z⟩
variable{K:PySem.W.Frag}
theorem Cl.inj{c:Str}{C C':Addr}(h:Cl K c C)(h':Cl K c C'):C=C':=by
 unfold Cl at h h'
 rw[h] at h'
 cases h';rfl
def zim(K:PySem.W.Frag)(O:Addr->Prop)(H:Hp)(ags:List Ag)(us:List V):Prop :=
 us.length=ags.length/\∀(j:Nat) (x:Ag) (u:V),ags[j]?=some x->us[j]?=some u->∃p vs,u=.ref p/\AkOk K H x.1 p vs/\PtsRo K (gd O) NoW H x.2 vs
def qSp(K:PySem.W.Frag)(m:List Ag->List D->Option D)(x:List Ag->List D->Option Str):Sp:=fun vs H Q E =>
 ∃(O:Addr->Prop) (ags:List Ag) (us:List V) (ds:List D) (ws:List V),vs=us++ws/\zim K O H ags us/\Reps K H O ds ws /\
  ((∃d,m ags ds=some d/\∀v H',Same H H'->Rep K H' (fun a=>O a\/H a=none) d v->Q v H')\/∃c,x ags ds=some c/\∀C H',Cl K c C->Same H H'->E (.ref C) none H')
def zcv(n:Nat)(ags:List Ag)(ds:List D):DE0:=ags.map (fun x=>some (Sl.ro x.1 x.2))++zbk (n-ags.length) ds
def runQ(n p ar:Nat)(g:FS):List Ag->List D->Option D:=fun ags ds=>if ags.length=p/\ds.length=ar then(match g (zcv n ags ds) with | some (.rt d,_)=>some d | some (.nx,_)=>some .non | _=>none) else none
def xQ(n p ar:Nat)(g:FS):List Ag->List D->Option Str:=fun ags ds=>if ags.length=p/\ds.length=ar then(match g (zcv n ags ds) with | some (.xc c,_)=>some c | _=>none) else none
variable{O:Addr->Prop}
theorem zb8{O':Addr->Prop}(h:∀a,O a->O' a):(∀(d:D) (v:V),Rep K H O d v->Rep K H O' d v)/\∀(d:List D) (v:List V),Reps K H O d v->Reps K H O' d v :=
 ⟨fun d v r=>r.mono (fun _ _ h=>h) fun a us o q=>⟨h a o,q⟩,fun d v r=>r.mono (fun _ _ h=>h) fun a us o q=>⟨h a o,q⟩⟩
variable{ds:List D}{N:List Str}
theorem zjh{ags:List Ag}{ws:List V}(ra:zim K O H ags us)(r:Reps K H O ds ws)(hn:us.length<=N.length) :
  Ok K (gd fun a=>O a\/H a=none) H NoW (zcv N.length ags ds) (zbv N (us++ws)) H:=by
 have s0:=zc2 (N:=N.drop us.length) r
 have len0:=s0.len
 have es:zbv N (us++ws)=us.map some++zbv (N.drop us.length) ws:=by
  unfold zbv
  rw[List.map_append,List.append_assoc,List.length_append,List.length_drop,Nat.sub_sub]
 have ee:zcv N.length ags ds=ags.map (fun x=>some (Sl.ro x.1 x.2))++zbk (N.drop us.length).length ds:=by unfold zcv;rw[List.length_drop,ra.1]
 rw[es,ee]
 refine⟨Same.refl _,s0.good,s0.wl,fun i s e=>?_,fun i j s1 s2 v1 v2 a e1 _ e3 _ o _=>?_,?_⟩
 ·by_cases hi:i<ags.length
  ·rw[List.getElem?_append_left (by simpa using hi),List.getElem?_map] at e
   cases e1:ags[i]? with
   | none=>rw[e1] at e;cases e
   | some x =>
     rw[e1] at e;cases e
     have hu:us[i]?=some (us[i]'(by rw[ra.1];exact hi)):=by simp[ra.1,hi]
     obtain⟨p,vs,h1,h2,h3⟩:=ra.2 i x _ e1 hu
     refine⟨_,by rw[List.getElem?_append_left (by rw[List.length_map,ra.1];exact hi),List.getElem?_map,hu];rfl,p,vs,h1,fun z=>z,h2,h3.step (fun a vs n z=>⟨n,z⟩) (fun d v q=>(zb8 fun a z=>⟨.inl z.1,fun z=>z⟩).1 d v q) fun d v q=>(zb8 fun a z=>⟨.inl z.1,fun z=>z⟩).2 d v q⟩
  ·rw[List.getElem?_append_right (by simpa using hi),List.length_map] at e
   obtain⟨v,q1,q2⟩:=s0.slot _ s e
   rw[← ra.1] at q1
   exact⟨v,by rw[List.getElem?_append_right (by rw[List.length_map,ra.1];omega),List.length_map];exact q1,q2⟩
 ·by_cases hi:i<ags.length
  ·rw[List.getElem?_append_left (by simpa using hi),List.getElem?_map] at e1
   cases q:ags[i]? with
   | none=>rw[q] at e1;cases e1
   | some x=>rw[q] at e1;cases e1;exact o.elim
  ·rw[List.getElem?_append_right (by simpa using hi)] at e1
   obtain⟨d,_,rfl⟩:=zcq e1
   exact o.elim
 ·rw[List.length_append,List.length_append,List.length_map,List.length_map,len0,ra.1]
variable{x:Str}{P:Program}{w:World}{mg:Str->Option Value}{base:Heap}
theorem zos{qual:Str}{st:Stmt}{n p ar:Nat}(F:Fun K x qual st f fd)(S:zb0 N ps (zac st))(hn:n=N.length)(ha:p+ar=ps.length)(hbody:∀(cdv:Value) (A:Around) (outer:List Env) (s:Shared) (H:Hp) (E:XK) (G:Gd) (H0:Hp),Room k (A.deeper (envOfC qual (zac st) s.heap.objs.size f cdv)) ->
   DBx (cxOf (CXr P w) P w K mg base N qual (zac st) f cdv A outer s H E) G H0 (zat st) g):FnOk P w K mg base (CXr P w) (k+1) f fd ps (qSp K (runQ n p ar g) (xQ n p ar g)):=by
 subst hn
 have hpl:ps.length<=N.length:=by have:=congrArg List.length S.pre;rw[List.length_take] at this;omega
 have lens:∀ {O:Addr->Prop} {H:Hp} {ags:List Ag} {us:List V} {ds:List D} {ws:List V},zim K O H ags us->Reps K H O ds ws->(ags.length=p/\ds.length=ar)->(us++ws).length=ps.length:=fun ra r h=>by rw[List.length_append,ra.1,h.1,← r.length,h.2,ha]
 refine F.okX S (fun vs H Q E h=>?_) (fun cdv A outer s H vs Q E hr h=>?_)
 ·obtain⟨O,ags,us,ds,ws,rfl,ra,r,h⟩:=h
  refine lens ra r ?_
  rcases h with⟨d,e,_⟩ | ⟨c,e,_⟩
  ·unfold runQ at e;split at e
   ·assumption
   ·cases e
  ·unfold xQ at e;split at e
   ·assumption
   ·cases e
 ·obtain⟨O,ags,us,ds,ws,rfl,ra,r,h⟩:=h
  refine⟨_,(hbody cdv A outer s H E (gd fun a=>O a\/H a=none) H hr).out,?_⟩
  rcases h with⟨d,e,k⟩ | ⟨c,e,k⟩
  ·unfold runQ at e
   split at e
   case isFalse=>cases e
   rename_i hl
   have s0:=zjh (N:=N) ra r (by rw[ra.1,hl.1];omega)
   split at e
   ·rename_i d' env' hg
    cases e
    exact⟨NoW,_,_,env',s0,hg,fun W' σ' v H' st ok' rp=>k v H' ok'.stay (rp.mono (fun _ _ h=>h) fun a us o h=>⟨o.1,h⟩)⟩
   ·rename_i env' hg
    cases e
    exact⟨NoW,_,_,env',s0,hg,fun W' σ' H' st ok'=>k .non H' ok'.stay .non⟩
   ·cases e
  ·unfold xQ at e
   split at e
   case isFalse=>cases e
   rename_i hl
   have s0:=zjh (N:=N) ra r (by rw[ra.1,hl.1];omega)
   split at e
   ·rename_i c' env' hg
    cases e
    exact⟨NoW,_,_,env',s0,hg,fun W' σ' H' C' hc st ok' pins e s' xs=>zgb xs (k C' H' hc ok'.stay)⟩
   ·cases e
def getR(env:DE0):List Nat->Option (List Ag)
 | []=>some []
 | i::r=>match env[i]? with
   | some (some (.ag k _ ps))=>(getR env r).map fun t=>(k,ps)::t
   | some (some (.ro k ps))=>(getR env r).map fun t=>(k,ps)::t
   | _=>none
def aggs(env:DE0)(is:List Nat):Prop:=∀i∈is,∃s,env[i]?=some (some s)
instance (env:DE0) (is:List Nat):Decidable (aggs env is):=Classical.propDecidable _
variable{ps:List Pt}{W:Addr->Prop}{as:List Addr}
theorem PtsOk.ro(h:PtsOk K G W H ps as us):PtsRo K (gd (Ow G W)) NoW H ps us:=by
 induction h with
 | nil=>exact .nil
 | d q _ ih=>exact .d ((zb8 fun a z=>⟨z,fun z=>z⟩).1 _ _ q) ih
 | o hW hl q _ ih=>exact .o (fun z=>z) hl ((zb8 fun a z=>⟨z,fun z=>z⟩).2 _ _ q) ih
theorem PtsRo.ro(h:PtsRo K G W H ps us):PtsRo K (gd (Ow G W)) NoW H ps us :=
 h.step (fun a vs _ z=>⟨fun z=>z,z⟩) (fun d v q=>(zb8 fun a z=>⟨z,fun z=>z⟩).1 d v q) fun d v q=>(zb8 fun a z=>⟨z,fun z=>z⟩).2 d v q
variable{env:DE0}
theorem Ok.roAll(ok:Ok K G H0 W env σ H):∀ {is:List Nat} {ags:List Ag} {us:List V},getR env is=some ags->us.length=is.length->(∀(j i:Nat),is[j]?=some i->∃u,us[j]?=some u/\σ[i]?=some (some u))->zim K (Ow G W) H ags us
 | [],_,us,h,hl,_=>by cases h;exact⟨hl,fun j x u e=>by simp at e⟩
 | i::r,ags,us,h,hl,hu=>by
   cases us with
   | nil=>simp at hl
   | cons u us =>
     obtain⟨u',e1,e2⟩:=hu 0 i rfl
     simp at e1;subst e1
     have key:∃k ps t,ags=(k,ps)::t/\getR env r=some t/\∃p vs,u=.ref p/\AkOk K H k p vs/\PtsRo K (gd (Ow G W)) NoW H ps vs:=by
      unfold getR at h
      split at h
      ·rename_i k l ps q
       cases h2:getR env r with
       | none=>rw[h2] at h;cases h
       | some t =>
         rw[h2] at h;cases h
         obtain⟨v,q1,p,as,vs,rfl,_,_,_,hk,hp⟩:=ok.slot i _ q
         rw[e2] at q1;cases q1
         exact⟨k,ps,t,rfl,rfl,p,vs,rfl,hk,hp.ro⟩
      ·rename_i k ps q
       cases h2:getR env r with
       | none=>rw[h2] at h;cases h
       | some t =>
         rw[h2] at h;cases h
         obtain⟨v,q1,p,vs,rfl,_,hk,hp⟩:=ok.slot i _ q
         rw[e2] at q1;cases q1
         exact⟨k,ps,t,rfl,rfl,p,vs,rfl,hk,hp.ro⟩
      ·cases h
     obtain⟨k,ps,t,rfl,h2,p,vs,rfl,hk,hp⟩:=key
     obtain⟨l1,l2⟩:=ok.roAll (us:=us) h2 (by simpa using hl) fun j i' e=>by
      obtain⟨u,z1,z2⟩:=hu (j+1) i' (by simpa using e)
      exact⟨u,by simpa using z1,z2⟩
     refine⟨by rw[List.length_cons,List.length_cons,l1],fun j x v e3 e4=>?_⟩
     cases j with
     | zero=>simp at e3 e4;subst e3;subst e4;exact⟨p,vs,rfl,hk,hp⟩
     | succ j=>exact l2 j x v (by simpa using e3) (by simpa using e4)
variable{H':Hp}
theorem Ok.newRep(ok:Ok K G H0 W env σ H){d:D}{v:V}(r:Rep K H' (fun a=>Ow G W a\/H a=none) d v):Rep K H' (Ow G W) d v :=
 r.mono (fun _ _ h=>h) fun a us o h=>⟨o.elim id fun z=>⟨ok.good a (ok.stay.free z),fun w=>by obtain⟨_,m,q⟩:=ok.wl a w;rw[z] at q;cases q⟩,h⟩
def tLA(X:Cx)(G:Gd)(H0:Hp)(is:List Nat)(F:FA):TA:=fun σ H Q=>∃W env ds env',Ok X.K G H0 W env σ H/\aggs env is/\F env=some (ds,env') /\
 ∀W' us ws H',Step W H W' H'->Ok X.K G H0 W' env' σ H'->us.length=is.length->(∀(j i:Nat),is[j]?=some i->∃u,us[j]?=some u/\σ[i]?=some (some u))->Reps X.K H' (Ow G W') ds ws->Q (us++ws) H'
structure JLA (X:Cx) (G:Gd) (H0:Hp) (is:List Nat) (es:List Expr) (F:FA):Prop where
 out:PA X es (tLA X G H0 is F)
variable{F:FA}
theorem zhh(h:DAx X G H0 es F):JLA X G H0 [] es F:=⟨h.out.imp fun σ H Q ⟨W,env,ds,env',ok,_,q,k⟩=>⟨W,env,ds,env',ok,q,fun W' vs H' st ok' r=>k W' [] vs H' st ok' rfl (fun j i e=>by simp at e) r⟩⟩
def zdp(m:List Ag->List D->Option D)(is:List Nat)(F:FA):FE:=fun e=>if aggs e is then(F e).bind fun r=>(getR r.2 is).bind fun ags=>(m ags r.1).map fun d=>(d,r.2) else none
def zdq(x:List Ag->List D->Option Str)(is:List Nat)(F:FA):XF:=fun e=>if aggs e is then(F e).bind fun r=>(getR r.2 is).bind fun ags=>(x ags r.1).map fun c=>(c,r.2) else none
variable{m:List Ag->List D->Option D}{xx:List Ag->List D->Option Str}{is:List Nat}
theorem zku:∀σ H Q,tD X.K G H0 (zdp m is F) σ H Q->tLA X G H0 is F σ H fun vs H1=>qSp X.K m xx vs H1 Q (EXs X σ):=fun σ H Q ⟨W,env,d,env',ok,q,k⟩=>by
 unfold zdp at q
 split at q
 case isFalse=>cases q
 rename_i hag
 cases e1:F env with
 | none=>rw[e1] at q;cases q
 | some r =>
   rw[e1,Option.bind_some] at q
   cases e2:getR r.2 is with
   | none=>rw[e2] at q;cases q
   | some ags =>
     rw[e2,Option.bind_some] at q
     cases e3:m ags r.1 with
     | none=>rw[e3] at q;cases q
     | some d' =>
       rw[e3] at q;cases q
       exact⟨W,env,r.1,r.2,ok,hag,e1,fun W1 us ws H1 s1 ok1 hl hu r1=>⟨Ow G W1,ags,us,r.1,ws,rfl,ok1.roAll e2 hl hu,r1,.inl ⟨_,e3,fun v H' sm rp=>k W1 v H' (s1.trans (Step.same sm)) (ok1.same sm) (ok1.newRep rp)⟩⟩⟩
theorem zin:∀σ H (Q:VK),tDX X G H0 (zdq xx is F) σ H->tLA X G H0 is F σ H fun vs H1=>qSp X.K m xx vs H1 Q (EXs X σ):=fun σ H Q ⟨W,env,c,env',ok,q,k⟩=>by
 unfold zdq at q
 split at q
 case isFalse=>cases q
 rename_i hag
 cases e1:F env with
 | none=>rw[e1] at q;cases q
 | some r =>
   rw[e1,Option.bind_some] at q
   cases e2:getR r.2 is with
   | none=>rw[e2] at q;cases q
   | some ags =>
     rw[e2,Option.bind_some] at q
     cases e3:xx ags r.1 with
     | none=>rw[e3] at q;cases q
     | some c' =>
       rw[e3] at q;cases q
       refine⟨W,env,r.1,r.2,ok,hag,e1,fun W1 us ws H1 s1 ok1 hl hu r1=>⟨Ow G W1,ags,us,r.1,ws,rfl,ok1.roAll e2 hl hu,r1,.inr ⟨_,e3,fun C H' hc sm pins H2 s2 C' ea s' ec I fl=>?_⟩⟩⟩
       cases ec
       exact k W1 H' C hc (s1.trans (Step.same sm)) (ok1.same sm) pins ea s' (.inl ⟨s2,H2,I,fl⟩)
variable{jr:Nat}{p':Pos}
theorem zhi(c:Cal X.prog X.w X.K X.mg X.base (CXr X.prog X.w) x k (qSp X.K m xx))(rm:Room jr X.A)(ha:JLA X G H0 is (e::es) F)(hkj:k<=jr:=by decide)(hg:Gl X x:=by walk_at "g")(he:starEach (e::es) X.env=(false,eval e X.env)::starEach es X.env:=by rfl)(hpl:(backTo pos (starEach es X.env)).any (·.1)=false:=by rfl) :
  DEx X G H0 (.Call (.Name x p') (e::es) [] pos) (zdp m is F):=let ⟨_,_,_,Fn,hm,hk,hb,hdb⟩:=c;⟨(zf1 Fn (rm.mono hkj) hg hm hk hb ha.out hdb he hpl).imp zku⟩
theorem zio(c:Cal X.prog X.w X.K X.mg X.base (CXr X.prog X.w) x k (qSp X.K m xx))(rm:Room jr X.A)(ha:JLA X G H0 is (e::es) F)(hkj:k<=jr:=by decide)(hg:Gl X x:=by walk_at "g")(he:starEach (e::es) X.env=(false,eval e X.env)::starEach es X.env:=by rfl)(hpl:(backTo pos (starEach es X.env)).any (·.1)=false:=by rfl) :
  JX X G H0 (.Call (.Name x p') (e::es) [] pos) (zdq xx is F):=let ⟨_,_,_,Fn,hm,hk,hb,hdb⟩:=c;⟨(zf1 Fn (rm.mono hkj) hg hm hk hb ha.out hdb he hpl).imp zin⟩
instance (a b:List AK):Decidable (a=b):=Classical.propDecidable _
def isK(κ:AK)(e:DE0)(i:Nat):Prop:=(∃l ps,e[i]?=some (some (.ag κ l ps)))\/∃ps,e[i]?=some (some (.ro κ ps))
instance (κ:AK) (e:DE0) (i:Nat):Decidable (isK κ e i):=Classical.propDecidable _
variable{i:Nat}
theorem isK.at{K:PySem.W.Frag}{W:Addr->Prop}{H:Hp}{env:DE0}{σ:St}{c:Str}{fs:List Str}{C:Addr}(ok:Ok K G H0 W env σ H)(h:isK (.ins false c fs) env i)(hC:Cl K c C):∃p dx us,σ[i]?=some (some (.ref p))/\H p=some (.ins C dx (fs.zip us))/\fs.length=us.length:=by
 rcases h with⟨l,ps,e⟩ | ⟨ps,e⟩
 ·obtain⟨v,e1,p,as,us,rfl,_,_,_,⟨C',dx,z1,z2,z3⟩,_⟩:=ok.slot i _ e
  rw[Cl.inj z1 hC] at z2
  exact⟨p,dx,us,e1,z2,z3⟩
 ·obtain⟨v,e1,p,us,rfl,_,⟨C',dx,z1,z2,z3⟩,_⟩:=ok.slot i _ e
  rw[Cl.inj z1 hC] at z2
  exact⟨p,dx,us,e1,z2,z3⟩
section
variable {X:Cx} {G:Gd} {H0:Hp} {a b e:Expr} {es:List Expr} {f:FE} {F:FA} {x m cn:Str} {fs:List Str} {is:List Nat} {pos p' p1 p2 apos:Pos} {i:Nat} {k:Nat} {fa C:Addr} {fd:FuncData} {ps:List Str} {pl:Sem Bool}
variable {mm:List Ag->List D->Option D} {xx:List Ag->List D->Option Str}
variable {mm:List Ag->List D->Option (D×List Ag)} {xx:List Ag->List D->Option (Str×List Ag)}
abbrev FV:=DE0->Option DE0
def tV(X:Cx)(G:Gd)(H0:Hp)(v:FV):TE:=fun σ H Q=>∃W env env',Ok X.K G H0 W env σ H/\v env=some env'/\∀W' z H',Step W H W' H'->Ok X.K G H0 W' env' σ H'->Q (.str z) H'
structure JV (X:Cx) (G:Gd) (H0:Hp) (e:Expr) (v:FV):Prop where
 out:PE X e (tV X G H0 v)
theorem zng{z:Str}{j:Nat}:JV X G H0 (.Constant (.str z) j pos) some:=⟨zi2.imp fun σ H Q ⟨W,env,env',ok,q,k⟩=>by cases q;exact k W z H Step.refl ok⟩
structure JVP (X:Cx) (G:Gd) (H0:Hp) (e:Expr) (v:FV):Prop where
 out:∀(pins:List (Addr×Obj)) (s:Shared) (σ:St) (H:Hp) (Q:Nat->Hp->Prop),Inv X pins σ H s->(∃W env env',Ok X.K G H0 W env σ H/\v env=some env'/\∀n W' H',n<=1000->Step W H W' H'->Ok X.K G H0 W' env' σ H'->Q n H') ->
  wpAny (model X.prog X.w) X.A (eval e X.env) (fun u s'=>∃z t H',u=.str z t/\Inv X pins σ H' s'/\Q z.length H') X.xe s
structure JVs (X:Cx) (G:Gd) (H0:Hp) (es:List Expr) (v:FV):Prop where
 out:∀(acc:Str) (pins:List (Addr×Obj)) (s:Shared) (σ:St) (H:Hp) (Q:VK),acc.length+1000*es.length<=100000->Inv X pins σ H s->tV X G H0 v σ H Q ->
  wpAny (model X.prog X.w) X.A (joinParts acc (evalEach es X.env)) (EP X pins σ Q) X.xe s
abbrev VEs:List Value:=[.type "ValueError",.type "Exception",.type "BaseException",.type "object"]
def XC(K:PySem.W.Frag)(C:Addr):Prop:=PySem.W.excIn K C VEs "ValueError.__new__" = true
def Exc(K:PySem.W.Frag)(mg:Str->Option Value)(c:Str):Prop:=∃C,Cl K c C/\XC K C/\mg c=some (.ref C)/\(c==("__debug__" : Str))=false
theorem XC.obj{K:PySem.W.Frag}{C:Addr}{h:Heap}(hx:XC K C)(kin:K.In h):∃bm N nm q bs hdct sn sub ab col dd k0 k1 k2 k3 k5 mN,h.get? C=some (excClassObj nm q C N bs bm hdct sn sub ab col dd k0 k1 k2 k3 k5 "ValueError.__new__")/\h.Ns N mN/\mN "__init__" = none/\OwnTail h VEs bm:=by
 unfold XC PySem.W.excIn at hx
 split at hx
 case h_2=>cases hx
 rename_i dd cd sl ho
 split at hx
 case h_2=>cases hx
 rename_i C' bm k0 k1 k2 k3 n k5 hm hs
 simp only[Bool.and_eq_true,beq_iff_eq,Bool.not_eq_true'] at hx
 obtain⟨⟨⟨⟨⟨y1,y2⟩,y3⟩,y4⟩,y5⟩,y6⟩:=hx
 subst y1;subst y2
 have o2:=kin _ _ ho
 obtain⟨nm,bs,mro,ns,qn,hd,sn,sub,ab,col,del⟩:=cd
 obtain⟨l⟩:=sl
 dsimp only at hm y3 y5 y6 hs
 subst hm;subst y3;subst hs
 exact⟨bm,ns,nm,qn,bs,hd,sn,sub,ab,col,dd,k0,k1,k2,k3,k5,_,o2,.of_isNs (isNs_of_in kin y5),nsMap_none_of_in kin y5 y6,tail_of_in kin y4⟩
def zew(c:Str)(v:FV):FS:=fun e=>(v e).map fun e'=>(.xc c,e')
theorem zhj{v:FV}{c:Str}{np cpos:Pos}(ec:Exc X.K X.mg c)(ha:JV X G H0 a v)(hh:X.calm=true:=by rfl)(hg:Gl X c:=by walk_at "g")(he:starEach [a] X.env=(false,eval a X.env)::starEach [] X.env:=by rfl)(hpl:(backTo cpos (starEach [a] X.env)).any (·.1)=false:=by rfl) :
  DSx X G H0 (.Raise (some (.Call (.Name c np) [a] [] cpos)) none pos) (zew c v):=let ⟨C,hc,hx,hm,hdb⟩:=ec;⟨fun pins s σ H D I ⟨W,env,fl,env',ok,q,k⟩=>by
 unfold zew at q
 cases e1:v env with
 | none=>rw[e1] at q;cases q
 | some env1 =>
   rw[e1] at q;cases q
   obtain⟨tl,N,nm,q,bs,hdct,sn,sub,ab,col,dd,k0,k1,k2,k3,k5,mN,z1,z2,z3,z4⟩:=hx.obj I.ok.mod.kin
   refine wpAny_Raise_call_subT (C:=C) (nm:=nm) (q:=q) (N:=N) (bs:=bs) (bm:=tl) (hdct:=hdct) (sn:=sn) (sub:=sub) (ab:=ab) (col:=col) (dd:=dd) (k0:=k0) (k1:=k1) (k2:=k2) (k3:=k3) (k5:=k5) PySem.F.excBase_ValueError (mN:=mN)
    (z4.hasType PySem.F.excBase_ValueError.hasBase) (I.ok.hd hh) hpl z3 (zcp I hg hm ⟨rfl,?_⟩ hdb)
   rw[he]
   refine Calls.evalArgs_plain ?_
   have hp:=(zbz ha.out zc4 he) cpos pins s σ H (fun vs H1=>vs.length=1/\∃W1,Step W H W1 H1/\Ok X.K G H0 W1 env' σ H1) I ⟨W,env,env',ok,e1,fun W1 z H1 s1 ok1=>⟨rfl,W1,s1,ok1⟩⟩
   rw[he] at hp
   refine thn hp fun us s1 ⟨vs,H1,I1,rv,hl,W1,s1',ok1⟩=>?_
   have hle:us.length<=sizeLine:=by rw[← rv.length,hl];decide
   exact⟨rfl,hle,I1.bk _ _ z1,z2.keeps I1.bk,z4.keeps I1.bk,fun h' e m=>k W1 σ H1 C hc s1' ok1 pins e _ (.inr ⟨s1,us,I1,m,rfl⟩)⟩⟩
end
def agAt(e:DE0)(i:Nat):Option Ag:=match e[i]? with | some (some (.ag k _ ps))=>some (k,ps) | some (some (.ro k ps))=>some (k,ps) | _=>none
def zkv:List Pt->Nat->Nat
 | .o _::r,j+1=>zkv r j+1
 | .d _::r,j+1=>zkv r j
 | _,_=>0
inductive Acc where
 | at (κ:AK) | al (x:Nat)
def Acc.ok:Acc->DE0->Nat->Nat->Prop
 | .at κ,e,i,_=>isK κ e i
 | .al x,e,i,j=>∃k r ps,e[i]?=some (some (.ag k (some r) ps))/\e[x]?=some (some (.al r (zkv ps j)))
instance (A:Acc) (e:DE0) (i j:Nat):Decidable (A.ok e i j):=Classical.propDecidable _
def zot(A:Acc)(i j:Nat)(e:DE0):Option (List D):=if A.ok e i j then(agAt e i).bind fun x=>match x.2[j]? with | some (.o ds)=>some ds | _=>none else none
def PartAt(K:PySem.W.Frag)(H:Hp)(env:DE0)(σ:St)(i j:Nat)(a:Addr):Prop:=∃k ps p us,agAt env i=some (k,ps)/\σ[i]?=some (some (.ref p))/\AkOk K H k p us/\us[j]?=some (.ref a)
def tPt(X:Cx)(G:Gd)(H0:Hp)(A:Acc)(i j:Nat):TE:=fun σ H Q=>∃W env ds,Ok X.K G H0 W env σ H/\zot A i j env=some ds /\
 ∀a vs,PartAt X.K H env σ i j a->H a=some (.lst vs)->Reps X.K H (Ow G W) ds vs->Q (.ref a) H
structure JPt (X:Cx) (G:Gd) (H0:Hp) (e:Expr) (A:Acc) (i j:Nat):Prop where
 out:PE X e (tPt X G H0 A i j)
variable{j:Nat}
theorem Ok.part(ok:Ok K G H0 W env σ H){k:AK}(e:agAt env i=some (k,ps))(hj:ps[j]?=some (.o ds)):∃p us a vs,σ[i]?=some (some (.ref p))/\AkOk K H k p us/\us[j]?=some (.ref a)/\H a=some (.lst vs)/\Reps K H (Ow G W) ds vs:=by
 unfold agAt at e
 split at e
 ·rename_i k' l ps' q
  cases e
  obtain⟨v,e1,p,as,us,rfl,_,_,_,hk,hp⟩:=ok.slot i _ q
  obtain⟨a,vs,h1,_,_,h2,h3⟩:=hp.get hj
  exact⟨p,us,a,vs,e1,hk,h1,h2,h3⟩
 ·rename_i k' ps' q
  cases e
  obtain⟨v,e1,p,us,rfl,_,hk,hp⟩:=ok.slot i _ q
  obtain⟨a,vs,h1,_,h2,h3⟩:=hp.get hj
  exact⟨p,us,a,vs,e1,hk,h1,h2,h3⟩
 ·cases e
variable{a:Addr}
theorem PartAt.inj{b:Addr}(h:PartAt K H env σ i j a)(h':PartAt K H env σ i j b):a=b:=by
 obtain⟨k,ps,p,us,h1,h2,h3,h4⟩:=h
 obtain⟨k',ps',p',us',h1',h2',h3',h4'⟩:=h'
 rw[h1] at h1';cases h1'
 rw[h2] at h2';cases h2'
 rw[zgz h3 h3'.o] at h4'
 rw[h4] at h4';cases h4';rfl
structure JK (X:Cx) (e:Expr) (z:Int):Prop where
 out:PE X e (tC (.int z))
variable{fs:List Str}
def labO(k:AK)(l:Option Nat):Prop:=l.isSome=true/\∀c fs,k≠.ins true c fs
instance (k:AK) (l:Option Nat):Decidable (labO k l):=Classical.propDecidable _
instance (k k':AK):Decidable (k=k'):=Classical.propDecidable _
abbrev FG:=DE0->Option (Ag×DE0)
def zou(env:DE0)(σ:St)(H:Hp)(s:Sl)(v:V):Prop:=∀(j:Nat) (s':Sl) (v':V) (a:Addr),env[j]?=some (some s')->σ[j]?=some (some v')->Owns H s v a->¬Owns H s' v' a
def tAG(X:Cx)(G:Gd)(H0:Hp)(f:FG):TE:=fun σ H Q=>∃W env x env',Ok X.K G H0 W env σ H/\f env=some (x,env') /\
 ∀W' p H',Step W H W' H'->Ok X.K G H0 W' env' σ H'->SlOk X.K G W' H' (.ag x.1 none x.2) (.ref p)->zou env' σ H' (.ag x.1 none x.2) (.ref p)->Q (.ref p) H'
structure JAg (X:Cx) (G:Gd) (H0:Hp) (e:Expr) (f:FG):Prop where
 out:PE X e (tAG X G H0 f)
def ptD:Pt->D | .d d=>d | .o ds=>.lst ds
def zkw(r:Nat):DE0->Option (List Pt)
 | []=>none
 | some (.ag .ls (some r') ps)::e=>if r'=r then some ps else zkw r e
 | _::e=>zkw r e
def zkx:List Pt->Nat->Option (List D)
 | .o ds::_,0=>some ds
 | .o _::r,j+1=>zkx r j
 | .d _::r,j=>zkx r j
 | [],_=>none
def znh(b:Bool)(ps:List Pt):List Pt:=if b=true then ps.map fun p=>.d (ptD p) else ps
def frz1(b:Bool)(env:DE0):Option Sl->Option Sl
 | some (.sh d)=>some (.sh d)
 | some (.ow ds)=>some (.sh (.lst ds))
 | some (.o2 dss)=>some (.sh (.lst (dss.map D.lst)))
 | some (.ag .ls _ ps)=>some (.sh (.lst (ps.map ptD)))
 | some (.ag k _ ps)=>some (.ro k (znh b ps))
 | some (.ro .ls ps)=>some (.sh (.lst (ps.map ptD)))
 | some (.ro k ps)=>some (.ro k (znh b ps))
 | some (.al r j)=>(zkw r env).bind fun ps=>(zkx ps j).map fun ds=>.sh (.lst ds)
 | none=>none
def frz(b:Bool)(env:DE0):DE0:=env.map (frz1 b env)
theorem PtsRo.all(h:PtsRo K G W H ps us)(hO:∀a,O a):Reps K H O (ps.map ptD) us:=by
 induction h with
 | nil=>exact .nil
 | d r _ ih=>exact .cons ((zb8 fun a _=>hO a).1 _ _ r) ih
 | o _ hl r _ ih=>exact .cons (.lst (hO _) (.inl hl) ((zb8 fun a _=>hO a).2 _ _ r)) ih
def frs1:Option Sl->Option Sl
 | some (.sh d)=>some (.sh d)
 | some (.ag k _ ps)=>some (.ro k ps)
 | some (.ro k ps)=>some (.ro k ps)
 | _=>none
def frsE(env:DE0):DE0:=env.map frs1
def OwG(G:Gd)(W:Addr->Prop)(H:Hp):Gd:=⟨fun a=>Ow G W a\/H a=none,G.r⟩
theorem PtsOk.length(h:PtsOk K G W H ps as us):ps.length=us.length:=by
 induction h with
 | nil=>rfl
 | d _ _ ih=>rw[List.length_cons,List.length_cons,ih]
 | o _ _ _ _ ih=>rw[List.length_cons,List.length_cons,ih]
abbrev FP:=DE0->Option (List Pt)
def tPs(X:Cx)(G:Gd)(H0:Hp)(f:FP):TA:=fun σ H Q=>∃W env ps,Ok X.K G H0 W env σ H/\f env=some ps /\
 ∀as us H',Same H H'->as.Nodup->(∀a∈as,H a=none)->PtsOk X.K (OwG G W H) (fun a=>a∈as) H' ps as us->Q us H'
structure JPs (X:Cx) (G:Gd) (H0:Hp) (es:List Expr) (f:FP):Prop where
 out:PA X es (tPs X G H0 f)
theorem Rd.some{u:HO}(h:Rd H a u):H a≠none:=fun z=>by rcases h with h | ⟨_,h⟩ <;> rw[z] at h <;> cases h
theorem PtsOk.snoc{l:Addr}(h:PtsOk K G W H ps as us)(hW:W l)(hl:H l=some (.lst vs))(r:Reps K H (Ow G W) ds vs):PtsOk K G W H (ps++[.o ds]) (as++[l]) (us++[.ref l]):=by
 induction h with
 | nil=>exact .o hW hl r .nil
 | d q _ ih=>exact .d q ih
 | o a b c _ ih=>exact .o a b c ih
end L2
namespace L2
open PySem
abbrev ziq:List Str:=["kept", "states"]
end L2
namespace L2
open PySem PySem.Spec PyProof.Rows
def zo5(i:Nat)(g:FE)(F:FA):FS:=fun e=>(F e).bind fun r=>match r.2[i]? with
 | some (some (.o2 dss))=>(g (frsE r.2)).bind fun q=>(match q.1 with | .int k=>(ixN dss.length k).map fun j=>(.nx,r.2.set i (some (.o2 (dss.set j r.1)))) | _=>none)
 | _=>none
def zo3(i:Nat)(g h f:FE):FS:=fun e=>(f e).bind fun r=>match r.2[i]? with
 | some (some (.o2 dss))=>(g (frsE r.2)).bind fun q=>(h (frsE r.2)).bind fun p=>(match q.1,p.1 with
   | .int k,.int m=>(ixN dss.length k).bind fun j=>(dss[j]?).bind fun ds=>(ixN ds.length m).map fun n=>(.nx,r.2.set i (some (.o2 (dss.set j (ds.set n r.1)))))
   | _,_=>none)
 | _=>none
end L2
namespace L2
open PySem PySem.Spec PyProof.Rows PySem.F
end L2
namespace L2
open PySem PySem.Spec PyProof.Rows
def dPow:D->D->Option D | .int i,.int j=>if i=10/\0<=j/\j<=30 then some (.int (i ^ j.toNat)) else none | _,_=>none
variable{X:Cx}{G:Gd}{H0:Hp}
theorem zni:OpD X G H0 (rI CPow fun i j=>.int (i ^ j.toNat)) dPow:=od_I fun d1 d2 d h=>by
 unfold dPow at h
 split at h
 ·rename_i i j
  split at h
  case isFalse=>cases h
  rename_i hc
  cases h
  obtain⟨rfl,h0,h1⟩:=hc
  exact⟨10,j,rfl,rfl,by unfold CPow;omega,rfl⟩
 ·cases h
variable{f:Addr}{g:FS}{pos:Pos}
theorem zji{a b:Expr}{f g:FE}(ha:DEx X G H0 a f)(hb:DEx X G H0 b g):DEx X G H0 (.BinOp a .Pow b pos) (fBin dPow f g):=zdl zl3 zni ha hb
def celN(N:List Str)(sc:Scope):List Str:=N.filter fun u=>sc.names.lookup u==some .cell
def scB(N ps:List Str)(sc:Scope):Bool:=decide (sc.kind=.function) && !sc.isCoroutine && !sc.isGenerator && decide N.Nodup && decide (N.take ps.length=ps) && decide (∀y∈sc.names,y.2≠.free) && N.all fun x=>okN x && (sc.names.lookup x==some .local || sc.names.lookup x==some .cell)
variable{N ps:List Str}{sc:Scope}
theorem zfc(h:scB N ps sc=true):zb0 N ps sc/\∀x∈N,Loc sc x/\(x==("__debug__" : Str))=false/\(x==("__classdict__" : Str))=false:=by
 unfold scB at h
 simp only[Bool.and_eq_true,decide_eq_true_eq,Bool.not_eq_true',List.all_eq_true] at h
 obtain⟨⟨⟨⟨⟨⟨h1,h2⟩,h3⟩,h4⟩,h5⟩,h6⟩,h7⟩:=h
 have hl:∀x∈N,Loc sc x/\(x==("__debug__" : Str))=false/\(x==("__classdict__" : Str))=false:=fun x hx=>by
  obtain⟨a,b⟩:=h7 x hx
  have a:=zc6 a
  rcases Bool.or_eq_true _ _ ▸ b with b | b
  ·exact⟨.inl (zen b),a⟩
  ·exact⟨.inr (zen b),a⟩
 exact⟨⟨h1,h2,h3,h4,h5,fun x hx=>(hl x (by rw[← h5] at hx;exact List.mem_of_mem_take hx)).1,h6⟩,hl⟩
variable{P:Program}{w:World}{K:PySem.W.Frag}{mg:Str->Option Value}{base:Heap}{CX:CXT}{qual:Str}{cdv:Value}{A:Around}{outer:List Env}{s:Shared}{H:Hp}{E:XK}
theorem zf2(h:scB N ps sc=true):Ats N (celN N sc) (cxOf CX P w K mg base N qual sc f cdv A outer s H E) :=
 ⟨rfl,fun i x e=>let z:=(zfc h).2 x (List.mem_of_getElem? e);⟨e,z.1.elim .inl fun q=>.inr (.inl q),z.2.1,z.2.2⟩,fun u hu=>by
  obtain⟨_,h2⟩:=List.mem_filter.mp hu
  exact .inl (zen h2)⟩
theorem zf3(h:scB N ps sc=true):Tos N (cxOf CX P w K mg base N qual sc f cdv A outer s H E) :=
 ⟨fun i x e=>⟨(zfc h).1.nd,e,((zfc h).2 x (List.mem_of_getElem? e)).1,.inl rfl⟩⟩
variable{i:Nat}{x:Str}
theorem Tos.pg(t:Tos N X)(h:N[i]?=some x:=by rfl):PG X (.Name x pos) (zcy i):=zgi (t.t h).nd (t.t h).n (t.t h).l (t.t h).f
variable{e:Expr}{p':Pos}{F:FA}
theorem Tos.psF(t:Tos N X)(he:DFx X G H0 e F)(h:N[i]?=some x:=by rfl)(hs:swapsWith e (some (.Name x p')) pos.line X.env=pure false:=by rfl):PS X (.Assign [.Name x p'] e pos) (tAsg (tDF X.K G H0 F) (zcy i)):=zi4 (t.t h).nd (t.t h).n (t.t h).l he.out hs (t.t h).f
def Def(K:PySem.W.Frag)(mg:Str->Option Value)(st:Stmt)(x:Str)(ps:List Str):Prop:=∃f fd,Fun K x x st f fd/\Binds K fd ps []/\mg x=some (.ref f)
variable{st:Stmt}{k n ar:Nat}
theorem zdi(T:Def K mg st x ps)(N:List Str)(h:scB N ps (zac st)=true)(hx:okN x=true)(hb:∀(f:Addr) (cdv:Value) (A:Around) (outer:List Env) (s:Shared) (H:Hp) (E:XK) (G:Gd) (H0:Hp),Room k (A.deeper (envOfC x (zac st) s.heap.objs.size f cdv)) ->
   Ats N (celN N (zac st)) (cxOf CX0 P w K mg base N x (zac st) f cdv A outer s H E).nox->Tos N (cxOf CX0 P w K mg base N x (zac st) f cdv A outer s H E).nox->DBx (cxOf CX0 P w K mg base N x (zac st) f cdv A outer s H E).nox G H0 (zat st) g)(hn:n=N.length:=by rfl)(ha:ar=ps.length:=by rfl):Cal P w K mg base CX0 x (k+1) (dSp K (runD n ar g)):=by
 obtain⟨f,fd,F,b,m⟩:=T
 exact⟨f,fd,ps,fn_D F (zfc h).1 hn ha fun cdv A outer s H E G H0 hr=>hb f cdv A outer s H E G H0 hr (zf2 h).nox (zf3 h).nox,m,F.kp,b,(zc6 hx).1⟩
abbrev Bd(P:Program)(w:World)(K:PySem.W.Frag)(mg:Str->Option Value)(base:Heap)(N:List Str)(qual:Str)(st:Stmt)(k:Nat)(g:FS):Prop:=∀(f:Addr) (cdv:Value) (A:Around) (outer:List Env) (s:Shared) (H:Hp) (E:XK) (G:Gd) (H0:Hp),Room k (A.deeper (envOfC qual (zac st) s.heap.objs.size f cdv)) ->
   Ats N (celN N (zac st)) (cxOf (CXr P w) P w K mg base N qual (zac st) f cdv A outer s H E)->Tos N (cxOf (CXr P w) P w K mg base N qual (zac st) f cdv A outer s H E)->DBx (cxOf (CXr P w) P w K mg base N qual (zac st) f cdv A outer s H E) G H0 (zat st) g
theorem Def.cal{sp:Sp}(T:Def K mg st x ps)(hx:okN x=true)(h:∀f fd,Fun K x x st f fd->FnOk P w K mg base CX k f fd ps sp):Cal P w K mg base CX x k sp:=by
 obtain⟨f,fd,F,b,m⟩:=T
 exact⟨f,fd,ps,h f fd F,m,F.kp,b,(zc6 hx).1⟩
variable{p:Nat}
theorem zov(T:Def K mg st x ps)(N:List Str)(h:scB N ps (zac st)=true)(hx:okN x=true)(hb:Bd P w K mg base N x st k g)(hn:n=N.length:=by rfl)(ha:p+ar=ps.length:=by rfl):Cal P w K mg base (CXr P w) x (k+1) (qSp K (runQ n p ar g) (xQ n p ar g)) :=
 T.cal hx fun f fd F=>zos F (zfc h).1 hn ha fun cdv A outer s H E G H0 hr=>hb f cdv A outer s H E G H0 hr (zf2 h) (zf3 h)
theorem zow(N:List Str)(h:scB N ps (zac st)=true)(hb:∀(f:Addr) (cdv:Value) (A:Around) (outer:List Env) (s:Shared) (H:Hp) (E:XK) (G:Gd) (H0:Hp),Room k (A.deeper (envOfC x (zac st) s.heap.objs.size f cdv)) ->
   Ats N (celN N (zac st)) (cxOf CX0 P w K mg base N x (zac st) f cdv A outer s H E).nox->Tos N (cxOf CX0 P w K mg base N x (zac st) f cdv A outer s H E).nox->DBx (cxOf CX0 P w K mg base N x (zac st) f cdv A outer s H E).nox G H0 (zat st) g)(hn:n=N.length:=by rfl)(ha:ar=ps.length:=by rfl):∀f fd,Fun K x x st f fd->FnOk P w K mg base CX0 (k+1) f fd ps (dSp K (runD n ar g)) :=
 fun f fd F=>fn_D F (zfc h).1 hn ha fun cdv A outer s H E G H0 hr=>hb f cdv A outer s H E G H0 hr (zf2 h).nox (zf3 h).nox
variable{h:Heap}{oc:Value}{od an:Option Addr}{osl:Array (Option Value)}
theorem law_mk{fa:Addr}{s:Str}{m:List D->Option D}{kV doc pm cdv ct:Value}(X:K.In h)(G:h.Ns mainGlobals mg)(hfa:mg x=some (.ref fa))(a:PySem.W.nsIn K mainGlobals x=some (some (.ref f)))(l:K.lookup f=some ⟨oc,od,.func (PySem.W.fnOf x x (zch st) (zat st) (zac st) .none kV doc pm an cdv ct),osl⟩)(c:PySem.W.codeIn K cdv x=true)(k':PySem.W.keepIn K (.ref f)=true)(hb:∀v:Value,bindArgs (PySem.W.fnOf x x (zch st) (zat st) (zac st) .none kV doc pm an cdv ct) ⟨[v],[]⟩=pure [(s,v)])(F:∀base f fd,Fun K x x st f fd->FnOk P w K mg base CX0 k f fd [s] (dSp K m))(good:∀ns:List Int,ns.length<=63->m [.lst (ns.map D.int)]=some (.bl true)) :
  ∃fd:FuncData,(∀(t:Shared) (v:Value),BindsTo t fd ⟨[v],[]⟩ [(s,v)])/\∀base:Heap,K.In base->base.Ns mainGlobals mg->FnOk P w K mg base CX0 k fa fd [s] (zfu K):=by
 have e:=hfa.symm.trans (PySem.W.mg_of X G a)
 cases e
 exact⟨_,fun t v=>.of_eq (hb v),fun base _ _=>zoo (F base _ _ (zi8 l c k')) good⟩
theorem walkD{l:PySem.W.OpenLaw}{q:Program}{loose:List Str}{XP:(Str->Option Value)->Heap->Prop}{YP:World->Heap->Prop}{d:DefRec}{K:Params->PySem.W.Frag}{s:Str}(hr:Room k callerA)(hn:l.most=some 63)(hdf:d.params.defaults=[])(hY:∀(w:World) (h:Heap),YP w h->(K w.params).In h)(F:∀(w:World) (mg:Str->Option Value) (fa:Addr) (h:Heap),(K w.params).In h->h.Ns mainGlobals mg->mg d.name=some (.ref fa) ->
   ∃fd:FuncData,(∀(t:Shared) (u:Value),BindsTo t fd ⟨[u],[]⟩ [(s,u)])/\∀base:Heap,(K w.params).In base->base.Ns mainGlobals mg->FnOk l.prog w (K w.params) mg base CX0 k fa fd [s] (zfu (K w.params))) :
  PySem.W.WalkO q loose XP YP l.row.toRowW d [] (fun f vs=>PySem.call f vs) :=
 zj9 (n:=63) (k:=k) (x:=s) (CX:=fun _=>CX0) (sp:=fun w=>zfu (K w.params)) hn (by decide) hdf hr hY F (fun _ _ a ns hl _ hS=>⟨a,ns,rfl,hS,hl,fun _=>rfl⟩) fun _ _ _ _ _ z=>z
theorem def_mk{kV doc pm cdv ct:Value}(X:K.In h)(G:h.Ns mainGlobals mg)(a:PySem.W.nsIn K mainGlobals x=some (some (.ref f)))(l:K.lookup f=some ⟨oc,od,.func (PySem.W.fnOf x x (zch st) (zat st) (zac st) .none kV doc pm an cdv ct),osl⟩)(c:PySem.W.codeIn K cdv x=true)(k:PySem.W.keepIn K (.ref f)=true)(hb:∀us:List Value,us.length=ps.length->bindArgs (PySem.W.fnOf x x (zch st) (zat st) (zac st) .none kV doc pm an cdv ct) ⟨us,[]⟩=pure (ps.zip us)):Def K mg st x ps :=
 ⟨f,_,zi8 l c k,.all hb,PySem.W.mg_of X G a⟩
variable{C:Addr}
theorem exc_mk{c:Str}(X:K.In h)(G:h.Ns mainGlobals mg)(a:PySem.W.nsIn K mainGlobals c=some (some (.ref C)))(b:PySem.W.excIn K C VEs "ValueError.__new__" = true)(d:okN c=true):Exc K mg c:=⟨C,a,b,PySem.W.mg_of X G a,(zc6 d).1⟩
def ExcO(o:Obj)(C:Addr):Prop:=∃vs,o.cls=.ref C/\o.data=.fields vs/\vs[2]?=some .none
theorem zd3:entryFor table "proto.unchain" = some Builtin.«proto.unchain»:=entryFor_of_fast (by kernel_rfl)
variable{E:Value->Shared->Prop}{oc:Obj}{prog:Program}
theorem zgc{α:Type}{x c:Addr}{ox:Obj}{vx:Array Value}{Q:α->Shared->Prop}(hh:A.handled=some (.ref c))(hc:s.heap.get? c=some oc)(ic:ExcO oc C)(hx:s.heap.get? x=some ox)(hd:ox.data=.fields vx)(h2:2<vx.size)(ne:c≠x)(h:E (.ref x) { s with heap:=s.heap.update x (Obj.mapFields (·.setIfInBounds 2 (.ref c))) }):wpAny (model prog w) A (raiseNew (.ref x):Sem α) Q E s:=by
 unfold raiseNew
 refine wpAny_bind (wpAny_handled ?_)
 rw[hh]
 dsimp only
 rw[if_pos (by simp[ne])]
 obtain⟨vc,q2,q3,q4⟩:=ic
 refine wpAny_bind (wpAny_holding (wpAny_runValue (codeAny_builtin zd3 ?_)))
 show wpAny _ _ (field (.ref c) 2 >>= _) _ _ s
 refine wpAny_bind (wpAny_field hc q3 q4 ?_)
 rw[if_pos (by rfl)]
 refine wpAny_bind (wpAny_pure (wpAny_pure ?_))
 refine wpAny_bind ?_
 unfold updateField
 refine wpAny_bind (wpAny_load hx ?_)
 rw[hd]
 dsimp only
 rw[if_pos h2]
 exact wpAny_update hx (wpAny_throw h)
theorem zfd{it:Addr}{x left step:Int}{c:Addr}{Q:Option Value->Shared->Prop}(hh:A.handled=some (.ref c))(hc:s.heap.get? c=some oc)(ic:ExcO oc C)(hit:IsRangeIter s.heap it x left step)(hleft:left<=0)(hQ:∀h',Heap.ExtBut it s.heap h'->Q none { s with heap:=h' }):wpAny (model prog w) A (pyNext (.ref it)) Q E s:=by
 have hT:s.TypeIs (.ref it) "range_iterator":=⟨_,hit,rfl⟩
 unfold pyNext
 refine wpAny_bind (wpAny_attempt (wpAny_callSpecial?_slot (name:=Str.ofString "__next__") hT F.slot_range_iterator_next
  (wpAny_call_entry F.slot_range_iterator_next hT F.entry_range_iterator_next ?_ (F.args_range_iterator_next_1 _))))
 show wpAny _ _ (field (.ref it) 0 >>= _) _ _ s
 refine wpAny_bind (wpAny_field hit rfl (x:=rawInt x) rfl ?_)
 show wpAny _ _ (field (.ref it) 1 >>= _) _ _ s
 refine wpAny_bind (wpAny_field hit rfl (x:=rawInt left) rfl ?_)
 show wpAny _ _ (field (.ref it) 2 >>= _) _ _ s
 refine wpAny_bind (wpAny_field hit rfl (x:=rawInt step) rfl ?_)
 show wpAny _ _ (if left<=0 then _ else _) _ _ s
 rw[if_pos hleft]
 refine wpAny_bind (wpAny_rule ?_)
 refine wpAny_bind ?_
 show wpAny _ _ (newExc (.type "StopIteration") [] >>= _) _ _ _
 refine wpAny_bind ?_
 simp only[newExc,newTuple]
 refine wpAny_bind (wpAny_newObj_type ?_ (by size_fits))
 refine wpAny_bind (m:=firstArgMember _ _) (wpAny_of_eq (a:=Value.none) (by first | rfl | (simp only[firstArgMember];rfl)) ?_)
 refine wpAny_newObj_type ?_ (by size_fits)
 refine zgc (show A.in1.handled=some (.ref c) from hh) (Heap.get?_push_of_some _ (Heap.get?_push_of_some _ hc)) ic (Heap.get?_push_size _ rfl) rfl (by simp;omega) (Nat.ne_of_lt (by rw[Heap.size_push];exact Nat.lt_succ_of_lt (Heap.lt_size hc))) ?_
 refine wpAny_bind (wpAny_isInstance (T:="StopIteration") (b:=true) ⟨_,Heap.get?_update_self _ (Heap.get?_push_size _ rfl) (by rfl),rfl⟩ isSubtype_stop ?_)
 refine wpAny_pure (hQ _ fun b o hb e=>?_)
 rw[Heap.get?_update_other _ _ (fun z=>absurd (z ▸ Heap.lt_size e) (by rw[Heap.size_push];exact Nat.not_lt.mpr (Nat.le_succ _)))]
 exact Heap.get?_push_of_some _ (Heap.get?_push_of_some _ e)
end L2
namespace L2
open PySem PySem.Spec PyProof.Rows PySem.W
structure ECls (K:PySem.W.Frag) (C:Addr):Prop where
 ga:PySem.W.findIn K (.ref C) "__getattribute__" = some (some (.builtin "BaseException.__getattribute__"))
 hk:PySem.W.findIn K (.ref C) "__getattr__" = some none
 fd:PySem.W.findObj K C none "__class__" = some (.bind (.builtin "getset_descriptor.__get__") (.builtin "object.__class__"))
 ob:PySem.W.mroIn K C (.type "object")=some true
 be:PySem.W.mroIn K C (.type "BaseException")=some true
variable{K:PySem.W.Frag}{w:World}{A:Around}{E:Value->Shared->Prop}{s:Shared}{x:Str}{C:Addr}{Q:Unit->Shared->Prop}
theorem zhk{prog:Program}{x:Addr}{ox:Obj}{Q:Option Value->Shared->Prop}(c:ECls K C)(X:K.In s.heap)(I:PySem.W.InstAt s.heap x ox C none)(h:Q (some (.ref C)) { s with toks:=s.toks+1 }):wpAny (model prog w) A (getAttr? (.ref x) "__class__") Q E s:=by
 obtain⟨hh,g,d,t,os⟩:=s
 have L0:=I.type (M:=model prog w)
 have L1:=looks_findIn (M:=model prog w) X c.ga
 have L2:=looks_findIn (M:=model prog w) X c.hk
 have L3:=looks_find (M:=model prog w) X I c.fd
 have L4:=looks_mroIn (M:=model prog w) X c.be
 have f3:=F.excAttr_ValueError.ga.bind (.ref x)
 unfold getAttr? getAttrBy? getAttrBy
 refine wpAny_bind (wpAny_mkText (wpAny_bind (wpAny_attempt (wpAny_holding (wpAny_bind (L0.at (wpAny_bind (L1.at ?_))))))))
 show wpAny _ _ (getAttrByItsOwn _ _ _ _ _ _) _ _ _
 unfold getAttrByItsOwn
 refine wpAny_bind (m:=hookBefore _) (L2.at ?_)
 refine wpAny_bind (wpAny_attempt (wpAny_holding ?_))
 show wpAny _ _ (boundAndCalled _ _ _) _ _ _
 unfold boundAndCalled
 rw[f3]
 refine wpAny_bind (wpAny_pure (wpAny_call ?_))
 have hk:builtinKind "BaseException.__getattribute__" = some .slot:=by decide +kernel
 have hsplit:splitId "BaseException.__getattribute__" = some ("BaseException", "__getattribute__"):=by decide +kernel
 have ha:=F.args_bexc_ga (.ref x) (.str "__class__" t)
 refine codeAny_call_builtin F.excAttr_ValueError.ga.plain F.entry_bexc_ga ?_
 have L5:Looks (model prog w) hh (isInstance (.ref x) (.type "BaseException")) true:=L0.andThen L4
 simp only[checkBuiltinCall,hk,hsplit]
 refine wpAny_bind (L5.at ?_)
 repeat (first | wp_step | assumption)
 refine wpAny_loadPart_at I.at_ ?_
 rw[I.cls]
 refine wpAny_pure (wpAny_bind (L3.at ?_))
 dsimp only
 show wpAny _ _ (holding [_] (call _ [_,_,_]) >>= ret) _ _ _
 refine wpAny_bind (wpAny_holding (wpAny_call (class_get (s:=⟨hh,g,d,t+1,os⟩) (ox:=ox) (od:=none) X I c.ob ?_)))
 exact wpAny_pure (handed_on rfl (wpAny_pure h))
def Exo(o:Obj)(C:Addr):Prop:=ExcO o C/\o.dict=none
variable{h:Heap}{ea:Addr}{o:Obj}
theorem Exo.inst(e:h.get? ea=some o)(x:Exo o C):PySem.W.InstAt h ea o C none:=by
 obtain⟨⟨vs,h1,h2,_⟩,h3⟩:=x
 exact⟨e,h1,by unfold notCls;rw[h2],by rw[h3];trivial⟩
theorem zir(c:ECls K C):KitX K (.ref ea) (.ref C) (fun h=>∃ox,PySem.W.InstAt h ea ox C none):=by
 obtain⟨cd,hcd,_⟩:=Option.bind_eq_some_iff.mp c.fd
 unfold clsIn at hcd
 split at hcd
 case h_2=>cases hcd
 rename_i c' d' cd' sl' ho
 exact⟨fun _ _ _ ⟨_,I⟩=>I.type,fun _ _ X _ A' Q' E' s' k q=>by
   unfold isType loadHead
   exact wpAny_bind (wpAny_loadPart (k _ _ (X _ _ ho)) (wpAny_pure q)),
  fun h tp dd its n sl X htp=>Bool.eq_false_iff.mpr fun q=>by
   have e:C=tp:=Value.ref.inj (beq_iff_eq.mp q)
   subst e
   have z:=(X _ _ ho).symm.trans htp
   (injection z with z;injection z with _ _ z;cases z),
  fun X ⟨_,I⟩ k=>zhk c X I k⟩
structure Hd (ea C:Addr) (X:Cx):Prop where
 hh:X.A.handled=some (.ref ea)
 ob:∃o,X.s₀.heap.get? ea=some o/\Exo o C
 h0:X.H₀ ea=none
 nf:ea∉X.fs
 nx:ea∉X.ex
variable{X:Cx}{pins:List (Addr×Obj)}{σ:St}{H:Hp}
theorem Hd.at(h:Hd ea C X)(I:Inv X pins σ H s):∃o,s.heap.get? ea=some o/\Exo o C/\H ea=none :=
 let ⟨o,e,c⟩:=h.ob;⟨o,I.base.keep ea o e h.h0 h.nf h.nx,c,I.base.free ea o e h.h0 h.nx⟩
theorem Hd.comp{N':List Str}{sc:Scope}{cl:List (Str×Addr)}{C':Addr}{fp:List Addr}(h:Hd ea C X)(I:Inv X pins σ H s)(hf:∀b∈fp,FpOk X pins H b):Hd ea C (zak X x N' sc cl C' s H fp):=by
 obtain⟨o0,e0,_⟩:=h.ob
 obtain⟨o,e,c,n⟩:=h.at I
 have lt:=Heap.lt_size e0
 refine⟨h.hh,⟨o,e,c⟩,n,fun z=>?_,fun z=>?_⟩
 ·rcases List.mem_cons.mp (I.stkSub ea z) with q | q
  ·exact absurd (Nat.lt_of_lt_of_le lt (q ▸ I.ok.above)) (Nat.lt_irrefl _)
  ·exact h.nf q
 ·rcases(hf ea z).2.2.2.1 with q | q
  ·exact h.nx q
  ·exact absurd (Nat.lt_of_lt_of_le lt q) (Nat.lt_irrefl _)
variable{P:Program}
theorem zfe{tg:Expr}(it:Addr)(lo:Int)(n:Nat):ze4 (Hd ea C) P w K tg (Itr lo n) [it] it (fun i h=>IsRangeIter h it (lo+(i:Nat)*1) ((n:Int)-(i:Nat)) 1) where
 mem:=by simp
 obj:=(zcb (P:=P) (w:=w) (K:=K) (tg:=tg) it lo n).obj
 keep:=(zcb (P:=P) (w:=w) (K:=K) (tg:=tg) it lo n).keep
 item:=by
  intro X hP hw hK hc i pins s σ H E I hf st hg
  subst hP hw hK
  obtain⟨f0,f1,f2,f3,f4,f5⟩:=hf it (by simp)
  have hg:i<n:=hg
  refine wpAny_pyNext_range_item st (by omega) fun h' hit' hs'=>?_
  have I1:Inv X pins σ H { s with heap:=h',toks:=s.toks+1 }:=I.turned (fun b o hb e=>hs'.extBut b o hb e) f0 f1 f3 f4 f5
  have e1:lo+((i+1:Nat):Int)*1=lo+(i:Int)*1+1:=by omega
  have e2:(n:Int)-((i+1:Nat):Int)=(n:Int)-(i:Int)-1:=by omega
  have st':IsRangeIter h' it (lo+((i+1:Nat):Int)*1) ((n:Int)-((i+1:Nat):Int)) 1:=by rw[e1,e2];exact hit'
  refine⟨_,rfl,zh2 (s:={ s with heap:=h',toks:=s.toks+1 }) (n:="range_iterator") st' rfl rfl (by decide) ⟨.int (lo+i),H,I1,⟨s.toks,?_⟩,⟨rfl,rfl⟩,st',fun b hb=>(hf b hb).1⟩⟩
  rw[Int.mul_one]
 done:=by
  intro X hP hw hK hc i pins s σ H E I hf st hg
  subst hP hw hK
  obtain⟨f0,f1,f2,f3,f4,f5⟩:=hf it (by simp)
  obtain⟨o,e,⟨c,_⟩,_⟩:=hc.at I
  exact zfd hc.hh e c st (by have:n<=i:=hg;omega) fun h' eb=>⟨rfl,I.turned (t':=s.toks) (fun b o hb e=>eb b o hb e) f0 f1 f3 f4 f5⟩
 self:=(zcb (P:=P) (w:=w) (K:=K) (tg:=tg) it lo n).self
variable{a e:Expr}
def fIsx(ea:Addr)(i:Nat)(b:Bool):FE:=fun e=>match e[i]? with | some (some (.sh (.exc a)))=>if a=ea then some (.bl b,e) else none | _=>none
variable{b:Expr}
theorem zis(hd:Hd ea C X)(ec:ECls X.K C):CallR X (.builtin "isinstance") (fun xs H Q=>∃v u b,xs=[.ref ea,v]/\RelV v u/\(∀u',RelV v u'->u'=u)/\PySem.W.kitOne X.K (.ref C) u=some b/\Q (.bl b) H):=by
 intro pins s σ H xs us Q I r h
 obtain⟨v,u,b,rfl,_,hu,e,q⟩:=h
 obtain⟨u1,u',rfl,rx,rt⟩:=zjy r
 cases (show u1=Value.ref ea from rx)
 cases hu u' rt
 obtain⟨o,e1,x1,_⟩:=hd.at I
 exact PySem.W.kia_one (zir ec) I.kIn ⟨o,x1.inst e1⟩ e (fun z=>nomatch z) fun tk=>⟨.bl b,H,I.tok tk,rfl,q⟩
variable{b:Bool}{Nn Cn:List Str}{i:Nat}{cn:Str}{G:Gd}{H0:Hp}{pos p' p1 p2:Pos}
theorem zjj{v:V}{u:Value}(hd:Hd ea C X)(ec:ECls X.K C)(pc:PE X (.Name cn p2) (tC v))(rv:RelV v u)(hu:∀u',RelV v u'->u'=u)(hk:PySem.W.kitOne X.K (.ref C) u=some b)(an:Ats Nn Cn X)(bt:Bn X "isinstance":=by walk_at "b")(hno:Nn[i]?=some x:=by rfl)(he:starEach [.Name x p1,.Name cn p2] X.env=(false,eval (.Name x p1) X.env)::starEach [.Name cn p2] X.env:=by rfl)(he2:starEach [.Name cn p2] X.env=(false,eval (.Name cn p2) X.env)::starEach [] X.env:=by rfl)(hpl:(backTo pos (starEach [.Name cn p2] X.env)).any (·.1)=false:=by rfl) :
  DEx X G H0 (.Call (.Name "isinstance" p') [.Name x p1,.Name cn p2] [] pos) (fIsx ea i b) :=
 ⟨(zc1 (zis hd ec) bt.g bt.m zft (zbz ((an.a hno).pe) (zbz pc zc4 he2) he) (by decide) (by decide) he hpl).imp fun σ H Q ⟨W,env,d,env',ok,q,k⟩=>by
  unfold fIsx at q
  split at q
  ·rename_i a' e1
   split at q
   case isFalse=>cases q
   rename_i ea'
   subst ea'
   cases q
   obtain⟨v',e2,r⟩:=ok.slot i _ e1
   obtain rfl:=Rep.exc_ r
   exact⟨_,e2,v,u,b,rfl,rv,hu,hk,k W _ H Step.refl ok (.bl b)⟩
  ·cases q⟩
variable{g:FE}
theorem znj{R:Addr}(hd:Hd ea C X)(ec:ECls X.K C)(hm:X.mg cn=some (.ref R))(hk:PySem.W.kitOne X.K (.ref C) (.ref R)=some b)(an:Ats Nn Cn X)(hg:Gl X cn:=by walk_at "g")(hdb:(cn==("__debug__" : Str))=false:=by decide)(bt:Bn X "isinstance":=by walk_at "b")(hno:Nn[i]?=some x:=by rfl)(he:starEach [.Name x p1,.Name cn p2] X.env=(false,eval (.Name x p1) X.env)::starEach [.Name cn p2] X.env:=by rfl)(he2:starEach [.Name cn p2] X.env=(false,eval (.Name cn p2) X.env)::starEach [] X.env:=by rfl)(hpl:(backTo pos (starEach [.Name cn p2] X.env)).any (·.1)=false:=by rfl) :
  DEx X G H0 (.Call (.Name "isinstance" p') [.Name x p1,.Name cn p2] [] pos) (fIsx ea i b):=zjj hd ec (zjn (v:=.ref R) hg hm rfl hdb) rfl (fun _ z=>z) hk an bt hno he he2 hpl
theorem zky:bootBuiltins "ValueError" = some (.type "ValueError"):=by decide +kernel
theorem zkz(hd:Hd ea C X)(ec:ECls X.K C)(hk:PySem.W.kitOne X.K (.ref C) (.type "ValueError")=some b)(an:Ats Nn Cn X)(bv:Bn X "ValueError":=by walk_at "b")(bt:Bn X "isinstance":=by walk_at "b")(hno:Nn[i]?=some x:=by rfl)(he:starEach [.Name x p1,.Name "ValueError" p2] X.env=(false,eval (.Name x p1) X.env)::starEach [.Name "ValueError" p2] X.env:=by rfl)(he2:starEach [.Name "ValueError" p2] X.env=(false,eval (.Name "ValueError" p2) X.env)::starEach [] X.env:=by rfl)(hpl:(backTo pos (starEach [.Name "ValueError" p2] X.env)).any (·.1)=false:=by rfl) :
  DEx X G H0 (.Call (.Name "isinstance" p') [.Name x p1,.Name "ValueError" p2] [] pos) (fIsx ea i b):=zjj hd ec (zgh (v:=.ty "ValueError") bv.g bv.m zky rfl) rfl (fun _ z=>z) hk an bt hno he he2 hpl
def bTup:List D->Option D | [.lst ds]=>some (.tup ds) | _=>none
theorem zit:bootBuiltins "tuple" = some (.type "tuple"):=by decide +kernel
theorem znk:zf9 X G H0 (fun xs H Q=>∃p ys,xs=[.ref p]/\((SqL X.K H p ys/\∀l,H l=none->Q (.ref l) (upd H l (.tup ys)))\/(SqT X.K H p ys/\Q (.ref p) H))) bTup:=by
 intro W env σ H vs ds d Q ok r e k
 unfold bTup at e
 split at e
 ·cases e
  obtain⟨v,rfl,r1⟩:=zg7 r
  obtain⟨a,us,rfl,h,r⟩:=r1.lst_
  refine⟨a,us,rfl,.inl ⟨h.sq,fun l hn=>?_⟩⟩
  have sm:Same H (upd H l (.tup us)):=zdx hn
  exact k _ _ (Step.same sm) (ok.same sm) (.tup zbc (ok.reps (Step.same sm) r))
 ·cases e
variable{b:Expr}{F:FA}
theorem zk0(ha:DAx X G H0 [e] F)(bt:Bn X "tuple":=by walk_at "b")(he:starEach [e] X.env=(false,eval e X.env)::starEach [] X.env:=by rfl):DEx X G H0 (.Call (.Name "tuple" p') [e] [] pos) (zar bTup F):=zic zdw znk bt.g bt.m zit ha (by decide) (by decide) he rfl
abbrev Cx.hush(X:Cx)(A:Around)(p:List (Addr×Obj)):Cx:={ X with A:=A,calm:=false,pn:=p++X.pn }
variable{p:List (Addr×Obj)}
theorem Inv.hush(I:Inv X pins σ H s)(hA:A.frames=X.A.frames)(hp:∀q∈p,s.heap.get? q.1=some q.2/\H q.1=none/\q.1≠X.env.locals/\q.1∉X.fs/\∀v,q.2.data≠.cell v):Inv (X.hush A p) pins σ H s :=
 ⟨⟨I.ok.mod,I.ok.kind,I.ok.glob,I.ok.blt,I.ok.above,I.ok.inj,I.ok.has,I.ok.cab,(fun z=>nomatch z),hA.trans I.ok.frames,I.ok.stk,I.ok.exf,I.ok.bs,I.ok.bsz,I.ok.noex,I.ok.exfs,I.ok.funs,I.ok.frf⟩,I.os,I.bare,I.base,I.loc,I.cell,I.free,I.freeC,fun q hq=>by
  rw[List.append_assoc] at hq
  rcases List.mem_append.mp hq with hq | hq
  ·exact hp q hq
  ·exact I.pin q hq,I.hok,I.len⟩
theorem Inv.unhush(ok:X.Ok)(J:Inv (X.hush A p) pins σ H s):Inv X pins σ H s :=
 ⟨ok,J.os,J.bare,J.base,J.loc,J.cell,J.free,J.freeC,fun q hq=>J.pin q (by rw[List.append_assoc];exact List.mem_append_right _ hq),J.hok,J.len⟩
structure KOk (P:Program) (w:World) (K:PySem.W.Frag) (mg:Str->Option Value) (base:Heap) (k:Nat) (f:Addr) (fd:FuncData) (ps:List Str) (kd:Str->Option D):Prop where
 len:ps.length=1
 run:∀(A:Around) (outer:List Env) (s:Shared) (H:Hp) (ea C:Addr) (c:Str) (o:Obj) (d:D) (O:Addr->Prop) (Q:VK) (args:Args),Room k { A with handled:=none }->A.handled=some (.ref ea)->Env0 P w K mg base A outer s H->BindsTo s fd args (ps.zip [.ref ea]) ->
  s.heap.get? ea=some o->Exo o C->Cl K c C->H ea=none->ea∉frs outer->kd c=some d->(∀v H',Same H H'->Rep K H' (fun a=>O a\/H a=none) d v->Q v H')->codeAny (model P w) A (.call (.ref f) args) (CR CX0 outer P w H s Q E0) s
abbrev cxH(P:Program)(w:World)(K:PySem.W.Frag)(mg:Str->Option Value)(base:Heap)(N:List Str)(qual:Str)(scope:Scope)(f:Addr)(cdv:Value)(A:Around)(outer:List Env)(s:Shared)(H:Hp):Cx :=
 ((cxOf CX0 P w K mg base N qual scope f cdv { A with handled:=none } outer s H E0).nox).hush (A.deeper (envOfC qual scope s.heap.objs.size f cdv)) []
def runK(n:Nat)(g:Addr->Str->FS)(c:Str)(d:D):Prop:=∀ea,∃e',g ea c (zbk n [.exc ea])=some (.rt d,e')
variable{g:Addr->Str->FS}{st:Stmt}{N ps:List Str}{k:Nat}{kd:Str->Option D}{mg:Str->Option Value}{base:Heap}
theorem fn_K{qual:Str}{f:Addr}{fd:FuncData}{n:Nat}(F:Fun K x qual st f fd)(S:zb0 N ps (zac st))(hn:n=N.length)(hp:ps.length=1)(hkd:∀c d,kd c=some d->runK n g c d)(hbody:∀(cdv:Value) (A:Around) (outer:List Env) (s:Shared) (H:Hp) (ea C:Addr) (c:Str) (G:Gd) (H0:Hp),(kd c).isSome=true->Cl K c C->Hd ea C (cxH P w K mg base N qual (zac st) f cdv A outer s H)->DBx (cxH P w K mg base N qual (zac st) f cdv A outer s H) G H0 (zat st) (g ea c)) :
  KOk P w K mg base (k+1) f fd ps kd:=by
 subst hn
 refine⟨hp,fun A outer s H ea C c o d O Q args hr hh e0 hb ho hx hc hH hfo hd hQ=>?_⟩
 obtain⟨oc,od,kV,doc,pm,an,cdv,ct,osl,rfl,lk,hcd⟩:=F.ex
 have hl:[V.ref ea].length=ps.length:=hp.symm
 have KX:K.In s.heap:=e0.mod.kin.keeps fun b o e=>(e0.bs b o e).1
 have lim:s.heap.NoLimit:=e0.mod.nolimit.keeps fun b o e=>(e0.bs b o e).1
 have hkind:∀y∈ps.zip [Value.ref ea],(zac st).names.lookup y.1=some .local\/((zac st).names.lookup y.1=some .cell/\((cellsFrom (s.heap.objs.size+1) (zac st).names []).lookup y.1).isSome=true):=fun⟨n,v⟩ hy=>by
  rcases S.par n (List.of_mem_zip hy).1 with q | q
  ·exact .inl q
  ·exact .inr ⟨q,PySem.W.cellsFrom_some _ _ _ (.inl q)⟩
 refine codeAny_call_function (A:=A) hr.depth (KX _ _ lk) rfl S.co S.gen rfl (PySem.W.codeRec_of KX hcd) (hb _ _ _ _ ?_)
 refine wpAny_newFunctionEnv_cells S.kind hkind fun env he s1 x=>?_
 subst he
 refine⟨lim.keeps x.toInCall.keep,codeAny_func ?_⟩
 have e1:Env0 P w K mg base { A with handled:=none } outer s H:=⟨e0.frames,e0.mod,e0.bs,e0.bsz,e0.funs,e0.frf,e0.hok,e0.bare⟩
 have I0:Inv (cxOf CX0 P w K mg base N qual (zac st) f cdv { A with handled:=none } outer s H E0) [] (zbv N [.ref ea]) H s1:=zef S rfl e1 hl (.cons rfl .nil) x
 have I:Inv (cxH P w K mg base N qual (zac st) f cdv A outer s H) [] (zbv N [.ref ea]) H s1:=(I0.wish _).hush rfl fun q hq=>absurd hq (by simp)
 have hD:Hd ea C (cxH P w K mg base N qual (zac st) f cdv A outer s H):=⟨hh,⟨o,ho,hx⟩,hH,hfo,by simp[cxOf]⟩
 obtain⟨e',hg⟩:=hkd c d hd ea
 have hb2:=(hbody cdv A outer s H ea C c (gd fun a=>O a\/H a=none) H (by rw[hd];rfl) hc hD).out [] s1 (zbv N [.ref ea]) H { nx:=fun _ H'=>Q .non H',rt:=Q } I
  ⟨NoW,_,_,e',zc2 (K:=K) (O:=O) (.cons (.exc ea) .nil),hg,fun W' σ' v H' st ok' rp=>hQ v H' ok'.stay (rp.mono (fun _ _ h=>h) fun a us o h=>⟨o.1,h⟩)⟩
 refine wpAny_mono hb2 (fun fl s' hs=>?_) fun e s' hs=>False.elim hs
 have fin:∀ {σ':St} {H':Hp} {v:V} {u:Value},Inv (cxH P w K mg base N qual (zac st) f cdv A outer s H) [] σ' H' s'->RelV v u->Q v H'->CE outer P w H s Q u s' :=
  fun {σ' H' v u} J rv q=>⟨v,H',J.os,J.bare,J.base,J.hok,rv,q⟩
 cases fl with
 | ret u =>
   obtain⟨v,σ',H',J,rv,q⟩:=hs
   exact fin J rv q
 | next =>
   obtain⟨σ',H',J,q⟩:=hs
   exact fin (v:=V.non) (u:=Value.none) J rfl q
 | brk =>
   obtain⟨_,_,_,q⟩:=hs
   exact False.elim q
 | cont =>
   obtain⟨_,_,_,q⟩:=hs
   exact False.elim q
def KCl(P:Program)(w:World)(K:PySem.W.Frag)(mg:Str->Option Value)(base:Heap)(x:Str)(k:Nat)(kd:Str->Option D):Prop :=
 ∃f fd ps,KOk P w K mg base k f fd ps kd/\mg x=some (.ref f)/\PySem.W.keepIn K (.ref f)=true/\Binds K fd ps []/\(x==("__debug__" : Str))=false
def fKd(ea:Addr)(c:Str)(kd:Str->Option D)(i:Nat):FE:=fun e=>match e[i]? with | some (some (.sh (.exc a)))=>if a=ea then(kd c).map fun d=>(d,e) else none | _=>none
variable{c:Str}
theorem zk1{y:Str}{p:Pos}(hh:X.A.handled=some (.ref ea))(hp:(ea,o)∈X.pn)(hx:Exo o C)(hc:Cl X.K c C)(kc:KCl X.prog X.w X.K X.mg X.base x k kd)(rm:Room k { X.A with handled:=none })(an:Ats Nn Cn X)(hg:Gl X x)(hno:Nn[i]?=some y)(he:starEach [.Name y p1] X.env=(false,eval (.Name y p1) X.env)::starEach [] X.env)(hpl:(backTo pos (starEach [] X.env)).any (·.1)=false):DEx X G H0 (.Call (.Name x p) [.Name y p1] [] pos) (fKd ea c kd i):=⟨fun pins s σ H Q I ⟨W,env,d,env',ok,q,k⟩=>by
 obtain⟨f,fd,ps,F,hm,hk,hb,hdb⟩:=kc
 unfold fKd at q
 split at q
 case h_2=>cases q
 rename_i a e1
 split at q
 case isFalse=>cases q
 rename_i e0
 subst e0
 cases e2:kd c with
 | none=>rw[e2] at q;cases q
 | some d' =>
   rw[e2] at q
   cases q
   obtain⟨v',e3,r0⟩:=ok.slot i _ e1
   obtain rfl:=Rep.exc_ r0
   clear r0
   refine wpAny_Call_Name_kw (zcp I hg hm ?_ hdb)
   refine PySem.W.callWith_K (h₀:=X.base) I.ok.mod.kin hk (thn ((zbz (an.a hno).pe zc4 he) pos pins s σ H (fun vs H1=>vs=[V.ref a]/\H1=H) I ⟨_,e3,rfl,rfl⟩) fun us s1 ⟨vs,H1,I1,r,q1,q2⟩=>⟨I1.kIn,?_⟩) he hpl
   subst q1 q2
   obtain⟨u,rfl,hu⟩:=zgo r
   cases (show u=Value.ref a from hu)
   obtain⟨g1,g2,g3,g4,_⟩:=I1.pin (a,o) (List.mem_append_left _ hp)
   have hl:([Value.ref a]++[]).length=ps.length:=by rw[F.len];rfl
   have hz:=hb s1 [Value.ref a] I1.kIn hl
   rw[List.append_nil] at hz
   refine wpAny_call (codeAny_mono (F.run X.A X.stack s1 H1 a C c o _ (Ow G W) Q ⟨[.ref a],[]⟩ rm hh I1.env0 hz g1 hx hc g2 (fun z=>?_) e2 fun v H2 sm r2=>?_) fun r s' hq=>?_)
   ·rcases List.mem_cons.mp (I1.stkSub a z) with z | z
    ·exact g3 z
    ·exact g4 z
   ·refine k W v H2 (Step.same sm) (ok.same sm) (r2.mono (fun _ _ h=>h) fun a us o h=>⟨?_,h⟩)
    rcases o with o | o
    ·exact o
    ·exact⟨ok.good a (ok.stay.free o),fun z=>by obtain⟨_,us,q⟩:=ok.wl a z;rw[o] at q;cases q⟩
   ·cases r with
    | error e=>exact False.elim hq
    | ok fl =>
      cases fl with
      | ret u=>exact I1.after hq
      | next=>exact False.elim hq
      | brk=>exact False.elim hq
      | cont=>exact False.elim hq⟩
variable{M:Model}
theorem zhl(I:Inv X pins σ H s)(hN:X.N.Nodup)(hi:X.N[i]?=some x)(hk:X.env.kindOf x=some .local)(h:∀s',Inv X pins (σ.set i none) H s'->Q () s'):wpAny M A (do bindName X.env x .none;unbindBehindTheSuite X.env x pos) Q E s:=by
 obtain⟨m,hn,hl⟩:=id I.loc
 have hcls:(X.env.scope.kind==.class || (X.env.scope.kind==.module && X.env.locals != X.env.globals))=false:=by rw[I.ok.kind];rfl
 have hiσ:i<σ.length:=by rw[I.len];exact(List.getElem?_eq_some_iff.mp hi).1
 refine wpAny_nameGoes_keeps hk hn hcls fun h' v hn' hs=>?_
 obtain⟨oL,_,_,hoL,_⟩:=id hn
 refine h _ ⟨I.ok,I.os,I.bare,⟨fun b o e n hb hx=>?_,fun b o e n hb hx=>?_,I.base.free,fun b o e hx=>?_,I.base.tups,I.base.frzs,I.base.tbls⟩,⟨_,hn',fun j y v' e1 e2 e3=>?_⟩,fun y c e=>?_,I.free,I.freeC,fun p hp=>?_,fun b ob e=>?_,by simpa using I.len⟩
 ·exact(hs.2 b (Nat.ne_of_lt (Nat.lt_of_lt_of_le (Heap.lt_size e) I.ok.above))).trans (I.base.keep b o e n hb hx)
 ·obtain⟨sl,e1⟩:=I.base.slot b o e n hb hx
  exact⟨sl,(hs.2 b (Nat.ne_of_lt (Nat.lt_of_lt_of_le (Heap.lt_size e) I.ok.above))).trans e1⟩
 ·obtain⟨o',e1⟩:=I.base.there b o e hx
  exact⟨o',(hs.2 b (Nat.ne_of_lt (Nat.lt_of_lt_of_le (Heap.lt_size e) I.ok.above))).trans e1⟩
 ·by_cases hj:j=i
  ·subst hj
   rw[List.getElem?_set_self hiσ] at e2
   cases e2
  ·rw[List.getElem?_set_ne (Ne.symm hj)] at e2
   obtain⟨u',r',q⟩:=hl j y v' e1 e2 e3
   refine⟨u',r',?_⟩
   rcases q with⟨k,e⟩ | ⟨k,c,e,z⟩
   ·refine .inl ⟨k,?_⟩
    have:y≠x:=fun e=>hj (zdt hN e1 (e ▸ hi))
    simp[this,e]
   ·exact .inr ⟨k,c,e,z.sameBut hs (I.cne y c e)⟩
 ·obtain⟨w',z⟩:=I.cell y c e
  exact⟨w',z.sameBut hs (I.cne y c e)⟩
 ·obtain⟨e,n,ne,nf,d⟩:=I.pin p hp
  exact⟨(hs.2 p.1 ne).trans e,n,ne,nf,d⟩
 ·refine(I.hok b ob e).stay (fun c w' hc q=>(hs.2 c ?_).trans q) (fun _ q=>q) fun _ _ q=>q
  rintro rfl
  rcases hc with hc | hc
  ·rw[← hc,I.free] at e;cases e
  ·rw[I.free] at hc;cases hc
theorem ObjOk.here{a:Addr}{o:HO}(x:ObjOk P w H h a o):∃u,h.get? a=some u:=by
 induction o with
 | lst xs=>obtain⟨_,_,_,_,e⟩:=x;exact⟨_,e⟩
 | tup xs=>obtain⟨_,_,_,o,e,_⟩:=x;exact⟨_,e⟩
 | dK kvs=>obtain⟨_,_,_,_,o,_,_,e,_⟩:=x;exact⟨_,e⟩
 | dT kvs=>obtain⟨_,_,_,_,o,_,_,e,_⟩:=x;exact⟨_,e⟩
 | set S n=>obtain⟨o,_,_,_,e,_⟩:=x;exact⟨_,e⟩
 | ins C dx fs=>exact⟨_,x.2.2.2.1⟩
 | own _=>exact x
 | xd fs=>obtain⟨_,⟨_,_,_,e,_⟩,_⟩:=x;exact⟨_,e⟩
 | met f y=>exact⟨_,x⟩
 | rng lo hi=>obtain⟨_,_,_,e⟩:=x;exact⟨_,e⟩
 | frz o u _=>exact⟨_,x.1⟩
 | tbl ps=>exact⟨_,x⟩
 | ext φ=>exact x.2.1
variable{W:Addr->Prop}{env:DE0}
theorem Ok.unset(ok:Ok K G H0 W env σ H)(i:Nat):Ok K G H0 W (env.set i none) (σ.set i none) H:=by
 have gt:∀ {α:Type} {l:List (Option α)} {j:Nat} {a:α},(l.set i none)[j]?=some (some a)->i≠j/\l[j]?=some (some a):=fun {α l j a} e=>by
  by_cases h:i=j
  ·subst h
   rw[List.getElem?_set] at e
   simp at e
  ·rw[List.getElem?_set_ne h] at e
   exact⟨h,e⟩
 refine⟨ok.stay,ok.good,ok.wl,fun j s e=>?_,fun j j' s s' v v' a e1 e2 e3 e4=>ok.uniq j j' s s' v v' a (gt e1).2 (gt e2).2 (gt e3).2 (gt e4).2,by rw[List.length_set,List.length_set];exact ok.len⟩
 obtain⟨h,e⟩:=gt e
 obtain⟨v,e1,h1⟩:=ok.slot j s e
 exact⟨v,by rw[List.getElem?_set_ne h];exact e1,h1⟩
abbrev Cx.tr(X:Cx)(E:Value->Shared->Prop)(pp:List (Addr×Obj)):Cx:={ X with xe:=E,pn:=pp++X.pn }
theorem Inv.tr(I:Inv X pins σ H s):Inv (X.tr E pins) [] σ H s :=
 ⟨⟨I.ok.mod,I.ok.kind,I.ok.glob,I.ok.blt,I.ok.above,I.ok.inj,I.ok.has,I.ok.cab,I.ok.hd,I.ok.frames,I.ok.stk,I.ok.exf,I.ok.bs,I.ok.bsz,I.ok.noex,I.ok.exfs,I.ok.funs,I.ok.frf⟩,I.os,I.bare,I.base,I.loc,I.cell,I.free,I.freeC,fun q hq=>I.pin q (by
  rw[List.append_nil] at hq
  exact List.mem_append.mpr (List.mem_append.mp hq).symm),I.hok,I.len⟩
variable{pp:List (Addr×Obj)}
theorem Inv.untr(ok:X.Ok)(I:Inv (X.tr E pins) pp σ H s):Inv X pins σ H s :=
 ⟨ok,I.os,I.bare,I.base,I.loc,I.cell,I.free,I.freeC,fun q hq=>I.pin q (List.mem_append_left _ (List.mem_append.mpr (List.mem_append.mp hq).symm)),I.hok,I.len⟩
variable{cs:List Str}
theorem Ats.tr(h:Ats N cs X):Ats N cs (X.tr E pp):=⟨h.n,fun i x e=>let z:=h.get i x e;⟨z.n,z.v,z.d,z.c⟩,h.ck⟩
theorem Tos.tr(h:Tos N X):Tos N (X.tr E pp):=⟨fun i x e=>let z:=h.to i x e;⟨z.nd,z.n,z.l,z.f⟩⟩
theorem Ats.hush(h:Ats N cs X):Ats N cs (X.hush A pp):=⟨h.n,fun i x e=>let z:=h.get i x e;⟨z.n,z.v,z.d,z.c⟩,h.ck⟩
theorem Tos.hush(h:Tos N X):Tos N (X.hush A pp):=⟨fun i x e=>let z:=h.to i x e;⟨z.nd,z.n,z.l,z.f⟩⟩
def sTry(u:FS)(i j:Nat)(kd:Str->Option D):FS:=fun e=>(u e).bind fun r=>match r.1 with | .xc c=>(kd c).map fun d=>(.nx,((r.2.set i none).set j (some (.sh d))).set i none) | _=>some r
theorem set3{α:Type}(l:List (Option α))(i j:Nat)(a b:Option α):((l.set i a).set j b).set i none=((l.set i none).set j b).set i none:=by
 by_cases h:i=j
 ·subst h;simp[List.set_set]
 ·rw[List.set_comm _ _ h,List.set_set,List.set_comm _ _ h,List.set_set]
variable{e:Addr}{H':Hp}{s':Shared}
theorem Fly.obj(hX:X.stack=X.env::X.outer)(hf:X.env.frame=some X.env.locals)(f:Fly X.prog X.w X.stack H s C e H' s'):∃o,s'.heap.get? e=some o/\Exo o C/\H' e=none/\e≠X.env.locals/\e∉X.fs/\∀v,o.data≠.cell v:=by
 obtain⟨B,x,kb,hk,un,os,ba⟩:=f
 obtain⟨oe,vs,T,oT,ts,g1,g2,gd,g3,g4,g5,_⟩:=x.tr
 have nf:e∉frs X.stack:=fun z=>by
  obtain⟨_,o2,y,n⟩:=x.fr.mem z
  rw[g1] at y;cases y
  exact n vs g3
 rw[hX] at nf
 have nf:e∉X.env.locals::X.fs:=by unfold frs at nf;rw[List.filterMap_cons,hf] at nf;exact nf
 refine⟨oe,g1,⟨⟨vs,g2,g3,g5⟩,gd⟩,?_,fun z=>nf (z ▸ List.mem_cons_self),fun z=>nf (List.mem_cons_of_mem _ z),fun v z=>by rw[g3] at z;cases z⟩
 cases q:H' e with
 | none=>rfl
 | some o =>
   obtain⟨u,z⟩:=(hk e o q).here
   rw[x.new] at z;cases z
theorem Fly.flight(I:Inv X pins σ H s)(f:Fly X.prog X.w X.stack H s C e H' s')(h:∀h2,Fly X.prog X.w X.stack H s C e H' { s' with heap:=h2 }->Q () { s' with heap:=h2 }):wpAny M A (setFlight (.ref e) none) Q E s':=by
 obtain⟨B,x,kb,hk,un,os,ba⟩:=f
 refine ze8 x fun h2 x2 up he=>h h2 ⟨B,x2,kb,hk,⟨fun b o q n hb _=>x2.stay b o (kb b o q n hb),fun b o q n hb hx=>?_,un.free,fun b o q hx=>?_,un.tups,un.frzs,un.tbls⟩,os,ba⟩
 ·obtain⟨sl,z⟩:=un.slot b o q n hb hx
  obtain⟨_,o2,y,nf⟩:=I.stack.mem hb
  rw[q] at y;cases y
  obtain⟨sl',z'⟩:=up b _ z nf
  exact⟨sl',z'⟩
 ·obtain⟨o',z⟩:=un.there b o q hx
  exact he b o' z
theorem zk2{body:List Stmt}{u:FS}{j jr:Nat}{R y z:Str}{RA:Addr}{p3 p4 p5 p6 p7:Pos}(hR:X.mg R=some (.ref RA))(hsub:∀c C,(kd c).isSome=true->Cl X.K c C->PySem.W.exmOne X.K (.ref C) (.ref RA)=some true)(kc:KCl X.prog X.w X.K X.mg X.base x k kd)(rm:Room jr X.A)(an:Ats Nn Cn X)(tn:Tos Nn X)(hb:∀E pp,Ats Nn Cn (X.tr E pp)->Tos Nn (X.tr E pp)->DBx (X.tr E pp) G H0 body u)(hkr:k<=jr:=by decide)(hgR:Gl X R:=by walk_at "g")(hgx:Gl X x:=by walk_at "g")(hi:Nn[i]?=some y:=by rfl)(hj:Nn[j]?=some z:=by rfl)(hl:X.env.kindOf y=some .local:=by kernel_rfl)(hX:X.stack=X.env::X.outer:=by rfl)(hf:X.env.frame=some X.env.locals:=by rfl)(hdR:(R==("__debug__" : Str))=false:=by decide)(he:starEach [.Name y p4] X.env=(false,eval (.Name y p4) X.env)::starEach [] X.env:=by rfl)(hpl:(backTo p5 (starEach [] X.env)).any (·.1)=false:=by rfl)(hsw:swapsWith (.Call (.Name x p3) [.Name y p4] [] p5) (some (.Name z p2)) p6.line X.env=pure false:=by rfl) :
  DSx X G H0 (.Try body [.ExceptHandler (some (.Name R p1)) (some y) [.Assign [.Name z p2] (.Call (.Name x p3) [.Name y p4] [] p5) p6] p7] [] [] pos) (sTry u i j kd):=⟨fun pins s σ H Dn I ⟨W,env,fl,env',ok,q,k⟩=>by
 unfold sTry at q
 cases e1:u env with
 | none=>rw[e1] at q;cases q
 | some r =>
   obtain⟨fl1,env1⟩:=r
   rw[e1,Option.bind_some] at q
   refine wpAny_Try_except ?_
   refine wpAny_mono ((hb _ pins an.tr tn.tr).out [] s σ H Dn I.tr ⟨W,env,fl1,env1,ok,e1,?_⟩) (fun f s1 h1=>?_) (fun e s1 h1=>h1)
   ·cases fl1 with
    | xc c=>?_
    | nx=>cases q;exact k
    | bk=>cases q;exact k
    | ct=>cases q;exact k
    | rt d=>cases q;exact k
    | rf d=>cases q;exact k
    | r2 d=>cases q;exact k
    | ra d d'=>cases q;exact k
    cases e2:kd c with
    | none=>simp only[e2,Option.map_none] at q;cases q
    | some d =>
      simp only[e2,Option.map_some] at q
      cases q
      intro W' σ' H' C hc st ok' pins' e s' xs
      refine xs.come hX hf fun h2 s1 H1 I1 f=>?_
      have J:Inv X pins σ' H' { s' with heap:=h2 }:=(f.inv I1).untr I.ok
      obtain⟨o,g1,g2,_⟩:=Fly.obj (X:=X) hX hf f
      refine wpAny_handleBy_cons (codeAny_handlers_test ?_) (fun z=>nomatch z)
      refine zcp (J.hush (A:=X.A.mark (some (.ref e))) (p:=[]) rfl (by simp)) hgR hR ?_ hdR
      refine(exm_one (M:=model X.prog X.w) J.kIn (g2.inst g1).type (hsub c C (by rw[e2];rfl) hc)).here ?_
      refine codeAny_handlers_suite_as ?_
      refine f.flight I1 fun h3 f3=>?_
      have J3:Inv X pins σ' H' { s' with heap:=h3 }:=(f3.inv I1).untr I.ok
      obtain⟨o3,g1,g2,g3,g4,g5,g6⟩:=Fly.obj (X:=X) hX hf f3
      have hil:i<env1.length:=by
       rw[ok'.len,J3.len]
       exact(List.getElem?_eq_some_iff.mp (tn.t hi).n).1
      refine zc3 (X:=X.hush (X.A.mark (some (.ref e))) []) (J3.hush rfl (by simp)) (tn.t hi).nd (tn.t hi).n (tn.t hi).l (v:=.ref e) rfl (fun s4 I4 ⟨a,sb,ha⟩=>?_) (tn.t hi).f
      have ge:s4.heap.get? e=some o3:=(sb.2 e fun z=>by
       rcases ha with ha | ha
       ·exact g4 (z.trans ha)
       ·obtain⟨v,oc,h1,h2⟩:=J3.cell _ _ ha
        rw[← z] at h1
        cases g1.symm.trans h1
        exact g6 v h2).trans g1
      have I5:Inv ((X.hush (X.A.mark (some (.ref e))) [(e,o3)]).nox) pins (σ'.set i (some (.ref e))) H' s4:=((I4.unhush I.ok).hush (A:=X.A.mark (some (.ref e))) (p:=[(e,o3)]) rfl (fun q hq=>by cases List.mem_singleton.mp hq;exact⟨ge,g3,g4,g5,g6⟩)).wish _
      have hs:=(zai (zah (X:=(X.hush (X.A.mark (some (.ref e))) [(e,o3)]).nox) (G:=G) (H0:=H0) (pos:=p6) (p':=p2) tn.hush.nox (zk1 (C:=C) (c:=c) (o:=o3) (p:=p3) (p1:=p4) (pos:=p5) rfl (List.mem_append_left _ List.mem_cons_self) g2 hc kc ⟨rfl,(rm.mono hkr).dp,(rm.mono hkr).un⟩ an.hush.nox hgx hi he hpl) hj hsw)).out pins s4 _ H' { nx:=fun σ5 H5=>∃W5,Step W' H' W5 H5/\Ok X.K G H0 W5 ((env1.set i (some (.sh (.exc e)))).set j (some (.sh d))) σ5 H5,rt:=fun _ _=>False } I5 ⟨W',env1.set i (some (.sh (.exc e))),.nx,_,ok'.set (.exc e),by
       unfold sSet fKd
       rw[List.getElem?_set_self hil]
       dsimp only
       rw[if_pos rfl,e2]
       rfl,fun W5 σ5 H5 st5 ok5=>⟨W5,st5,ok5⟩⟩
      refine wpAny_mono hs (fun f5 s5 h5=>?_) (fun x s5 h5=>False.elim h5)
      cases f5 with
      | next =>
        obtain⟨σ5,H5,J5,W5,st5,ok5⟩:=h5
        refine zhl (J5.unwish.unhush I.ok) (tn.t hi).nd (tn.t hi).n hl fun s6 J7=>⟨_,_,J7,k W5 _ _ (st.trans st5) ?_⟩
        rw[← set3]
        exact ok5.unset i
      | brk=>obtain⟨_,_,_,z⟩:=h5;exact z.elim
      | cont=>obtain⟨_,_,_,z⟩:=h5;exact z.elim
      | ret u=>obtain⟨_,_,_,_,_,z⟩:=h5;exact z.elim
   ·cases f with
    | next =>
      obtain⟨σ',H',J,q⟩:=h1
      exact wpAny_execs_nil ⟨σ',H',J.untr I.ok,q⟩
    | brk=>obtain⟨σ',H',J,q⟩:=h1;exact⟨σ',H',J.untr I.ok,q⟩
    | cont=>obtain⟨σ',H',J,q⟩:=h1;exact⟨σ',H',J.untr I.ok,q⟩
    | ret u=>obtain⟨v,σ',H',J,r,q⟩:=h1;exact⟨v,σ',H',J.untr I.ok,r,q⟩⟩
def zbu:List Str:=["UnknownStack", "EmptyStack", "UnknownPlace", "BadHours", "BadLoss", "BadCount", "HouseFull", "DeedsFull", "NothingWaits", "NothingDone", "ShortOrder", "TooManyOrders", "NotGone"]
def zcz:List Str:=["unknown stack", "empty stack", "unknown place", "bad hours", "bad loss", "bad count", "house full", "deeds full", "nothing waits", "nothing done", "short order", "too many orders", "not gone"]
def zjk(c:Str):Option Str:=(zbu.zip zcz).lookup c
def kdT(c:Str):Option D:=(zjk c).map fun w=>.tup [.str "refused",.str w]
def zk3(K:PySem.W.Frag)(C:Addr):Bool:=findIn K (.ref C) "__getattribute__"==some (some (.builtin "BaseException.__getattribute__")) && findIn K (.ref C) "__getattr__"==some none && (match findObj K C none "__class__" with | some (.bind (.builtin g) (.builtin a))=>g=="getset_descriptor.__get__" && a=="object.__class__" | _=>false) && mroIn K C (.type "object")==some true && mroIn K C (.type "BaseException")==some true
def refB(K:PySem.W.Frag)(n:Str)(p:Addr->Bool):Bool:=match nsIn K mainGlobals n with | some (some (.ref R))=>p R | _=>false
def znl(K:PySem.W.Frag):Bool:=zbu.all fun c=>refB K c fun C=>zk3 K C && kitOne K (.ref C) (.type "ValueError")==some true && refB K "RotError" (fun R=>exmOne K (.ref C) (.ref R)==some true) && zbu.all fun n=>refB K n fun R=>kitOne K (.ref C) (.ref R)==some (c==n)
theorem zd4{n:Str}{p:Addr->Bool}(h:refB K n p=true):∃R,nsIn K mainGlobals n=some (some (.ref R))/\p R=true:=by
 unfold refB at h
 split at h
 ·exact⟨_,by assumption,h⟩
 ·cases h
theorem ziu(h:zk3 K C=true):ECls K C:=by
 unfold zk3 at h
 simp only[Bool.and_eq_true,beq_iff_eq] at h
 obtain⟨⟨⟨⟨h1,h2⟩,h3⟩,h4⟩,h5⟩:=h
 refine⟨h1,h2,?_,h4,h5⟩
 split at h3
 ·rename_i g a e
  rw[Bool.and_eq_true,beq_iff_eq,beq_iff_eq] at h3
  rw[e,h3.1,h3.2]
 ·cases h3
theorem zdr(h:(kdT c).isSome=true):c∈zbu:=by
 unfold kdT at h
 rw[Option.isSome_map] at h
 obtain⟨w,e⟩:=Option.isSome_iff_exists.mp h
 exact(List.of_mem_zip (PySem.mem_of_lookup e)).1
structure KFacts (K:PySem.W.Frag) (mg:Str->Option Value):Prop where
 b:znl K=true
 m:∀n∈("RotError" : Str)::zbu,∀R,nsIn K mainGlobals n=some (some (.ref R))->mg n=some (.ref R)
theorem kf_mk(X:K.In h)(G:h.Ns mainGlobals mg)(b:znl K=true):KFacts K mg:=⟨b,fun _ _ _ e=>mg_of X G e⟩
theorem KFacts.all(k:KFacts K mg)(hc:(kdT c).isSome=true)(cl:Cl K c C):ECls K C/\kitOne K (.ref C) (.type "ValueError")=some true/\(∃R,mg "RotError" = some (.ref R)/\exmOne K (.ref C) (.ref R)=some true)/\∀n∈zbu,∃R,mg n=some (.ref R)/\kitOne K (.ref C) (.ref R)=some (c==n):=by
 have h:=List.all_eq_true.mp k.b c (zdr hc)
 obtain⟨C',e,h⟩:=zd4 h
 cases e.symm.trans cl
 simp only[Bool.and_eq_true,beq_iff_eq] at h
 obtain⟨⟨⟨h1,h2⟩,h3⟩,h4⟩:=h
 obtain⟨R,e3,h3⟩:=zd4 h3
 refine⟨ziu h1,h2,⟨R,k.m _ List.mem_cons_self R e3,beq_iff_eq.mp h3⟩,fun n hn=>?_⟩
 obtain⟨R,e4,h4⟩:=zd4 (List.all_eq_true.mp h4 n hn)
 exact⟨R,k.m _ (List.mem_cons_of_mem _ hn) R e4,beq_iff_eq.mp h4⟩
theorem KFacts.rot(k:KFacts K mg):∃R,mg "RotError" = some (.ref R)/\∀c C,(kdT c).isSome=true->Cl K c C->exmOne K (.ref C) (.ref R)=some true:=by
 have h:=List.all_eq_true.mp k.b "UnknownStack" (by decide)
 obtain⟨C',e,_⟩:=zd4 h
 obtain⟨_,_,⟨R,e1,_⟩,_⟩:=k.all (c:="UnknownStack") (by decide) e
 refine⟨R,e1,fun c C hc cl=>?_⟩
 obtain⟨_,_,⟨R',e2,z⟩,_⟩:=k.all hc cl
 cases e1.symm.trans e2
 exact z
theorem zbx(kf:KFacts X.K X.mg)(hs:(kdT c).isSome=true)(cl:Cl X.K c C)(hd:Hd ea C X)(an:Ats Nn Cn X)(hn:cn∈zbu:=by decide)(hg:Gl X cn:=by walk_at "g")(hdb:(cn==("__debug__" : Str))=false:=by decide)(bt:Bn X "isinstance":=by walk_at "b")(hno:Nn[i]?=some x:=by rfl)(he:starEach [.Name x p1,.Name cn p2] X.env=(false,eval (.Name x p1) X.env)::starEach [.Name cn p2] X.env:=by rfl)(he2:starEach [.Name cn p2] X.env=(false,eval (.Name cn p2) X.env)::starEach [] X.env:=by rfl)(hpl:(backTo pos (starEach [.Name cn p2] X.env)).any (·.1)=false:=by rfl) :
  DEx X G H0 (.Call (.Name "isinstance" p') [.Name x p1,.Name cn p2] [] pos) (fIsx ea i (c==cn)):=by
 obtain⟨ec,_,_,h⟩:=kf.all hs cl
 obtain⟨R,hm,hk⟩:=h cn hn
 exact znj hd ec hm hk an hg hdb bt hno he he2 hpl
theorem znm(kf:KFacts X.K X.mg)(hs:(kdT c).isSome=true)(cl:Cl X.K c C)(hd:Hd ea C X)(an:Ats Nn Cn X)(bv:Bn X "ValueError":=by walk_at "b")(bt:Bn X "isinstance":=by walk_at "b")(hno:Nn[i]?=some x:=by rfl)(he:starEach [.Name x p1,.Name "ValueError" p2] X.env=(false,eval (.Name x p1) X.env)::starEach [.Name "ValueError" p2] X.env:=by rfl)(he2:starEach [.Name "ValueError" p2] X.env=(false,eval (.Name "ValueError" p2) X.env)::starEach [] X.env:=by rfl)(hpl:(backTo pos (starEach [.Name "ValueError" p2] X.env)).any (·.1)=false:=by rfl) :
  DEx X G H0 (.Call (.Name "isinstance" p') [.Name x p1,.Name "ValueError" p2] [] pos) (fIsx ea i true):=zkz hd (kf.all hs cl).1 (kf.all hs cl).2.1 an bv bt hno he he2 hpl
theorem zox(T:Def K mg st x ps)(N:List Str)(h:scB N ps (zac st)=true)(hx:okN x=true)(hkd:∀c d,kd c=some d->runK N.length g c d)(hb:∀(f:Addr) (cdv:Value) (A:Around) (outer:List Env) (s:Shared) (H:Hp) (ea C:Addr) (c:Str) (G:Gd) (H0:Hp),(kd c).isSome=true->Cl K c C->Hd ea C (cxH P w K mg base N x (zac st) f cdv A outer s H)->Ats N (celN N (zac st)) (cxH P w K mg base N x (zac st) f cdv A outer s H)->Tos N (cxH P w K mg base N x (zac st) f cdv A outer s H) ->
   DBx (cxH P w K mg base N x (zac st) f cdv A outer s H) G H0 (zat st) (g ea c))(hp:ps.length=1:=by rfl):KCl P w K mg base x (k+1) kd:=by
 obtain⟨f,fd,F,b,m⟩:=T
 exact⟨f,fd,ps,fn_K F (zfc h).1 rfl hp hkd fun cdv A outer s H ea C c G H0 hs hc hD=>hb f cdv A outer s H ea C c G H0 hs hc hD (zf2 h).nox.hush (zf3 h).nox.hush,m,F.kp,b,(zc6 hx).1⟩
def zk4(ea:Addr)(c:Str):FS:=sSeq (sSet 1 (fLst (zax (zad (fIsx ea 0 (c=="UnknownStack")) (zad (fIsx ea 0 (c=="EmptyStack")) fNil))))) (sSeq (sSet 1 (fLst (fCat (fVar 1) (fLst (zax (zad (fIsx ea 0 (c=="UnknownPlace")) (zad (fIsx ea 0 (c=="BadHours")) fNil))))))) (sSeq (sSet 1 (fLst (fCat (fVar 1) (fLst (zax (zad (fIsx ea 0 (c=="BadLoss")) (zad (fIsx ea 0 (c=="BadCount")) fNil))))))) (sSeq (sSet 1 (fLst (fCat (fVar 1) (fLst (zax (zad (fIsx ea 0 (c=="HouseFull")) (zad (fIsx ea 0 (c=="DeedsFull")) fNil))))))) (sSeq (sSet 1 (fLst (fCat (fVar 1) (fLst (zax (zad (fIsx ea 0 (c=="NothingWaits")) (zad (fIsx ea 0 (c=="NothingDone")) fNil))))))) (sSeq (sSet 1 (fLst (fCat (fVar 1) (fLst (zax (zad (fIsx ea 0 (c=="ShortOrder")) (zad (fIsx ea 0 (c=="TooManyOrders")) fNil))))))) (sSeq (sSet 1 (fLst (fCat (fVar 1) (fLst (zax (zad (fIsx ea 0 (c=="NotGone")) fNil)))))) (sSeq (sSet 2 (fLst (zax (zad (fC (.str "unknown stack")) (zad (fC (.str "empty stack")) (zad (fC (.str "unknown place")) (zad (fC (.str "bad hours")) (zad (fC (.str "bad loss")) (zad (fC (.str "bad count")) fNil))))))))) (sSeq (sSet 2 (fLst (fCat (fVar 2) (fLst (zax (zad (fC (.str "house full")) (zad (fC (.str "deeds full")) (zad (fC (.str "nothing waits")) (zad (fC (.str "nothing done")) (zad (fC (.str "short order")) fNil)))))))))) (sSeq (sSet 2 (fLst (fCat (fVar 2) (fLst (zax (zad (fC (.str "too many orders")) (zad (fC (.str "not gone")) fNil))))))) (sSeq (sSet 3 (fLst (ze7 (zau iR1 (zad (fC (.int 13)) fNil)) [2,1,0] (fAnd (fTst (fIxV 2 (fVar 0))) (fTst (fIsx ea 3 true))) (fIxV 1 (fVar 0))))) (sRet (zar bTup (zad (fLst (fCat (fLst (zax (zad (fC (.str "refused")) fNil))) (fVar 3))) fNil)))))))))))))
end L2
namespace LB
open PySem L2
def zcw:FS:=sRet (zeo (fIsi "int" (fVar 0)) (zg1 (fIsi "bool" (fVar 0))))
def zbf:List D->Option D:=runD 1 1 zcw
def zde:FS:=sSeq (sIf (fTst (fBin dLt (fVar 1) (za8 0))) (sRet (fIxV 0 (fVar 1))) (sNil)) (sRet (fC (.int 0)))
def zb9:List D->Option D:=runD 2 2 zde
def zbd:FS:=sSeq (sSet 5 (zar zb9 (zad (fVar 0) (zad (fVar 4) (fNil))))) (sSeq (sIf (fTst (fBin dEq (fBin dMod (za8 0) (fC (.int 2))) (fC (.int 1)))) (sSeq (sSet 3 (fBin dMod (fBin za1 (fBin za1 (fBin za1 (fBin dMul (fVar 3) (fC (.int 48271))) (fVar 5)) (fVar 4)) (fC (.int 1))) (fC (.int 2147483647)))) (sSet 5 (fBin dMod (fBin dMul (fBin za1 (fVar 3) (fVar 4)) (fC (.int 69621))) (fC (.int 2147483647))))) (sNil)) (ze9 (zdb 2 (fVar 5))))
def zcx:FS:=sSeq (sOwn 2 (zax (fNil))) (sSeq (sSet 3 (fC (.int 7))) (sSeq (sFor 4 (zau iR1 (zad (fVar 1) (fNil))) (zbd)) (sRet (fVar 2))))
def zbg:List D->Option D:=runD 6 2 zcx
def zaj:FS:=sSeq (sIf (fAnd (fTst (fIsi "str" (fIxV 1 (fVar 2)))) (fNot (fTst (fIsi "str" (fIxV 0 (fVar 2)))))) (sRet (fC (.bl false))) (sNil)) (sSeq (sIf (fAnd (fNot (fTst (fIsi "str" (fIxV 1 (fVar 2))))) (fNot (fTst (zar zbf (zad (fIxV 0 (fVar 2)) (fNil)))))) (sRet (fC (.bl false))) (sNil)) (sIf (fTst (fBin dNe (fIxV 0 (fVar 2)) (fIxV 1 (fVar 2)))) (sRet (fC (.bl false))) (sNil)))
def zav:FS:=sSeq (sIf (fOr (fNot (fTst (fIsi "tuple" (fVar 0)))) (fTst (fBin dNe (za8 0) (za8 1)))) (sRet (fC (.bl false))) (sNil)) (sSeq (sFor 2 (zau iR1 (zad (za8 1) (fNil))) (zaj)) (sRet (fC (.bl true))))
def zaw:List D->Option D:=runD 3 2 zav
def za5:FS:=sIf (fNot (fTst (zar zaw (zad (fIxV 0 (fVar 2)) (zad (fIxV 1 (fVar 2)) (fNil)))))) (sRet (fC (.bl false))) (sNil)
def zbj:FS:=sSeq (sIf (fOr (fNot (fTst (fIsi "list" (fVar 0)))) (fTst (fBin dNe (za8 0) (za8 1)))) (sRet (fC (.bl false))) (sNil)) (sSeq (sFor 2 (zau iR1 (zad (za8 1) (fNil))) (za5)) (sRet (fC (.bl true))))
def zaz:List D->Option D:=runD 3 2 zbj
theorem zoy(ns:List Int)(k:Nat):∃c,zb9 [.lst (ns.map D.int),.int k]=some (.int c):=by
 by_cases h:(k:Int)<ns.length
 ·obtain⟨x,h1,h2⟩:=znd (xs:=ns.map D.int) (i:=(k:Int)) (by omega) (by simpa using h)
  rw[List.getElem?_map] at h2
  cases q:ns[(k:Int).toNat]? with
  | none=>rw[q] at h2;cases h2
  | some c =>
    rw[q] at h2;cases h2
    refine⟨c,?_⟩
    simp[zb9,runD,zde,zbk,h,h1]
 ·refine⟨0,?_⟩
  simp[zb9,runD,zde,zbk,h]
theorem ziv(ns:List Int)(n:Nat)(hn:n<=1000):∃cs:List Int,cs.length=n/\zbg [.lst (ns.map D.int),.int n]=some (.lst (cs.map D.int)):=by
 have loop:=zbw (i:=4) (g:=zbd)
  (fun k e=>∃(cs:List Int) (st:Int) (v4 v5:Option Sl),cs.length=k/\e=[some (.sh (.lst (ns.map D.int))),some (.sh (.int n)),some (.ow (cs.map D.int)),some (.sh (.int st)),v4,v5])
  (rngD 0 n) [some (.sh (.lst (ns.map D.int))),some (.sh (.int n)),some (.ow []),some (.sh (.int 7)),none,none] ⟨[],7,none,none,rfl,rfl⟩ ?_
 ·obtain⟨e',h1,cs,st,v4,v5,hl,rfl⟩:=loop
  refine⟨cs,by rw[hl,zdc],?_⟩
  have hb:=zdd n (by omega)
  simp[zbg,runD,zcx,zbk,hb,h1]
 ·rintro k d e hd ⟨cs,st,v4,v5,hl,rfl⟩
  obtain⟨rfl,hk⟩:=zcd hd
  obtain⟨c,hc⟩:=zoy ns k
  have hcl:Few (cs.length+1):=few (by omega)
  by_cases hp:(ns.length:Int) % 2=1
  ·refine⟨_,?_,cs++[((st*48271+c+k+1) % 2147483647+k)*69621 % 2147483647],(st*48271+c+k+1) % 2147483647,some (.sh (.int (0+k))),some (.sh (.int (((st*48271+c+k+1) % 2147483647+k)*69621 % 2147483647))),by simp[hl],rfl⟩
   have s1:zdy 48271:=zfy (by decide)
   have s2:zdy 69621:=zfy (by decide)
   simp[zbd,hc,hp,dMod,dMul,s1,s2,hcl]
  ·refine⟨_,?_,cs++[c],st,some (.sh (.int (0+k))),some (.sh (.int c)),by simp[hl],rfl⟩
   simp[zbd,hc,hp,dMod,hcl]
theorem zd5(i:Int):zbf [.int i]=some (.bl true):=by
 simp[zbf,runD,zcw,zbk]
abbrev Sk:=Int×Int×Int
def sD(s:Sk):D:=.tup [.int s.1,.int s.2.1,.int s.2.2]
def zd6(s:Sk):Prop:=1<=s.1/\s.1<=60/\1<=s.2.1/\s.2.1<=60/\0<=s.2.2/\s.2.2<=100
variable{n:Nat}
theorem zhm{i:Int}(h0:0<=i)(h1:i<n):ixN n i=some i.toNat:=by unfold ixN;rw[if_pos h0,if_pos h1]
noncomputable def hl:FS:=sSeq (sSet 10 (fBin za1 (fC (.int 1)) (fBin dMod (fVar 9) (fC (.int 60))))) (sSeq (sSet 11 (fBin dMod (fBin dDiv (fVar 9) (fC (.int 60))) (fC (.int 101)))) (sSeq (sIf (fTst (fBin dEq (fVar 4) (fC (.int 1)))) (sSeq (sSet 10 (fBin za1 (fC (.int 1)) (fBin dMod (fVar 9) (fBin dSub (fC (.int 4)) (fBin dMul (fC (.int 2)) (fVar 5)))))) (sSet 11 (fBin dMod (fBin dDiv (fVar 9) (fC (.int 60))) (fBin dSub (fC (.int 4)) (fBin dMul (fC (.int 2)) (fVar 5)))))) (sNil)) (sSeq (sIf (fTst (fBin dEq (fVar 4) (fC (.int 2)))) (sSeq (sSet 10 (fBin dIx (fLst (zax (zad (fC (.int 1)) (zad (fC (.int 60)) (zad (fC (.int 2)) (zad (fC (.int 59)) (fNil))))))) (fBin dMod (fVar 9) (fC (.int 4))))) (sSet 11 (fBin dIx (fLst (zax (zad (fC (.int 0)) (zad (fC (.int 100)) (zad (fC (.int 1)) (zad (fC (.int 99)) (fNil))))))) (fBin dMod (fBin dDiv (fVar 9) (fC (.int 60))) (fC (.int 4)))))) (sNil)) (sIf (fTst (fBin dEq (fVar 4) (fC (.int 3)))) (sSeq (sSet 10 (fBin dIx (fLst (zax (zad (fVar 10) (zad (fBin za1 (fC (.int 58)) (fBin dMod (fVar 9) (fC (.int 3)))) (fNil))))) (fVar 5))) (sSet 11 (fVar 10))) (sNil)))))
noncomputable def pl:FS:=sSeq (sSet 12 (fBin dMod (fBin dIx (fLst (zax (zad (fBin dDiv (fVar 9) (fC (.int 6060))) (zad (fVar 8) (fNil))))) (fBin dMul (fBin dDiv (fVar 4) (fC (.int 3))) (fVar 5))) (fVar 2))) (sSeq (sSet 13 (zm8 7 (fBin dMod (fBin dDiv (fVar 9) (fC (.int 30300))) (za8 7)))) (ze9 (zij 6 (fVar 12) (fTup (zad (fVar 13) (zad (fVar 10) (zad (fVar 11) (fNil))))))))
def zo6(s:List Sk):List Sk:=match s.getLast? with
 | none=>[]
 | some x=>s.dropLast++[(x.1,x.2.1,x.2.2+1)]
structure SInv (menu:Int) (many k:Nat) (sss:List (List Sk)) (pool:List Int):Prop where
 len:sss.length=many
 tot:sss.flatten.length=k
 good:∀x∈sss.flatten,zd6 x/\(menu=3->x.2.2<=60)
 perm:(pool++sss.flatten.map (·.1)).Perm (rngL 1 61)
variable{menu:Int}{many k:Nat}{sss:List (List Sk)}{pool:List Int}
protected theorem SInv.step{j:Nat}{s:List Sk}{z hh l:Int}(h:SInv menu many k sss pool)(hj:sss[j]?=some s)(hn:pool[n]?=some z)(hb:1<=hh/\hh<=60/\0<=l/\l<=100/\(menu=3->l<=60)) :
  SInv menu many (k+1) (sss.set j (s++[(z,hh,l)])) (pool.eraseIdx n):=by
 have p1:=zf0 (x:=((z,hh,l):Sk)) hj
 have p2:=zdo hn
 have pp:((pool.eraseIdx n)++(sss.set j (s++[(z,hh,l)])).flatten.map (·.1)).Perm (rngL 1 61):=by
  refine .trans (List.Perm.append_left _ (p1.map (·.1))) ?_
  refine .trans ?_ h.perm
  refine .trans ?_ (List.Perm.append_right _ p2.symm)
  simp only[List.map_cons,List.cons_append]
  exact List.perm_middle
 refine⟨by rw[List.length_set];exact h.len,by rw[p1.length_eq,List.length_cons,h.tot],fun x hx=>?_,pp⟩
 have hx':=p1.mem_iff.mp hx
 rcases List.mem_cons.mp hx' with rfl | hx'
 ·have hz:z∈rngL 1 61:=h.perm.mem_iff.mp (List.mem_append_left _ (List.mem_of_getElem? hn))
  rw[zhg] at hz
  obtain⟨m,hm,rfl⟩:=List.mem_map.mp hz
  have hm:=List.mem_range.mp hm
  refine⟨⟨?_,?_,hb.1,hb.2.1,hb.2.2.1,hb.2.2.2.1⟩,hb.2.2.2.2⟩
  ·show 1<=1+(m:Int);omega
  ·show 1+(m:Int)<=60;omega
 ·exact h.good x hx'
structure Stk (most:Nat) (ss:List (List Sk)):Prop where
 many:ss.length<=5
 tot:ss.flatten.length<=most
 good:∀x∈ss.flatten,zd6 x
 nd:(ss.flatten.map (·.1)).Nodup
theorem zgd(i j:Int):(rngL i j).Nodup:=by
 rw[zhg]
 exact List.Pairwise.map _ (fun a b h z=>h (by omega)) List.nodup_range
theorem SInv.stk{most:Nat}(h:SInv menu many k sss pool)(hm:many<=5)(hk:k<=most):Stk most sss :=
 ⟨by rw[h.len];exact hm,by rw[h.tot];exact hk,fun x hx=>(h.good x hx).1,(List.nodup_append.mp (h.perm.nodup_iff.mpr (zgd 1 61))).2.1⟩
def iT(xs:List Int):D:=.tup (xs.map D.int)
variable{α:Type}
theorem zcm(f:α->D){xs:List α}{x:α}(h:xs[k]?=some x):atI (xs.map f) (k:Int)=some (f x):=by
 have hl:=(List.getElem?_eq_some_iff.mp h).1
 unfold atI
 rw[zhm (by omega) (by rw[List.length_map];omega)]
 simp[h]
theorem zff(xs:List Int)(hl:xs.length<=1000):zaw [iT xs,iT xs]=some (.bl true):=by
 obtain⟨e',h1,v2,rfl⟩:=zbw (i:=2) (g:=zaj) (fun k e=>∃v2,e=[some (.sh (iT xs)),some (.sh (iT xs)),v2]) (rngD 0 xs.length) [some (.sh (iT xs)),some (.sh (iT xs)),none] ⟨none,rfl⟩ (by
  rintro k d e hd ⟨v2,rfl⟩
  obtain⟨rfl,hk⟩:=zcd hd
  have ha:atI (xs.map D.int) (k:Int)=some (.int xs[k]):=zcm D.int (by simp[hk])
  exact⟨[some (.sh (iT xs)),some (.sh (iT xs)),some (.sh (.int (0+k)))],by simp[zaj,iT,ha,zd5],_,rfl⟩)
 have hi:=zdd xs.length (by omega)
 refine zbt (e':=?w) rfl ?h
 rotate_left
 show zav [some (.sh (iT xs)),some (.sh (iT xs)),none]=_
 have h1':forL 2 zaj (rngD 0 xs.length) [some (.sh (.tup (xs.map D.int))),some (.sh (.tup (xs.map D.int))),none]=some (.nx,[some (.sh (.tup (xs.map D.int))),some (.sh (.tup (xs.map D.int))),v2]):=h1
 simp[zav,iT,hi,h1']
 rfl
theorem zex(f:α->List Int)(xs:List α)(hl:xs.length<=1000)(hr:∀x∈xs,(f x).length<=1000):zaz [.lst (xs.map fun x=>iT (f x)),.lst (xs.map fun x=>iT (f x))]=some (.bl true):=by
 obtain⟨e',h1,v2,rfl⟩:=zbw (i:=2) (g:=za5) (fun k e=>∃v2,e=[some (.sh (.lst (xs.map fun x=>iT (f x)))),some (.sh (.lst (xs.map fun x=>iT (f x)))),v2]) (rngD 0 xs.length) [some (.sh (.lst (xs.map fun x=>iT (f x)))),some (.sh (.lst (xs.map fun x=>iT (f x)))),none] ⟨none,rfl⟩ (by
  rintro k d e hd ⟨v2,rfl⟩
  obtain⟨rfl,hk⟩:=zcd hd
  have ha:atI (xs.map fun x=>iT (f x)) (k:Int)=some (iT (f xs[k])):=zcm _ (by simp[hk])
  have hs:=zff (f xs[k]) (hr _ (List.getElem_mem hk))
  exact⟨[some (.sh (.lst (xs.map fun x=>iT (f x)))),some (.sh (.lst (xs.map fun x=>iT (f x)))),some (.sh (.int (0+k)))],by simp[za5,ha,hs],_,rfl⟩)
 have hi:=zdd xs.length (by omega)
 refine zbt (e':=?w) rfl ?h
 rotate_left
 show zbj [some (.sh (.lst (xs.map fun x=>iT (f x)))),some (.sh (.lst (xs.map fun x=>iT (f x)))),none]=_
 simp[zbj,hi,h1]
 rfl
abbrev Bk:=Int×Int×Int
def hrs(r:List Sk):Int:=(r.map (·.2.1)).sum
def lss(r:List Sk):Int:=(r.map (·.2.2)).sum
def blk(r:List Sk):Bk:=(r.length,hrs r,lss r)
def gt(u b:Bk):Prop:=b.2.2*u.2.1<u.2.2*b.2.1
instance (u b:Bk):Decidable (gt u b):=inferInstanceAs (Decidable (_<_))
theorem znn(r:List Sk)(h:∀x∈r,zd6 x):(r.length:Int)<=hrs r/\hrs r<=60*r.length/\0<=lss r/\lss r<=100*r.length:=by
 induction r with
 | nil=>simp[hrs,lss]
 | cons x r ih =>
   obtain⟨h1,h2,h3,h4⟩:=ih fun y hy=>h y (List.mem_cons_of_mem _ hy)
   obtain⟨_,_,g1,g2,g3,g4⟩:=h x List.mem_cons_self
   simp only[hrs,lss,List.map_cons,List.sum_cons,List.length_cons] at h1 h2 h3 h4 ⊢
   omega
structure Good (r:List Sk):Prop where
 ne:r≠[]
 beg:∀p,p <+: r->lss p*hrs r<=lss r*hrs p
theorem zhn(r:List Sk)(h:∀x∈r,zd6 x)(ne:r≠[]):0<hrs r:=by
 have h1:=znn r h
 have:0<r.length:=List.length_pos_iff.mpr ne
 omega
def Desc:List (List Sk)->Prop
 | []=>True
 | [_]=>True
 | b::u::r=>gt (blk u) (blk b)/\Desc (u::r)
structure Runs (rs:List (List Sk)) (s:List Sk):Prop where
 flat:rs.reverse.flatten=s
 good:∀r∈rs,Good r
 desc:Desc rs
theorem zno(f:α->Int)(r:List α):bSum [.lst (r.map fun x=>.int (f x))]=some (.int (r.map f).sum):=by
 have:(r.map fun x=>D.int (f x))=(r.map f).map D.int:=by rw[List.map_map];rfl
 rw[this]
 show(ints? ((r.map f).map D.int)).map _=_
 rw[zkg]
 rfl
theorem zey{α:Type}{ix:List Nat}{g:FS}(vals:α->List D)(P:List α->DE0->Prop)(all:List α)(hl:∀x∈all,(vals x).length=ix.length)(hs:∀(p:List α) (x:α) (q:List α) (e:DE0),all=p++x::q->P p e->∃e',g (zcu ix (vals x) e)=some (.nx,e')/\P (p++[x]) e') :
  ∀(xs pre:List α) (e:DE0),all=pre++xs->P pre e->∃e',forU ix g (xs.map fun x=>D.tup (vals x)) e=some (.nx,e')/\P all e'
 | [],pre,e,h,hp=>⟨e,rfl,by rw[h,List.append_nil];exact hp⟩
 | x::xs,pre,e,h,hp=>by
   obtain⟨e1,h1,p1⟩:=hs pre x xs e h hp
   obtain⟨e2,h2,p2⟩:=zey vals P all hl hs xs (pre++[x]) e1 (by rw[h];simp) p1
   have hx:=hl x (by rw[h];simp)
   exact⟨e2,by simp only[List.map_cons,forU,unp,hx,if_true,Option.bind_some,h1,h2],p2⟩
theorem ziw{ix:List Nat}{g:FS}(vals:α->List D)(P:List α->DE0->Prop)(all:List α)(e:DE0)(h0:P [] e)(hl:∀x∈all,(vals x).length=ix.length)(hs:∀(p:List α) (x:α) (q:List α) (e:DE0),all=p++x::q->P p e->∃e',g (zcu ix (vals x) e)=some (.nx,e')/\P (p++[x]) e') :
  ∃e',forU ix g (all.map fun x=>D.tup (vals x)) e=some (.nx,e')/\P all e':=zey vals P all hl hs all [] e rfl h0
variable{b:Bk}
theorem zho{u:Bk}(h:gt u b):¬gt b u:=fun z=>by
 unfold gt at h z
 omega
theorem zoz{n c:Bk}(hn:0<n.2.1)(hc:0<c.2.1)(hb:0<b.2.1)(h1:gt n c)(h2:¬gt b c):gt n b:=by
 unfold gt at h1 h2 ⊢
 have h2:b.2.2*c.2.1<=c.2.2*b.2.1:=Int.not_lt.mp h2
 have a1:b.2.2*c.2.1*n.2.1<=c.2.2*b.2.1*n.2.1:=Int.mul_le_mul_of_nonneg_right h2 (by omega)
 have a2:c.2.2*n.2.1*b.2.1<n.2.2*c.2.1*b.2.1:=Int.mul_lt_mul_of_pos_right h1 hb
 have a3:b.2.2*n.2.1*c.2.1<n.2.2*b.2.1*c.2.1:=by
  have e1:b.2.2*n.2.1*c.2.1=b.2.2*c.2.1*n.2.1:=Int.mul_right_comm ..
  have e2:n.2.2*b.2.1*c.2.1=n.2.2*c.2.1*b.2.1:=Int.mul_right_comm ..
  have e3:c.2.2*b.2.1*n.2.1=c.2.2*n.2.1*b.2.1:=Int.mul_right_comm ..
  omega
 exact Int.lt_of_mul_lt_mul_right a3 (by omega)
abbrev Tn:=Nat×List Sk
def geT(a b:Tn):Bool:=!decide (gt (blk b.2) (blk a.2))
theorem zk5{a b:Tn}:geT a b=true↔¬gt (blk b.2) (blk a.2):=by simp[geT]
def ins(ts:List Tn)(n:Tn):List Tn:=(ts.takeWhile fun t=>geT t n)++n::ts.dropWhile fun t=>geT t n
def bef(a b:Tn):Prop:=gt (blk a.2) (blk b.2)\/(¬gt (blk b.2) (blk a.2)/\a.1<b.1)
def ofS(ts:List Tn)(j:Nat):List (List Sk):=(ts.filter fun t=>t.1==j+1).map (·.2)
structure TurnsOk (ss:List (List Sk)) (ts:List Tn):Prop where
 lo:∀t∈ts,1<=t.1/\t.1<=ss.length
 good:∀t∈ts,Good t.2
 part:∀(j:Nat) (s:List Sk),ss[j]?=some s->(ofS ts j).flatten=s
 srt:ts.Pairwise bef
 perm:(ts.map (·.2)).flatten.Perm ss.flatten
variable{ss:List (List Sk)}{ts:List Tn}
theorem TurnsOk.sk(h:TurnsOk ss ts)(hg:∀x∈ss.flatten,zd6 x):∀t∈ts,∀x∈t.2,zd6 x:=fun t ht x hx =>
 hg x (h.perm.mem_iff.mp (List.mem_flatten.mpr ⟨t.2,List.mem_map.mpr ⟨t,ht,rfl⟩,hx⟩))
theorem zhp{α:Type}:∀(l:List (List α)),(∀r∈l,r≠[])->l.length<=l.flatten.length
 | [],_=>by simp
 | a::l,h=>by
   have:=zhp l fun r hr=>h r (List.mem_cons_of_mem _ hr)
   have ha:0<a.length:=List.length_pos_iff.mpr (h a List.mem_cons_self)
   rw[List.length_cons,List.flatten_cons,List.length_append]
   omega
theorem TurnsOk.len(h:TurnsOk ss ts):ts.length<=ss.flatten.length:=by
 have:=zhp (ts.map (·.2)) fun r hr=>by
  obtain⟨t,ht,rfl⟩:=List.mem_map.mp hr
  exact(h.good t ht).ne
 rw[List.length_map,h.perm.length_eq] at this
 exact this
protected theorem TurnsOk.pos(h:TurnsOk ss ts)(hg:∀x∈ss.flatten,zd6 x):∀t∈ts,0<hrs t.2:=fun t ht=>zhn t.2 (h.sk hg t ht) (h.good t ht).ne
theorem zk6{ts:List Tn}{n t:Tn}:t∈ins ts n↔t∈ts\/t=n:=by
 unfold ins
 have e:=List.takeWhile_append_dropWhile (p:=fun t=>geT t n) (l:=ts)
 have hm:t∈ts↔t∈(ts.takeWhile fun t=>geT t n)\/t∈ts.dropWhile fun t=>geT t n:=by
  conv=>lhs;rw[← e]
  exact List.mem_append
 rw[hm]
 simp only[List.mem_append,List.mem_cons]
 constructor
 ·rintro(h | h | h)
  ·exact .inl (.inl h)
  ·exact .inr h
  ·exact .inl (.inr h)
 ·rintro((h | h) | h)
  ·exact .inl h
  ·exact .inr (.inr h)
  ·exact .inr (.inl h)
theorem TurnsOk.ins{ss:List (List Sk)}{ts:List Tn}{pre r:List Sk}{p:List (List Sk)}(h:TurnsOk (ss++[pre]) ts)(hp:ofS ts ss.length=p)(hr:Good r)(hgr:∀x∈r,zd6 x)(hg:∀x∈(ss++[pre]).flatten,zd6 x)(hd:∀u∈p,gt (blk u) (blk r)):TurnsOk (ss++[pre++r]) (LB.ins ts (ss.length+1,r))/\ofS (LB.ins ts (ss.length+1,r)) ss.length=p++[r]:=by
 have e:=List.takeWhile_append_dropWhile (p:=fun t=>geT t (ss.length+1,r)) (l:=ts)
 have hA:∀t∈(ts.takeWhile fun t=>geT t (ss.length+1,r)),geT t (ss.length+1,r)=true:=fun t ht=>by
  have:=List.all_takeWhile (p:=fun t=>geT t (ss.length+1,r)) (l:=ts)
  exact List.all_eq_true.mp this t ht
 have pr:0<hrs r:=zhn r hgr hr.ne
 have hmem:=@zk6 ts (ss.length+1,r)
 have hB0:∀b0 B',ts.dropWhile (fun t=>geT t (ss.length+1,r))=b0::B'->gt (blk r) (blk b0.2):=fun b0 B' hb=>by
  have:geT b0 (ss.length+1,r)=false:=by
   have:=List.head?_dropWhile_not (p:=fun t=>geT t (ss.length+1,r)) ts
   rw[hb] at this
   simpa using this
  unfold geT at this
  simpa using this
 unfold LB.ins at hmem ⊢
 have srt:=h.srt
 have pos:=h.pos hg
 have ofp:∀t∈ts,t.1=ss.length+1->gt (blk t.2) (blk r):=fun t ht e1=>hd t.2 (by
  rw[← hp]
  exact List.mem_map.mpr ⟨t,List.mem_filter.mpr ⟨ht,by simp[e1]⟩,rfl⟩)
 have lo:=h.lo
 have part:=h.part
 have perm:=h.perm
 rw[← e] at srt pos ofp lo part perm hp
 generalize (ts.takeWhile fun t=>geT t (ss.length+1,r))=A at *
 generalize (ts.dropWhile fun t=>geT t (ss.length+1,r))=B at *
 have hB:∀b∈B,gt (blk r) (blk b.2):=fun b hb=>by
  cases B with
  | nil=>simp at hb
  | cons b0 B' =>
    have g0:=hB0 b0 B' rfl
    rcases List.mem_cons.mp hb with rfl | hb'
    ·exact g0
    ·have sb:=(List.pairwise_append.mp srt).2.1
     have:=(List.pairwise_cons.mp sb).1 b hb'
     have nb:¬gt (blk b.2) (blk b0.2):=by
      rcases this with z | z
      ·exact zho z
      ·exact z.1
     exact zoz pr (pos b0 (by simp)) (pos b (by simp[hb'])) g0 nb
 have fB:(B.filter fun t=>t.1==ss.length+1)=[]:=List.filter_eq_nil_iff.mpr fun t ht=>by
  intro z
  exact zho (hB t ht) (ofp t (by simp[ht]) (by simpa using z))
 have of:ofS (A++(ss.length+1,r)::B) ss.length=p++[r]:=by
  unfold ofS at hp ⊢
  rw[List.filter_append,fB,List.append_nil] at hp
  rw[List.filter_append,List.filter_cons_of_pos (by simp),fB,List.map_append,hp]
  rfl
 have hlen:(ss++[pre]).length=ss.length+1:=by simp
 refine⟨⟨fun t ht=>?_,fun t ht=>?_,fun j s hj=>?_,?_,?_⟩,of⟩
 ·rcases(hmem.mp ht) with z | z
  ·have:=h.lo t z;simp at this ⊢;omega
  ·subst z;simp
 ·rcases(hmem.mp ht) with z | z
  ·exact h.good t z
  ·subst z;exact hr
 ·by_cases hlt:j<ss.length
  ·rw[List.getElem?_append_left hlt] at hj
   have:=part j s (by rw[List.getElem?_append_left hlt];exact hj)
   rw[← this]
   unfold ofS
   rw[List.filter_append,List.filter_append,List.filter_cons_of_neg (by simp;omega)]
  ·have:j=ss.length:=by
    have:=(List.getElem?_eq_some_iff.mp hj).1
    simp at this
    omega
   subst this
   have hs:pre++r=s:=by simpa using hj
   rw[of,← hs]
   have:=part ss.length pre (by simp)
   rw[show ofS (A++B) ss.length=p from hp] at this
   simp[this]
 ·have sa:=List.pairwise_append.mp srt
  refine List.pairwise_append.mpr ⟨sa.1,List.pairwise_cons.mpr ⟨fun b hb=>.inl (hB b hb),sa.2.1⟩,fun a ha b hb=>?_⟩
  rcases List.mem_cons.mp hb with rfl | hb
  ·have g1:=hA a ha
   by_cases e1:a.1=ss.length+1
   ·exact .inl (ofp a (by simp[ha]) e1)
   ·have:=(lo a (by simp[ha])).2
    exact .inr ⟨zk5.mp g1,by simp at this ⊢;omega⟩
  ·exact sa.2.2 a ha b hb
 ·have e1:((A++(ss.length+1,r)::B).map (·.2)).flatten=(A.map (·.2)).flatten++(r++(B.map (·.2)).flatten):=by simp
  have e2:(ss++[pre++r]).flatten=(ss++[pre]).flatten++r:=by simp
  rw[e1,e2]
  have e3:((A++B).map (·.2)).flatten=(A.map (·.2)).flatten++(B.map (·.2)).flatten:=by simp
  rw[e3] at perm
  refine List.Perm.trans ?_ (perm.append_right r)
  rw[List.append_assoc]
  exact List.Perm.append_left _ List.perm_append_comm
def ssL(ss:List (List Sk)):D:=.lst (ss.map fun s=>D.lst (s.map sD))
def zby(n:Nat)(ts:List Tn):List (List Sk):=(List.range n).map fun j=>(ofS ts j).flatten
theorem zbo(n:Nat)(ts:List Tn):(zby n ts).length=n:=by simp[zby]
theorem zce{j:Nat}(h:j<n):(zby n ts)[j]?=some ((ofS ts j).flatten):=by simp[zby,h]
theorem zfg(t:Tn)(ts:List Tn)(j:Nat)(h:t.1=j+1):ofS (t::ts) j=t.2::ofS ts j:=by
 unfold ofS
 rw[List.filter_cons_of_pos (by simp[h])]
 rfl
theorem zfh(t:Tn)(ts:List Tn)(j:Nat)(h:t.1≠j+1):ofS (t::ts) j=ofS ts j:=by
 unfold ofS
 rw[List.filter_cons_of_neg (by simp[h])]
variable{t:Tn}
theorem zhq(h1:1<=t.1)(h2:t.1<=n):zby n (t::ts)=(zby n ts).set (t.1-1) (t.2++(ofS ts (t.1-1)).flatten):=by
 apply List.ext_getElem?
 intro j
 by_cases hj:j<n
 ·rw[List.getElem?_set,zce hj,zce hj,zbo]
  by_cases e:t.1-1=j
  ·subst e
   rw[zfg t ts (t.1-1) (by omega)]
   simp[hj]
  ·rw[if_neg e,zfh t ts j (by omega)]
 ·rw[List.getElem?_eq_none (by rw[zbo];omega),List.getElem?_eq_none (by rw[List.length_set,zbo];omega)]
theorem zez{α:Type}:∀ {l:List (List α)} {j:Nat} {s x:List α},l[j]?=some s->(l.set j (x++s)).flatten.Perm (x++l.flatten)
 | [],_,_,_,h=>by simp at h
 | a::l,0,s,x,h=>by
   simp at h;subst h
   simp
 | a::l,j+1,s,x,h=>by
   have ih:=zez (l:=l) (j:=j) (s:=s) (x:=x) (by simpa using h)
   simp only[List.set_cons_succ,List.flatten_cons]
   refine(ih.append_left a).trans ?_
   rw[← List.append_assoc,← List.append_assoc]
   exact List.perm_append_comm.append_right _
theorem zdf{n:Nat}:∀ {ts:List Tn},(∀t∈ts,1<=t.1/\t.1<=n)->(ts.map (·.2)).flatten.Perm (zby n ts).flatten
 | [],_=>by
   have:(zby n []).flatten=[]:=by simp[zby,ofS]
   rw[this];exact .nil
 | t::ts,h=>by
   have ih:=zdf (n:=n) (ts:=ts) fun t' ht=>h t' (List.mem_cons_of_mem _ ht)
   obtain⟨h1,h2⟩:=h t List.mem_cons_self
   rw[zhq h1 h2,List.map_cons,List.flatten_cons]
   exact(ih.append_left t.2).trans (zez (zce (by omega))).symm
theorem TurnsOk.tail(h:TurnsOk (zby n (t::ts)) (t::ts)):TurnsOk (zby n ts) ts:=by
 have lo:∀t'∈ts,1<=t'.1/\t'.1<=n:=fun t' ht=>by
  have:=h.lo t' (List.mem_cons_of_mem _ ht)
  rw[zbo] at this
  exact this
 refine⟨fun t' ht=>by rw[zbo];exact lo t' ht,fun t' ht=>h.good t' (List.mem_cons_of_mem _ ht),fun j s hj=>?_,(List.pairwise_cons.mp h.srt).2,zdf lo⟩
 have hl:=(List.getElem?_eq_some_iff.mp hj).1
 rw[zbo] at hl
 rw[zce hl] at hj
 exact Option.some.inj hj
theorem TurnsOk.drop{n:Nat}{ts:List Tn}(h:TurnsOk (zby n ts) ts):∀k,TurnsOk (zby n (ts.drop k)) (ts.drop k)
 | 0=>h
 | k+1=>by
   have ih:=h.drop k
   by_cases hk:k<ts.length
   ·rw[List.drop_eq_getElem_cons hk] at ih
    exact ih.tail
   ·rw[List.drop_eq_nil_of_le (by omega)] at ih ⊢
    exact ih
theorem zk7(a b:List D):cutD (a++b) none (some (a.length:Int))=a:=by
 unfold cutD
 rw[HT.sIx_none,HT.sIx_nat]
 simp
def hT:List (List Sk)->Bk
 | []=>(0,1,-1)
 | r::_=>blk r
theorem zk8(d:D)(k:Nat):(List.replicate k [d]).flatten=List.replicate k d:=List.flatten_replicate_singleton
structure Whole (ss:List (List Sk)) (os:List Nat):Prop where
 lo:∀a∈os,1<=a/\a<=ss.length
 cnt:∀(j:Nat) (s:List Sk),ss[j]?=some s->os.count (j+1)=s.length
variable{os:List Nat}
theorem Whole.perm{os':List Nat}(h:Whole ss os)(p:os.Perm os'):Whole ss os' :=
 ⟨fun a ha=>h.lo a (p.mem_iff.mpr ha),fun j s hj=>by rw[← p.count_eq];exact h.cnt j s hj⟩
theorem zhr(m:Nat):∀n:Nat,((List.range n).map fun j=>if j=m then 1 else 0).sum=if m<n then 1 else 0
 | 0=>by simp
 | n+1=>by
   rw[List.range_succ,List.map_append,List.sum_append,zhr m n]
   simp only[List.map_cons,List.map_nil,List.sum_cons,List.sum_nil]
   by_cases h1:m<n
   ·rw[if_pos h1,if_neg (by omega),if_pos (by omega)];rfl
   ·rw[if_neg h1]
    by_cases h2:n=m
    ·rw[if_pos h2,if_pos (by omega)];rfl
    ·rw[if_neg h2,if_neg (by omega)];rfl
theorem zhs{α:Type}(f g:α->Nat):∀l:List α,(l.map fun x=>f x+g x).sum=(l.map f).sum+(l.map g).sum
 | []=>rfl
 | x::l=>by
   simp only[List.map_cons,List.sum_cons,zhs f g l]
   omega
theorem zht(n:Nat):∀(p:List Nat),(∀a∈p,1<=a/\a<=n)->((List.range n).map fun j=>p.count (j+1)).sum=p.length
 | [],_=>by
   have:∀l:List Nat,(l.map fun j=>([]:List Nat).count (j+1)).sum=0:=fun l=>by
    induction l with
    | nil=>rfl
    | cons a l ih=>rw[List.map_cons,List.sum_cons,ih];rfl
   rw[this];rfl
 | a::p,h=>by
   have ih:=zht n p fun b hb=>h b (List.mem_cons_of_mem _ hb)
   have ha:=h a List.mem_cons_self
   have e:(fun j=>(a::p).count (j+1))=fun j=>p.count (j+1)+if j=a-1 then 1 else 0:=by
    funext j
    rw[List.count_cons]
    congr 1
    by_cases hj:j=a-1
    ·rw[if_pos hj,if_pos (by simp;omega)]
    ·rw[if_neg hj,if_neg (by simp;omega)]
   rw[e,zhs,ih,zhr,if_pos (by omega),List.length_cons]
theorem zix(ss:List (List Sk)):((List.range ss.length).map fun j=>(ss.getD j []).length).sum=ss.flatten.length:=by
 have:(List.range ss.length).map (fun j=>(ss.getD j []).length)=ss.map List.length:=by
  apply List.ext_getElem?
  intro i
  by_cases h:i<ss.length
  ·simp[h]
  ·simp[h]
 rw[this,List.length_flatten]
theorem Whole.len(h:Whole ss os):os.length=ss.flatten.length:=by
 rw[← zht ss.length os h.lo,← zix]
 congr 1
 apply List.map_congr_left
 intro j hj
 have hj:j<ss.length:=List.mem_range.mp hj
 rw[h.cnt j ss[j] (by simp[hj])]
 simp[hj]
theorem zk9{P:List α->Prop}(h0:P [])(hs:∀p a,P p->P (p++[a]))(p:List α):P p:=by
 have:∀l:List α,P l.reverse:=fun l=>by
  induction l with
  | nil=>exact h0
  | cons a l ih=>rw[List.reverse_cons];exact hs _ _ ih
 rw[← List.reverse_reverse p]
 exact this _
def ze0(ss:List (List Sk))(a c:Nat):Sk:=(ss.getD (a-1) []).getD c (0,0,0)
def tk(ss:List (List Sk))(os:List Nat):List Sk:=(List.range os.length).map fun i=>ze0 ss (os.getD i 0) ((os.take i).count (os.getD i 0))
theorem zla(ss:List (List Sk))(p:List Nat)(a:Nat):tk ss (p++[a])=tk ss p++[ze0 ss a (p.count a)]:=by
 unfold tk
 rw[List.length_append,List.length_singleton,List.range_succ,List.map_append]
 congr 1
 ·apply List.map_congr_left
  intro i hi
  have hi:i<p.length:=List.mem_range.mp hi
  have e1:(p++[a]).getD i 0=p.getD i 0:=by
   rw[List.getD_eq_getElem?_getD,List.getD_eq_getElem?_getD,List.getElem?_append_left hi]
  rw[e1,List.take_append_of_le_length (by omega)]
 ·have e1:(p++[a]).getD p.length 0=a:=by simp
  simp only[List.map_cons,List.map_nil]
  rw[e1,List.take_left]
theorem Whole.at{ss:List (List Sk)}{p q:List Nat}{a:Nat}(h:Whole ss (p++a::q)):∃s,ss[a-1]?=some s/\p.count a<s.length/\s[p.count a]?=some (ze0 ss a (p.count a))/\1<=a/\a<=ss.length:=by
 obtain⟨h1,h2⟩:=h.lo a (by simp)
 have hlt:a-1<ss.length:=by omega
 have hc:=h.cnt (a-1) ss[a-1] (by simp[hlt])
 rw[show a-1+1=a by omega,List.count_append,List.count_cons_self] at hc
 have hcl:p.count a<ss[a-1].length:=by omega
 refine⟨ss[a-1],by simp[hlt],hcl,?_,h1,h2⟩
 unfold ze0
 simp[hlt,hcl]
theorem Whole.mem(h:Whole ss os):∀(p:List Nat),∀(q:List Nat),os=p++q->∀x∈tk ss p,x∈ss.flatten:=by
 apply zk9
 ·intro q _ x hx
  simp[tk] at hx
 ·intro p a ih q hq x hx
  rw[zla] at hx
  rcases List.mem_append.mp hx with hx | hx
  ·exact ih (a::q) (by rw[hq];simp) x hx
  ·rw[hq,List.append_assoc,List.singleton_append] at h
   obtain⟨s,hs,hc,hx',_⟩:=h.at
   have e:x=ze0 ss a (p.count a):=by simpa using hx
   subst e
   exact List.mem_flatten.mpr ⟨s,List.mem_of_getElem? hs,List.mem_of_getElem? hx'⟩
theorem Whole.sk(h:Whole ss os):∀x∈tk ss os,x∈ss.flatten:=h.mem os [] (by simp)
def r3(r:List Int):Int:=r.getD 2 0
def srt(r:List Int):List Int:=[if r.getD 0 0<=r.getD 1 0 then r.getD 0 0 else r.getD 1 0,if r.getD 0 0<=r.getD 1 0 then r.getD 1 0 else r.getD 0 0]
def cmp(h:Int):List Sk->Int->Int
 | [],_=>0
 | x::r,k=>if x.1=k then h+x.2.1 else cmp (h+x.2.1) r k
def PS(w C:Sk->Int)(P:Int):List Sk->Int
 | x::y::r=>-(P+w x)*(C y-C x-y.2.1)+PS w C (P+w x) (y::r)
 | _=>0
theorem ziy(l:List D)(k:Nat)(h:k<=l.length):cutD l none (some (k:Int))=l.take k:=by
 have:=zk7 (l.take k) (l.drop k)
 rwa [List.take_append_drop,List.length_take,Nat.min_eq_left h] at this
def zca:FS:=sSeq (sIf (fTst (fBin dEq (za8 0) (fC (.int 0)))) (sRet (fC (.int 0))) (sNil)) (sRet (fBin dIx (fIxV 0 (fUn dNeg (fC (.int 1)))) (fC (.int 1))))
def zbs:List D->Option D:=runD 1 1 zca
def zbh:FS:=sIf (fTst (fBin dLt (fVar 3) (fVar 1))) (sSet 2 (fBin za1 (fVar 2) (fBin dMul (fVar 5) (fBin dSub (zar bMin (zad (fVar 1) (zad (fVar 4) (fNil)))) (fVar 3))))) (sNil)
def zbp:FS:=sSeq (sIf (fOr (fTst (fBin dLt (fVar 1) (fC (.int 0)))) (fTst (fBin dGt (fVar 1) (zar zbs (zad (fVar 0) (fNil)))))) (zew "NotGone" (some)) (sNil)) (sSeq (sSet 2 (fC (.int 0))) (sSeq (zhf [3,4,5] (fiS (fVar 0)) (zbh)) (sRet (fVar 2))))
def zcf:List Ag->List D->Option D:=runQ 6 0 2 zbp
def zbq:List Ag->List D->Option Str:=xQ 6 0 2 zbp
def zan:FS:=sSeq (sIf (fTst (fIsi "tuple" (fVar 1))) (sRet (zar zaw (zad (fVar 0) (zad (fVar 1) (fNil))))) (sNil)) (sRet (zeo (zar zbf (zad (fVar 0) (fNil))) (fBin dEq (fVar 0) (fVar 1))))
def zas:List D->Option D:=runD 2 2 zan
inductive Deed where
 | put (a h l:Int) | tell (a p l:Int) | go (a:Int) | dry
def dD:Deed->D
 | .put a h l=>.tup [.str "put",.int a,.int h,.int l]
 | .tell a p l=>.tup [.str "tell",.int a,.int p,.int l]
 | .go a=>.tup [.str "go",.int a]
 | .dry=>.tup [.str "dry"]
abbrev Spn:=Int×Int×Int
abbrev Hs:=List (List Sk)×List Spn
def spL(sp:List Spn):D:=.lst (sp.map sD)
def stD(s:Hs):D:=.tup [ssL s.1,spL s.2]
abbrev kH:AK:=.ins false "House" ziq
def hP(k:List Deed)(s:List Hs):List Pt:=[.o (k.map dD),.o (s.map stD)]
abbrev hA(k:List Deed)(s:List Hs):Ag:=(kH,hP k s)
variable{F:FA}{e:DE0}
theorem ze1{m:List Ag->List D->Option D}:zdp m [] F e=(F e).bind fun r=>(m [] r.1).map fun d=>(d,r.2):=by
 unfold zdp
 rw[if_pos (show aggs e [] from fun k hk=>nomatch hk)]
 rfl
theorem zds{x:List Ag->List D->Option Str}:zdq x [] F e=(F e).bind fun r=>(x [] r.1).map fun d=>(d,r.2):=by
 unfold zdq
 rw[if_pos (show aggs e [] from fun k hk=>nomatch hk)]
 rfl
theorem zlb(xs:List D)(x:D):atI (xs++[x]) (-1)=some x:=by
 unfold atI ixN
 rw[if_neg (by decide),if_pos (by simp;omega),show(-1+((xs++[x]).length:Int)).toNat=xs.length by simp;omega]
 simp
def hrOf(sp:List Spn):Int:=match sp.getLast? with | none=>0 | some x=>x.2.1
theorem zcn(sp:List Spn):zbs [spL sp]=some (.int (hrOf sp)):=by
 unfold zbs runD spL hrOf
 rw[if_pos (show[D.lst (sp.map sD)].length=1 from rfl)]
 cases h:sp.getLast? with
 | none =>
   rw[List.getLast?_eq_none_iff.mp h]
   simp[zca,zbk]
 | some x =>
   obtain⟨q,rfl⟩:=List.getLast?_eq_some_iff.mp h
   have h0:zbk 1 [D.lst ((q++[x]).map sD)]=[some (.sh (.lst (q.map sD++[sD x])))]:=by simp[zbk]
   have h1:atI (q.map sD++[sD x]) (-1)=some (sD x):=zlb _ _
   have h2:((q.map sD++[sD x]).length:Int)≠0:=by simp;omega
   rw[h0]
   generalize q.map sD++[sD x]=L at *
   have h3:decide ((L.length:Int)=0)=false:=decide_eq_false h2
   simp only[zca,sSeq,sIf,fTst,fBin,za8,List.getElem?_cons_zero,Option.bind_some,fC,dEq,Option.map_some,h3,Bool.false_eq_true,if_false,sNil,sRet,fIxV,fUn,dNeg,ixSl,h1,sD,dIx]
   rfl
def plD:D->Prop | .int _=>True | .str _=>True | _=>False
theorem zfi(xs:List D)(hp:∀x∈xs,plD x)(hl:xs.length<=1000):zaw [.tup xs,.tup xs]=some (.bl true):=by
 obtain⟨e',h1,v2,rfl⟩:=zbw (i:=2) (g:=zaj) (fun k e=>∃v2,e=[some (.sh (.tup xs)),some (.sh (.tup xs)),v2]) (rngD 0 xs.length) [some (.sh (.tup xs)),some (.sh (.tup xs)),none] ⟨none,rfl⟩ (by
  rintro k d e hd ⟨v2,rfl⟩
  obtain⟨rfl,hk⟩:=zcd hd
  have ha:atI xs (k:Int)=some xs[k]:=by
   unfold atI;rw[zhm (by omega) (by omega)];simp[hk]
  have hx:=hp _ (List.getElem_mem hk)
  refine⟨[some (.sh (.tup xs)),some (.sh (.tup xs)),some (.sh (.int (0+k)))],?_,_,rfl⟩
  generalize xs[k]=x at *
  cases x with
  | int i=>simp[zaj,ha,zd5]
  | str i=>simp[zaj,ha]
  | _=>exact hx.elim)
 have hi:=zdd xs.length (by omega)
 refine zbt (e':=?w) rfl ?h
 rotate_left
 show zav [some (.sh (.tup xs)),some (.sh (.tup xs)),none]=_
 simp[zav,hi,h1]
 rfl
def zdg:Int->List Spn->Prop
 | _,[]=>True
 | b,x::r=>x.1=b/\x.1<=x.2.1/\zdg x.2.1 r
def zbl:Int->List Spn->Int
 | b,[]=>b
 | _,x::r=>zbl x.2.1 r
theorem zco:∀(sp:List Spn) (b:Int) (x:Spn),zbl b (sp++[x])=x.2.1
 | [],_,_=>rfl
 | y::r,_,x=>zco r y.2.1 x
theorem znp(sp:List Spn):hrOf sp=zbl 0 sp:=by
 unfold hrOf
 cases h:sp.getLast? with
 | none=>rw[List.getLast?_eq_none_iff.mp h];rfl
 | some x=>obtain⟨q,rfl⟩:=List.getLast?_eq_some_iff.mp h;rw[zco]
theorem ze2:∀(sp:List Spn) (b:Int) (x:Spn),zdg b sp->x.1=zbl b sp->x.1<=x.2.1->zdg b (sp++[x])
 | [],_,_,_,h,h2=>⟨h,h2,trivial⟩
 | y::r,_,x,hc,h,h2=>⟨hc.1,hc.2.1,ze2 r _ x hc.2.2 h h2⟩
theorem zd7:∀(sp:List Spn) (b:Int),zdg b sp->b<=zbl b sp
 | [],b,_=>Int.le_refl b
 | y::r,b,hc=>by have:=zd7 r _ hc.2.2;have:=hc.1;have:=hc.2.1;show b<=zbl y.2.1 r;omega
def rts(sp:List Spn):List Int:=(sp.map fun x=>List.replicate (x.2.1-x.1).toNat x.2.2).flatten
def zb3(h:Int)(sp:List Spn):Int:=(sp.map fun x=>if x.1<h then x.2.2*((if x.2.1<h then x.2.1 else h)-x.1) else 0).sum
theorem zhu:∀(sp:List Spn) (b:Int),zdg b sp->((rts sp).length:Int)=zbl b sp-b
 | [],b,_=>by show(0:Int)=b-b;omega
 | x::r,b,hc=>by
   have ih:=zhu r _ hc.2.2
   have e:rts (x::r)=List.replicate (x.2.1-x.1).toNat x.2.2++rts r:=rfl
   rw[e,List.length_append,List.length_replicate]
   have:=hc.1
   have:=hc.2.1
   show _=zbl x.2.1 r-b
   omega
theorem ze3:∀(sp:List Spn) (b h:Int),zdg b sp->h<=b->zb3 h sp=0
 | [],_,_,_,_=>rfl
 | x::r,b,h,hc,hb=>by
   have:=hc.1
   have:=hc.2.1
   have ih:=ze3 r x.2.1 h hc.2.2 (by omega)
   unfold zb3 at ih ⊢
   rw[List.map_cons,List.sum_cons,ih,if_neg (by omega)]
   rfl
theorem zlc(n:Nat)(c:Int):(List.replicate n c).sum=c*n:=by
 induction n with
 | zero=>simp
 | succ n ih=>rw[List.replicate_succ,List.sum_cons,ih,Int.natCast_add,Int.mul_add];omega
theorem zf4:∀(sp:List Spn) (b h:Int),zdg b sp->b<=h->zb3 h sp=((rts sp).take (h-b).toNat).sum
 | [],b,h,_,_=>by simp[zb3,rts]
 | x::r,b,h,hc,hb=>by
   have h1:=hc.1
   have h2:=hc.2.1
   have e:rts (x::r)=List.replicate (x.2.1-x.1).toNat x.2.2++rts r:=rfl
   have el:zb3 h (x::r)=(if x.1<h then x.2.2*((if x.2.1<h then x.2.1 else h)-x.1) else 0)+zb3 h r:=rfl
   rw[e,el,List.take_append,List.sum_append,List.take_replicate,List.length_replicate,zlc]
   by_cases c:x.2.1<h
   ·rw[zf4 r x.2.1 h hc.2.2 (by omega),if_pos (by omega),if_pos c,show(h-b).toNat-(x.2.1-x.1).toNat=(h-x.2.1).toNat by omega,show min (h-b).toNat (x.2.1-x.1).toNat=(x.2.1-x.1).toNat by omega,show(((x.2.1-x.1).toNat:Nat):Int)=x.2.1-x.1 by omega]
   ·rw[ze3 r x.2.1 h hc.2.2 (by omega),show(h-b).toNat-(x.2.1-x.1).toNat=0 by omega,show min (h-b).toNat (x.2.1-x.1).toNat=(h-b).toNat by omega]
    by_cases c2:x.1<h
    ·rw[if_pos c2,if_neg c,show(((h-b).toNat:Nat):Int)=h-x.1 by omega];simp
    ·rw[if_neg c2,show(h-b).toNat=0 by omega];simp
theorem zge{sp:List Spn}{h:Int}(h0:0<=h)(h1:h<=hrOf sp)(hb:∀x∈sp,0<=x.2.2/\x.2.2<=100000):zbq [] [spL sp,.int h]=none/\zcf [] [spL sp,.int h]=some (.int (zb3 h sp)):=by
 obtain⟨e',hf,v3,v4,v5,rfl⟩:=ziw (ix:=[3,4,5]) (g:=zbh) (fun x:Spn=>[D.int x.1,.int x.2.1,.int x.2.2]) (fun p e=>∃v3 v4 v5,e=[some (.sh (spL sp)),some (.sh (.int h)),some (.sh (.int (zb3 h p))),v3,v4,v5]) sp
  [some (.sh (spL sp)),some (.sh (.int h)),some (.sh (.int 0)),none,none,none] ⟨none,none,none,rfl⟩ (fun _ _=>rfl) (by
   rintro p x q e hpq ⟨v3,v4,v5,rfl⟩
   have hx:=hb x (by rw[hpq];simp)
   have sm:zdy x.2.2:=⟨by omega,by omega⟩
   have hm:∀z:Int,dMul (.int x.2.2) (.int z)=some (.int (x.2.2*z)):=fun z=>by unfold dMul;exact if_pos (.inl sm)
   have e1:zb3 h (p++[x])=zb3 h p+(if x.1<h then x.2.2*((if x.2.1<h then x.2.1 else h)-x.1) else 0):=by unfold zb3;simp
   refine⟨[some (.sh (spL sp)),some (.sh (.int h)),some (.sh (.int (zb3 h (p++[x])))),some (.sh (.int x.1)),some (.sh (.int x.2.1)),some (.sh (.int x.2.2))],?_,_,_,_,rfl⟩
   rw[e1]
   by_cases c:x.1<h
   ·simp only[zcu,zbh,sIf,fTst,fBin,fVar,dLt,sSet,za1,dSub,zar,zad,fNil,bMin,List.getElem?_cons_zero,List.getElem?_cons_succ,Option.bind_some,Option.map_some,List.set_cons_zero,List.set_cons_succ,c,decide_true,if_true,hm]
   ·simp only[zcu,zbh,sIf,fTst,fBin,fVar,dLt,sSet,sNil,List.getElem?_cons_zero,List.getElem?_cons_succ,Option.bind_some,Option.map_some,List.set_cons_zero,List.set_cons_succ,c,decide_false,if_false,Bool.false_eq_true,Int.add_zero])
 have hf:forU [3,4,5] zbh (sp.map sD) [some (.sh (spL sp)),some (.sh (.int h)),some (.sh (.int 0)),none,none,none]=_:=hf
 have hg:=zcn sp
 have c1:decide (h<0)=false:=decide_eq_false (by omega)
 have c2:decide (hrOf sp<h)=false:=decide_eq_false (by omega)
 have key:zbp (zcv 6 [] [spL sp,.int h])=some (.rt (.int (zb3 h sp)),[some (.sh (spL sp)),some (.sh (.int h)),some (.sh (.int (zb3 h sp))),v3,v4,v5]):=by
  rw[show zcv 6 [] [spL sp,.int h]=[some (.sh (spL sp)),some (.sh (.int h)),none,none,none,none] from rfl]
  unfold spL at *
  generalize sp.map sD=L at *
  simp only[zbp,sSeq,sIf,fOr,fTst,fBin,fVar,fC,dLt,dGt,zar,zad,fNil,hg,List.getElem?_cons_zero,List.getElem?_cons_succ,Option.bind_some,Option.map_some,List.set_cons_zero,List.set_cons_succ,c1,c2,Bool.false_eq_true,if_false,sNil,sSet,zhf,fiS,hf,sRet]
 exact⟨by unfold zbq xQ;rw[if_pos ⟨rfl,rfl⟩,key],by unfold zcf runQ;rw[if_pos ⟨rfl,rfl⟩,key]⟩
theorem zhv(a b:List Spn):rts (a++b)=rts a++rts b:=by simp[rts]
theorem zhw{c w:Str}(h:zjk c=some w):((List.range 13).filter fun k=>c==zbu.getD k "").map (fun k=>D.str (zcz.getD k ""))=[D.str w]:=by
 have hc:c∈zbu:=zdr (by unfold kdT;rw[h];rfl)
 simp only[zbu,List.mem_cons,List.not_mem_nil,or_false] at hc
 rcases hc with rfl | rfl | rfl | rfl | rfl | rfl | rfl | rfl | rfl | rfl | rfl | rfl | rfl <;> cases h <;> rfl
theorem ziz(c:Str)(d:D)(h:kdT c=some d):runK 4 zk4 c d:=by
 unfold kdT at h
 obtain⟨w,hw,rfl⟩:=Option.map_eq_some_iff.mp h
 intro ea
 have hr:iR1 [.int 13]=some (rngD 0 13):=zdd 13 (by decide)
 have fw:∀n,n<=100->Few n=True:=fun n hn=>eq_true (few (by omega))
 have cmp:=zfz (tt:=fAnd (fTst (fIxV 2 (fVar 0))) (fTst (fIsx ea 3 true))) (te:=fIxV 1 (fVar 0)) (base:=[some (.sh (.lst (zcz.map D.str))),some (.sh (.lst (zbu.map fun n=>D.bl (c==n)))),some (.sh (.exc ea))]) (fun j:Nat=>D.int (0+(j:Int))) (fun k=>D.str (zcz.getD k "")) (fun k=>c==zbu.getD k "") (List.range 13) (fun k hk=>by
  have hk:=List.mem_range.mp hk
  have a1:atI (zbu.map fun n=>D.bl (c==n)) (0+(k:Int))=some (.bl (c==zbu.getD k "")):=by
   rw[Int.zero_add,zcm (fun n:Str=>D.bl (c==n)) (List.getElem?_eq_getElem (show k<zbu.length from hk)),List.getD_eq_getElem?_getD,List.getElem?_eq_getElem (show k<zbu.length from hk)];rfl
  have a2:atI (zcz.map D.str) (0+(k:Int))=some (.str (zcz.getD k "")):=by
   rw[Int.zero_add,zcm D.str (List.getElem?_eq_getElem (show k<zcz.length from hk)),List.getD_eq_getElem?_getD,List.getElem?_eq_getElem (show k<zcz.length from hk)];rfl
  generalize (zbu.map fun n=>D.bl (c==n))=KL at *
  generalize zcz.map D.str=WL at *
  refine⟨[some (.sh (.int (0+(k:Int)))),some (.sh (.lst WL)),some (.sh (.lst KL)),some (.sh (.exc ea))],?_,fun _=>⟨_,by simp only[fIxV,fVar,ixSl,List.getElem?_cons_zero,List.getElem?_cons_succ,Option.bind_some,Option.map_some,a2];rfl⟩⟩
  generalize (c==zbu.getD k "")=bb at *
  cases bb <;> simp only[fAnd,fTst,fIxV,fVar,ixSl,fIsx,a1,List.getElem?_cons_zero,List.getElem?_cons_succ,Option.bind_some,Option.map_some,Bool.false_eq_true,if_false,if_true])
 rw[zhw hw] at cmp
 have cmp:zda (fAnd (fTst (fIxV 2 (fVar 0))) (fTst (fIsx ea 3 true))) (fIxV 1 (fVar 0)) [some (.sh (.lst (zcz.map D.str))),some (.sh (.lst (zbu.map fun n=>D.bl (c==n)))),some (.sh (.exc ea))] (rngD 0 13)=some [D.str w]:=cmp
 have hl:(rngD 0 13).length=13:=rfl
 refine⟨[some (.sh (.exc ea)),some (.sh (.lst (zbu.map fun n=>D.bl (c==n)))),some (.sh (.lst (zcz.map D.str))),some (.sh (.lst [.str w]))],?_⟩
 show zk4 ea c [some (.sh (.exc ea)),none,none,none]=_
 simp only[zbu,zcz,List.map_cons,List.map_nil] at cmp ⊢
 generalize rngD 0 13=R at *
 simp only[zk4,sSeq,sSet,fLst,zax,fCat,List.foldr_cons,List.foldr_nil,zad,fNil,fIsx,fVar,fC,List.map_cons,List.map_nil,List.getElem?_cons_zero,List.getElem?_cons_succ,List.set_cons_zero,List.set_cons_succ,Option.bind_some,Option.map_some,if_true,List.length_cons,List.length_nil,show 0+1<=64 by decide,show 0+1+1<=64 by decide,show 0+1+1+1+1+1<=64 by decide,show 0+1+1+1+1+1+1<=64 by decide,Nat.reduceAdd,fw,Nat.reduceLeDiff,List.cons_append,List.nil_append,ze7,zau,hr,hl,capt,List.getD_cons_zero,List.getD_cons_succ,cmp,sRet,zar,bTup]
end LB
namespace S_rotstacks_k17_lost_by
open PySem L2 LB
def zb4:FS:=sSeq (sSet 4 (fIxV 0 (fBin za1 (fC (.int 1)) (fVar 3)))) (sSeq (sSet 5 (fBin dMod (fBin dDiv (fVar 4) (fC (.int 60))) (fC (.int 1401)))) (sSeq (sIf (fTst (fBin dEq (fBin dMod (fBin dDiv (fIxV 0 (fC (.int 0))) (fC (.int 31))) (fC (.int 3))) (fC (.int 1)))) (sSet 5 (fBin dIx (fLst (zax (zad (fC (.int 0)) (zad (fC (.int 1)) (zad (fC (.int 1400)) (fNil)))))) (fBin dMod (fBin dDiv (fVar 4) (fC (.int 60))) (fC (.int 3))))) (sNil)) (sSeq (ze9 (zdb 1 (fTup (zad (fVar 2) (zad (fBin za1 (fBin za1 (fVar 2) (fC (.int 1))) (fBin dMod (fVar 4) (fC (.int 60)))) (zad (fVar 5) (fNil))))))) (sSet 2 (fBin za1 (fBin za1 (fVar 2) (fC (.int 1))) (fBin dMod (fVar 4) (fC (.int 60))))))))
def zcj:FS:=sSeq (sOwn 1 (zax (fNil))) (sSeq (sSet 2 (fC (.int 0))) (sSeq (sFor 3 (zau iR1 (zad (fBin dSub (fC (.int 30)) (fBin dMod (fIxV 0 (fC (.int 0))) (fC (.int 31)))) (fNil))) (zb4)) (sRet (fVar 1))))
def zck:List D->Option D:=runD 6 1 zcj
def zbb:FS:=sSeq (sSet 2 (fC (.int 0))) (sSeq (sIf (fTst (fBin dGt (za8 0) (fC (.int 0)))) (sSet 2 (fBin dIx (fIxV 0 (fBin dSub (za8 0) (fC (.int 1)))) (fC (.int 1)))) (sNil)) (sSeq (sSet 3 (fBin dDiv (fVar 1) (fC (.int 7)))) (sSeq (sIf (fTst (fBin dLt (fBin dMod (fVar 1) (fC (.int 7))) (fC (.int 2)))) (sRet (fBin dMod (fVar 3) (fBin za1 (fVar 2) (fC (.int 1))))) (sNil)) (sSeq (sIf (fAnd (fTst (fBin dLt (fBin dMod (fVar 1) (fC (.int 7))) (fC (.int 4)))) (fTst (fBin dGt (za8 0) (fC (.int 0))))) (sRet (fBin za1 (fBin dSub (fBin dIx (fIxV 0 (fBin dMod (fVar 3) (za8 0))) (fC (.int 1))) (fC (.int 1))) (fBin dMod (fBin dDiv (fVar 3) (fC (.int 30))) (fC (.int 3))))) (sNil)) (sSeq (sIf (fTst (fBin dEq (fBin dMod (fVar 1) (fC (.int 7))) (fC (.int 4)))) (sRet (fBin dIx (fLst (zax (zad (fVar 2) (zad (fBin za1 (fVar 2) (fC (.int 1))) (fNil))))) (fBin dMod (fVar 3) (fC (.int 2))))) (sNil)) (sRet (fBin dIx (fLst (zax (zad (fUn dNeg (fC (.int 1))) (zad (fBin za1 (fVar 2) (fBin dPow (fC (.int 10)) (fC (.int 12)))) (zad (fUn dNeg (fBin dPow (fC (.int 10)) (fC (.int 12)))) (fNil)))))) (fBin dMod (fVar 3) (fC (.int 3))))))))))
def zcl:List D->Option D:=runD 4 2 zbb
def za6:FS:=sSeq (sSet 2 (fTup (zad (fC (.str "refused")) (zad (fC (.str "")) (fNil))))) (sSeq (sTry (sXp (zdq zbq [] (zad (fVar 0) (zad (fVar 1) (fNil)))) (sRet (zdp zcf [] (zad (fVar 0) (zad (fVar 1) (fNil)))))) 3 2 kdT) (sRet (fVar 2)))
def zbm:List D->Option D:=runD 4 2 za6
def zd8:FS:=sSet 3 (fLst (fCat (fVar 3) (fLst (fRep (zax (zad (fIxV 4 (fC (.int 2))) (fNil))) (fBin dSub (fIxV 4 (fC (.int 1))) (fIxV 4 (fC (.int 0))))))))
def zd9:FS:=sSeq (sSet 6 (zar zcl (zad (fVar 2) (zad (fIxV 1 (fBin za1 (fC (.int 32)) (fVar 5))) (fNil))))) (sSeq (sSet 7 (fTup (zad (fC (.str "refused")) (zad (fC (.str "not gone")) (fNil))))) (sSeq (sIf (fAnd (fTst (fBin dLe (fC (.int 0)) (fVar 6))) (fTst (fBin dLe (fVar 6) (za8 3)))) (sSet 7 (zar bSum (zad (fLst (fSl (fVar 3) (fO0) (fO1 (fVar 6)))) (fNil)))) (sNil)) (sSeq (sSet 8 (fLst (zau zg9 (zad (fVar 2) (fNil))))) (sIf (fOr (fNot (fTst (zar zas (zad (zar zbm (zad (fVar 8) (zad (fVar 6) (fNil)))) (zad (fVar 7) (fNil)))))) (fNot (fTst (zar zaz (zad (fVar 8) (zad (fVar 2) (fNil))))))) (sRet (fC (.bl false))) (sNil)))))
def zld:FS:=sSeq (sSet 1 (zar zbg (zad (fVar 0) (zad (fC (.int 36)) (fNil))))) (sSeq (sSet 2 (zar zck (zad (fVar 1) (fNil)))) (sSeq (sSet 3 (fLst (zax (fNil)))) (sSeq (sFor 4 (fiS (fVar 2)) (zd8)) (sSeq (sFor 5 (zau iR1 (zad (fC (.int 4)) (fNil))) (zd9)) (sRet (fC (.bl true)))))))
def znq:List D->Option D:=runD 9 1 zld
end S_rotstacks_k17_lost_by
namespace S_rotstacks_k17_lost_by
open PySem L2 LB PyProof.Rows
def top(i:Nat):Stmt:=PySem.Challenge.pw_rotstacks_k17_lost_by.main.body.getD i (.Pass ⟨0,0,0,0⟩)
local macro_rules | `(tactic| walk_at "g") => `(tactic| first | exact gl_d (by kernel_rfl) | exact gl_c (by kernel_rfl) | exact gl_p (by kernel_rfl))
local macro_rules | `(tactic| walk_at "b") => `(tactic| exact ⟨by walk_at "g", by assumption⟩)
theorem ok_all{P:Program}{w:World}{K:PySem.W.Frag}{mg:Str->Option Value}(T16:Def K mg (top 16) "hours_gone" ["stretches"])(T17:Def K mg (top 17) "lost_by" ["stretches", "hour"])(T19:Def K mg (top 19) "_law_whole" ["_law_found"])(T20:Def K mg (top 20) "_law_at" ["_law_script", "_law_k"])(T21:Def K mg (top 21) "_law_draws" ["_law_script", "_law_many"])(T22:Def K mg (top 22) "_law_same_row" ["_law_found", "_law_due"])(T23:Def K mg (top 23) "_law_same_rows" ["_law_found", "_law_due"])(T24:Def K mg (top 24) "_law_kind" ["_law_error"])(T25:Def K mg (top 25) "_law_same_answer" ["_law_found", "_law_due"])(T26:Def K mg (top 26) "_law_rows" ["_law_draws_here"])(T27:Def K mg (top 27) "_law_hour" ["_law_rows_here", "_law_cell"])(T28:Def K mg (top 28) "_law_answer" ["_law_rows_here", "_law_hour_here"])(x_NotGone:Exc K mg "NotGone")(kf:KFacts K mg)(b_ValueError:mg "ValueError" = none)(b_bool:mg "bool" = none)(b_int:mg "int" = none)(b_isinstance:mg "isinstance" = none)(b_len:mg "len" = none)(b_list:mg "list" = none)(b_min:mg "min" = none)(b_range:mg "range" = none)(b_str:mg "str" = none)(b_sum:mg "sum" = none)(b_tuple:mg "tuple" = none):∀base f fd,Fun K "law" "law" (top 29) f fd->FnOk P w K mg base CX0 4 f fd ["_law_script"] (dSp K znq):=by
 intro base
 have c16:Cal P w K mg base CX0 "hours_gone" 1 (dSp K zbs):=zdi T16 ["stretches"] (by decide +kernel) (by decide +kernel) fun _ _ _ _ _ _ _ _ _ r a t=>zae (zb1 (zia (za3 a) zaf) (zai (zao zaf)) za4) (zai (zao (zf8 (zay (zg4 zaf) a) zaf)))
 have q17:Cal P w K mg base (CXr P w) "lost_by" 2 (qSp K zcf zbq):=zov T17 ["stretches", "hour", "lost", "begun", "dry", "rate"] (by decide +kernel) (by decide +kernel) fun _ _ _ _ _ _ _ _ _ r a t=>zae (zb1 (dt_w (zib (zg3 (zab a) zaf) (zfq (zke (zab a) (zbi c16 r (zaa (zab a) zag)))))) (zai (zhj x_NotGone zng)) za4) (zae (zah t zaf) (zae (zkq (zjd (zab a)) (zfb t (zfb t (zfb t zna))) (zai (zb1 (zg3 (zab a) (zab a)) (zai (zkr t (zg2 (zab a) (zeq (zm1 (zaa (zab a) (zaa (zab a) zag))) (zab a))))) za4))) (zai (zao (zab a)))))
 have c19:Cal P w K mg base CX0 "_law_whole" 1 (dSp K zbf):=zdi T19 ["_law_found"] (by decide +kernel) (by decide +kernel) fun _ _ _ _ _ _ _ _ _ r a t=>zai (zao (zjc (zct zm9 (zab a)) (zjb (zmw (zct zko (zab a))))))
 have c20:Cal P w K mg base CX0 "_law_at" 1 (dSp K zb9):=zdi T20 ["_law_script", "_law_k"] (by decide +kernel) (by decide +kernel) fun _ _ _ _ _ _ _ _ _ r a t=>zae (zb1 (zg3 (zab a) (za3 a)) (zai (zao (zay (zab a) a))) za4) (zai (zao zaf))
 have c21:Cal P w K mg base CX0 "_law_draws" 2 (dSp K zbg):=zdi T21 ["_law_script", "_law_many", "_law_made", "_law_state", "_law_k", "_law_cell"] (by decide +kernel) (by decide +kernel) fun _ _ _ _ _ _ _ _ _ r a t=>zae (zjf (t.psF (zba zag))) (zae (zah t zaf) (zae (zdn (zb7 (zaa (zab a) zag)) t.pg (zae (zah t (zbi c20 r (zaa (zab a) (zaa (zab a) zag)))) (zae (zb1 (zia (zbe (za3 a) zaf) zaf) (zae (zah t (zbe (zbr (zbr (zbr (zg2 (zab a) zaf) (zab a)) (zab a)) zaf) zaf)) (zai (zah t (zbe (zg2 (zbr (zab a) (zab a)) zaf) zaf)))) za4) (zai (zhd (zeu (zab a) a)))))) (zai (zao (zab a)))))
 have c22:Cal P w K mg base CX0 "_law_same_row" 2 (dSp K zaw):=zdi T22 ["_law_found", "_law_due", "_law_k"] (by decide +kernel) (by decide +kernel) fun _ _ _ _ _ _ _ _ _ r a t=>zae (zb1 (dt_w (zib (zcs (zb5 (zct zfv (zab a)))) (zfq (zkf (za3 a) (za3 a))))) (zai (zao zdh)) za4) (zae (zdn (zb7 (zaa (za3 a) zag)) t.pg (zae (zb1 (dt_w (zes (zb5 (zct zhe (zay (zab a) a))) (zc8 (zcs (zb5 (zct zhe (zay (zab a) a))))))) (zai (zao zdh)) za4) (zae (zb1 (dt_w (zes (zcs (zb5 (zct zhe (zay (zab a) a)))) (zc8 (zcs (zb5 (zbi c19 r (zaa (zay (zab a) a) zag))))))) (zai (zao zdh)) za4) (zai (zb1 (zkf (zay (zab a) a) (zay (zab a) a)) (zai (zao zdh)) za4))))) (zai (zao zdh)))
 have c23:Cal P w K mg base CX0 "_law_same_rows" 3 (dSp K zaz):=zdi T23 ["_law_found", "_law_due", "_law_k"] (by decide +kernel) (by decide +kernel) fun _ _ _ _ _ _ _ _ _ r a t=>zae (zb1 (dt_w (zib (zcs (zb5 (zct zkp (zab a)))) (zfq (zkf (za3 a) (za3 a))))) (zai (zao zdh)) za4) (zae (zdn (zb7 (zaa (za3 a) zag)) t.pg (zai (zb1 (zcs (zb5 (zbi c22 r (zaa (zay (zab a) a) (zaa (zay (zab a) a) zag))))) (zai (zao zdh)) za4))) (zai (zao zdh)))
 obtain⟨RA,hR,hS⟩:=kf.rot
 have kk:KCl P w K mg base "_law_kind" 1 kdT:=zox T24 ["_law_error", "_law_kinds", "_law_words", "_law_found"] (by decide +kernel) (by decide +kernel) ziz fun _ _ _ _ _ _ _ _ _ _ _ u v y a t=>zae (zah t (za7 (zba (zaa (zbx kf u v y a) (zaa (zbx kf u v y a) zag))))) (zae (zah t (za7 (zcg (zab a) (za7 (zba (zaa (zbx kf u v y a) (zaa (zbx kf u v y a) zag))))))) (zae (zah t (za7 (zcg (zab a) (za7 (zba (zaa (zbx kf u v y a) (zaa (zbx kf u v y a) zag))))))) (zae (zah t (za7 (zcg (zab a) (za7 (zba (zaa (zbx kf u v y a) (zaa (zbx kf u v y a) zag))))))) (zae (zah t (za7 (zcg (zab a) (za7 (zba (zaa (zbx kf u v y a) (zaa (zbx kf u v y a) zag))))))) (zae (zah t (za7 (zcg (zab a) (za7 (zba (zaa (zbx kf u v y a) (zaa (zbx kf u v y a) zag))))))) (zae (zah t (za7 (zcg (zab a) (za7 (zba (zaa (zbx kf u v y a) zag)))))) (zae (zah t (za7 (zba (zaa za9 (zaa za9 (zaa za9 (zaa za9 (zaa za9 (zaa za9 zag))))))))) (zae (zah t (za7 (zcg (zab a) (za7 (zba (zaa za9 (zaa za9 (zaa za9 (zaa za9 (zaa za9 zag)))))))))) (zae (zah t (za7 (zcg (zab a) (za7 (zba (zaa za9 (zaa za9 zag))))))) (zae (zkn (zfa (fun _ _ _ _ _ _ _ I h=>y.comp I h) a t (zdm (fun it lo n=>zfe it lo n) (zaa zaf zag)) (fun _ _ _ _ _ _ _ y a=>dt_w (zes (zb5 (zay (zab a) a)) (zc8 (zb5 (znm kf u v y a))))) (fun _ _ _ _ _ _ _ y a=>zay (zab a) a))) (zai (zao (zk0 (zaa (za7 (zcg (za7 (zba (zaa za9 zag))) (zab a))) zag))))))))))))))
 have c25:Cal P w K mg base CX0 "_law_same_answer" 3 (dSp K zas):=zdi T25 ["_law_found", "_law_due"] (by decide +kernel) (by decide +kernel) fun _ _ _ _ _ _ _ _ _ r a t=>zae (zb1 (zb5 (zct zfv (zab a))) (zai (zao (zbi c22 r (zaa (zab a) (zaa (zab a) zag))))) za4) (zai (zao (zjc (zbi c19 r (zaa (zab a) zag)) (zjb (zoh (zab a) (zab a))))))
 have c26:Cal P w K mg base CX0 "_law_rows" 1 (dSp K zck):=zdi T26 ["_law_draws_here", "_law_rows_here", "_law_hour_here", "_law_k", "_law_cell", "_law_rate"] (by decide +kernel) (by decide +kernel) fun _ _ _ _ _ _ _ _ _ r a t=>zae (zjf (t.psF (zba zag))) (zae (zah t zaf) (zae (zdn (zb7 (zaa (zeq zaf (zbe (zay zaf a) zaf)) zag)) t.pg (zae (zah t (zay (zbr zaf (zab a)) a)) (zae (zah t (zbe (zer (zab a) zaf) zaf)) (zae (zb1 (zia (zbe (zer (zay zaf a) zaf) zaf) zaf) (zai (zah t (zf8 (za7 (zba (zaa zaf (zaa zaf (zaa zaf zag))))) (zbe (zer (zab a) zaf) zaf)))) za4) (zae (zhd (zeu (zg5 (zaa (zab a) (zaa (zbr (zbr (zab a) zaf) (zbe (zab a) zaf)) (zaa (zab a) zag)))) a)) (zai (zah t (zbr (zbr (zab a) zaf) (zbe (zab a) zaf))))))))) (zai (zao (zab a)))))
 have c27:Cal P w K mg base CX0 "_law_hour" 1 (dSp K zcl):=zdi T27 ["_law_rows_here", "_law_cell", "_law_last", "_law_turn"] (by decide +kernel) (by decide +kernel) fun _ _ _ _ _ _ _ _ _ r a t=>zae (zah t zaf) (zae (zb1 (zke (za3 a) zaf) (zai (zah t (zf8 (zay (zeq (za3 a) zaf) a) zaf))) za4) (zae (zah t (zer (zab a) zaf)) (zae (zb1 (zg3 (zbe (zab a) zaf) zaf) (zai (zao (zbe (zab a) (zbr (zab a) zaf)))) za4) (zae (zb1 (dt_w (zes (zg3 (zbe (zab a) zaf) zaf) (zc8 (zke (za3 a) zaf)))) (zai (zao (zbr (zeq (zf8 (zay (zbe (zab a) (za3 a)) a) zaf) zaf) (zbe (zer (zab a) zaf) zaf)))) za4) (zae (zb1 (zia (zbe (zab a) zaf) zaf) (zai (zao (zf8 (za7 (zba (zaa (zab a) (zaa (zbr (zab a) zaf) zag)))) (zbe (zab a) zaf)))) za4) (zai (zao (zf8 (za7 (zba (zaa (zg4 zaf) (zaa (zbr (zab a) (zji zaf zaf)) (zaa (zg4 (zji zaf zaf)) zag))))) (zbe (zab a) zaf)))))))))
 have c28:Cal P w K mg base CX0 "_law_answer" 3 (dSp K zbm):=zdi T28 ["_law_rows_here", "_law_hour_here", "_law_refused", "e"] (by decide +kernel) (by decide +kernel) fun _ _ _ _ _ _ _ _ _ r a t=>zae (zah t (zg5 (zaa za9 (zaa za9 zag)))) (zae (zk2 hR hS kk r a t (fun _ _ a t=>zai (znf (zao (zhi q17 r (zhh (zaa (zab a) (zaa (zab a) zag))))) (zkt (zio q17 r (zhh (zaa (zab a) (zaa (zab a) zag)))))))) (zai (zao (zab a))))
 exact zow ["_law_script", "_law_draws_here", "_law_rows_here", "_law_rates", "_law_row", "_law_k", "_law_hour_here", "_law_due", "_law_handed"] (by decide +kernel) fun _ _ _ _ _ _ _ _ _ r a t=>zae (zah t (zbi c21 r (zaa (zab a) (zaa zaf zag)))) (zae (zah t (zbi c26 r (zaa (zab a) zag))) (zae (zah t (za7 (zba zag))) (zae (zdn (zjd (zab a)) t.pg (zai (zah t (za7 (zcg (zab a) (za7 (znb (zba (zaa (zay zaf a) zag)) (zeq (zay zaf a) (zay zaf a))))))))) (zae (zdn (zb7 (zaa zaf zag)) t.pg (zae (zah t (zbi c27 r (zaa (zab a) (zaa (zay (zbr zaf (zab a)) a) zag)))) (zae (zah t (zg5 (zaa za9 (zaa za9 zag)))) (zae (zb1 (dt_w (zes (zmv zaf (zab a)) (zc8 (zmv (zab a) (za3 a))))) (zai (zah t (zm3 (zaa (za7 (zoj (zab a) zkj (zkk (zab a)))) zag)))) za4) (zae (zah t (za7 (zki (zaa (zab a) zag)))) (zai (zb1 (dt_w (zib (zcs (zb5 (zbi c25 r (zaa (zbi c28 r (zaa (zab a) (zaa (zab a) zag))) (zaa (zab a) zag))))) (zfq (zcs (zb5 (zbi c23 r (zaa (zab a) (zaa (zab a) zag)))))))) (zai (zao zdh)) za4))))))) (zai (zao zdh))))))
end S_rotstacks_k17_lost_by
namespace S_rotstacks_k17_lost_by
open PySem L2 LB
variable{sp:List Spn}{h:Int}
theorem zhx(hh:h<0\/hrOf sp<h):zbq [] [spL sp,.int h]=some ("NotGone" : Str):=by
 have hg:=zcn sp
 unfold zbq xQ
 rw[if_pos ⟨rfl,rfl⟩,show zcv 6 [] [spL sp,.int h]=[some (.sh (spL sp)),some (.sh (.int h)),none,none,none,none] from rfl]
 unfold spL at *
 generalize sp.map sD=L at *
 by_cases c:h<0
 ·simp only[zbp,sSeq,sIf,fOr,fTst,fBin,fVar,fC,dLt,List.getElem?_cons_zero,List.getElem?_cons_succ,Option.bind_some,Option.map_some,c,decide_true,if_true,zew]
 ·have c2:hrOf sp<h:=by omega
  simp only[zbp,sSeq,sIf,fOr,fTst,fBin,fVar,fC,dLt,dGt,zar,zad,fNil,hg,List.getElem?_cons_zero,List.getElem?_cons_succ,Option.bind_some,Option.map_some,c,c2,decide_true,decide_false,Bool.false_eq_true,if_false,if_true,zew]
theorem zle(cs:List Int)(hcl:cs.length=36):∃sp:List Spn,zck [.lst (cs.map D.int)]=some (spL sp)/\zdg 0 sp/\(∀x∈sp,0<=x.2.2/\x.2.2<=1400)/\sp.length<=30/\zbl 0 sp<=1800:=by
 obtain⟨t,ht,ht1⟩:∃t:Nat,(30:Int)-cs[0] % 31=(t:Int)/\t<=30:=⟨(30-cs[0] % 31).toNat,by omega,by omega⟩
 have a0:atI (cs.map D.int) 0=some (.int cs[0]):=zcm (k:=0) D.int (by simp[hcl])
 have m31:∀z:Int,dMod (.int z) (.int 31)=some (.int (z % 31)):=fun z=>zb2 (by decide)
 obtain⟨e',hf,sp,v3,v4,v5,hl,hc,hb,he,rfl⟩:=zbw (i:=3) (g:=zb4) (fun i e=>∃(sp:List Spn) (v3 v4 v5:Option Sl),sp.length=i/\zdg 0 sp/\(∀x∈sp,0<=x.2.2/\x.2.2<=1400)/\zbl 0 sp<=60*i/\e=[some (.sh (.lst (cs.map D.int))),some (.ow (sp.map sD)),some (.sh (.int (zbl 0 sp))),v3,v4,v5])
  (rngD 0 t) [some (.sh (.lst (cs.map D.int))),some (.ow []),some (.sh (.int 0)),none,none,none] ⟨[],none,none,none,rfl,trivial,(fun x hx=>nomatch hx),(by show(0:Int)<=_;omega),rfl⟩ (by
    rintro i d e hd ⟨sp,v3,v4,v5,hl,hc,hb,he,rfl⟩
    obtain⟨rfl,hi⟩:=zcd hd
    have ai:atI (cs.map D.int) (1+(0+(i:Int)))=some (.int cs[1+i]):=by
     rw[show(1:Int)+(0+(i:Int))=((1+i:Nat):Int) by omega]
     exact zcm D.int (List.getElem?_eq_getElem (by omega))
    generalize cs[1+i]=c at *
    have d60:∀z:Int,dDiv (.int z) (.int 60)=some (.int (z / 60)):=fun z=>zd2 (by decide) (by decide)
    have d31:∀z:Int,dDiv (.int z) (.int 31)=some (.int (z / 31)):=fun z=>zd2 (by decide) (by decide)
    have m60:∀z:Int,dMod (.int z) (.int 60)=some (.int (z % 60)):=fun z=>zb2 (by decide)
    have m3:∀z:Int,dMod (.int z) (.int 3)=some (.int (z % 3)):=fun z=>zb2 (by decide)
    have m1401:∀z:Int,dMod (.int z) (.int 1401)=some (.int (z % 1401)):=fun z=>zb2 (by decide)
    obtain⟨hh,eh,hb1⟩:∃hh:Int,zbl 0 sp+1+c % 60=hh/\zbl 0 sp+1<=hh/\hh<=zbl 0 sp+60:=⟨_,rfl,by omega,by omega⟩
    have fk:Few ((sp.map sD).length+1):=few (by rw[List.length_map];omega)
    obtain⟨r,hr,hr1⟩:∃r:Int,(sIf (fTst (fBin dEq (fBin dMod (fBin dDiv (fIxV 0 (fC (.int 0))) (fC (.int 31))) (fC (.int 3))) (fC (.int 1)))) (sSet 5 (fBin dIx (fLst (zax (zad (fC (.int 0)) (zad (fC (.int 1)) (zad (fC (.int 1400)) (fNil)))))) (fBin dMod (fBin dDiv (fVar 4) (fC (.int 60))) (fC (.int 3))))) (sNil)) [some (.sh (.lst (cs.map D.int))),some (.ow (sp.map sD)),some (.sh (.int (zbl 0 sp))),some (.sh (.int (0+(i:Int)))),some (.sh (.int c)),some (.sh (.int (c / 60 % 1401)))]=some (.nx,[some (.sh (.lst (cs.map D.int))),some (.ow (sp.map sD)),some (.sh (.int (zbl 0 sp))),some (.sh (.int (0+(i:Int)))),some (.sh (.int c)),some (.sh (.int r))])/\(0<=r/\r<=1400):=by
     generalize sp.map sD=SL at *
     generalize cs.map D.int=CL at *
     by_cases q:cs[0] / 31 % 3=1
     ·obtain⟨y,ey,hy⟩:∃y:Nat,c / 60 % 3=(y:Int)/\y<3:=⟨(c / 60 % 3).toNat,by omega,by omega⟩
      have at3:∃r:Int,atI [D.int 0,.int 1,.int 1400] (y:Int)=some (.int r)/\(0<=r/\r<=1400):=by
       match y,hy with
       | 0,_=>exact⟨0,rfl,by decide,by decide⟩
       | 1,_=>exact⟨1,rfl,by decide,by decide⟩
       | 2,_=>exact⟨1400,rfl,by decide,by decide⟩
      obtain⟨r,hr,hr1⟩:=at3
      refine⟨r,?_,hr1⟩
      simp only[sIf,fTst,fBin,fIxV,ixSl,fC,fVar,fLst,zax,zad,fNil,List.getElem?_cons_zero,List.getElem?_cons_succ,Option.bind_some,Option.map_some,a0,d31,m3,dEq,q,decide_true,if_true,List.length_cons,List.length_nil,show 0+1+1+1<=64 by decide,d60,ey,dIx,hr,sSet,List.set_cons_zero,List.set_cons_succ]
     ·refine⟨c / 60 % 1401,?_,by omega,by omega⟩
      simp only[sIf,fTst,fBin,fIxV,ixSl,fC,fVar,List.getElem?_cons_zero,List.getElem?_cons_succ,Option.bind_some,Option.map_some,a0,d31,m3,dEq,q,decide_false,Bool.false_eq_true,if_false,sNil]
    have e1:zbl 0 (sp++[(zbl 0 sp,hh,r)])=hh:=zco _ _ _
    refine⟨[some (.sh (.lst (cs.map D.int))),some (.ow ((sp++[(zbl 0 sp,hh,r)]).map sD)),some (.sh (.int (zbl 0 (sp++[(zbl 0 sp,hh,r)])))),some (.sh (.int (0+(i:Int)))),some (.sh (.int c)),some (.sh (.int r))],?_,sp++[(zbl 0 sp,hh,r)],_,_,_,by simp[hl],ze2 _ _ _ hc rfl (by dsimp only;omega),?_,by rw[e1];omega,rfl⟩
    ·rw[e1,List.map_append,show[(zbl 0 sp,hh,r)].map sD=[.tup [.int (zbl 0 sp),.int hh,.int r]] from rfl]
     generalize sp.map sD=SL at *
     generalize cs.map D.int=CL at *
     simp only[zb4,sSeq,sSet,List.set_cons_zero,List.set_cons_succ,fIxV,ixSl,fBin,fC,fVar,List.getElem?_cons_zero,List.getElem?_cons_succ,Option.bind_some,Option.map_some,za1,ai,d60,m1401]
     simp only[hr,ze9,zdb,zkm,fTup,zad,fNil,fVar,fC,fBin,List.getElem?_cons_zero,List.getElem?_cons_succ,Option.bind_some,Option.map_some,za1,m60,eh,List.length_cons,List.length_nil,show 0+1+1+1<=64 by decide,if_true,fk,List.set_cons_zero,List.set_cons_succ,sSet]
    ·intro x hx
     rcases List.mem_append.mp hx with hx | hx
     ·exact hb x hx
     ·rw[List.mem_singleton.mp hx];exact hr1)
 rw[zdc] at hl he
 refine⟨sp,?_,hc,hb,by omega,by omega⟩
 have hrt:=zdd t (by omega)
 suffices hz:∃e',zcj [some (.sh (.lst (cs.map D.int))),none,none,none,none,none]=some (.rt (spL sp),e') from let ⟨_,hz⟩:=hz;zbt rfl hz
 unfold spL
 generalize sp.map sD=SL at *
 generalize cs.map D.int=CL at *
 simp only[zcj,sSeq,sOwn,zax,fNil,List.length_nil,Nat.zero_le,if_true,Option.map_some,Option.bind_some,List.set_cons_zero,List.set_cons_succ,sSet,fC,sFor,zau,zad,fBin,fIxV,ixSl,List.getElem?_cons_zero,List.getElem?_cons_succ,a0,m31,dSub,ht,hrt,hf,sRet,fVar]
 exact⟨_,rfl⟩
theorem zlf(sp:List Spn)(c:Int)(hl:sp.length<=30)(hc:zdg 0 sp):∃h:Int,zcl [spL sp,.int c]=some (.int h):=by
 have hle:=zd7 sp 0 hc
 have d7:∀z:Int,dDiv (.int z) (.int 7)=some (.int (z / 7)):=fun z=>zd2 (by decide) (by decide)
 have d30:∀z:Int,dDiv (.int z) (.int 30)=some (.int (z / 30)):=fun z=>zd2 (by decide) (by decide)
 have m7:∀z:Int,dMod (.int z) (.int 7)=some (.int (z % 7)):=fun z=>zb2 (by decide)
 have m3:∀z:Int,dMod (.int z) (.int 3)=some (.int (z % 3)):=fun z=>zb2 (by decide)
 have m2:∀z:Int,dMod (.int z) (.int 2)=some (.int (z % 2)):=fun z=>zb2 (by decide)
 have hlen:((sp.map sD).length:Int)=sp.length:=by rw[List.length_map]
 have p12:dPow (.int 10) (.int 12)=some (.int (10 ^ 12)):=rfl
 suffices hz:∃h e',zbb [some (.sh (spL sp)),some (.sh (.int c)),none,none]=some (.rt (.int h),e') from let ⟨h,_,hz⟩:=hz;⟨h,zbt rfl hz⟩
 have l0:∃l:Int,0<=l/\(sIf (fTst (fBin dGt (za8 0) (fC (.int 0)))) (sSet 2 (fBin dIx (fIxV 0 (fBin dSub (za8 0) (fC (.int 1)))) (fC (.int 1)))) (sNil)) [some (.sh (spL sp)),some (.sh (.int c)),some (.sh (.int 0)),none]=some (.nx,[some (.sh (spL sp)),some (.sh (.int c)),some (.sh (.int l)),none]):=by
  by_cases q:sp.length=0
  ·refine⟨0,Int.le_refl _,?_⟩
   have:¬(0:Int)<((sp.map sD).length:Int):=by omega
   unfold spL
   generalize sp.map sD=SL at *
   simp only[sIf,fTst,fBin,za8,fC,List.getElem?_cons_zero,Option.bind_some,Option.map_some,dGt,this,decide_false,Bool.false_eq_true,if_false,sNil]
  ·have hn:sp.length-1<sp.length:=by omega
   have ax:atI (sp.map sD) (((sp.map sD).length:Int)-1)=some (.tup [.int sp[sp.length-1].1,.int sp[sp.length-1].2.1,.int sp[sp.length-1].2.2]):=by
    rw[hlen,show(sp.length:Int)-1=((sp.length-1:Nat):Int) by omega]
    exact zcm sD (List.getElem?_eq_getElem hn)
   have a1:∀a b c:Int,atI [D.int a,.int b,.int c] 1=some (.int b):=fun _ _ _=>rfl
   have:(0:Int)<((sp.map sD).length:Int):=by omega
   have hpos:0<=sp[sp.length-1].2.1:=by
    have e:sp=sp.dropLast++[sp[sp.length-1]]:=by
     rw[← List.getLast_eq_getElem (by intro z;rw[z] at q;exact q rfl)]
     exact(List.dropLast_concat_getLast _).symm
    have:=zco sp.dropLast 0 sp[sp.length-1]
    rw[← e] at this
    omega
   refine⟨_,hpos,?_⟩
   unfold spL
   generalize sp.map sD=SL at *
   simp only[sIf,fTst,fBin,za8,fC,fIxV,ixSl,dSub,List.getElem?_cons_zero,Option.bind_some,Option.map_some,dGt,this,decide_true,if_true,sSet,ax,dIx,a1,List.set_cons_zero,List.set_cons_succ]
 obtain⟨l,hl0,e0⟩:=l0
 have ml:∀z:Int,dMod (.int z) (.int (l+1))=some (.int (z % (l+1))):=fun z=>zb2 (by omega)
 by_cases q1:c % 7<2
 ·exact⟨_,_,by
   simp only[zbb,sSeq,sSet,fC,Option.map_some,Option.bind_some,List.set_cons_zero,List.set_cons_succ,e0]
   simp only[sSeq,sSet,fC,Option.map_some,Option.bind_some,List.set_cons_zero,List.set_cons_succ,fBin,fVar,List.getElem?_cons_zero,List.getElem?_cons_succ,d7,sIf,fTst,m7,dLt,q1,decide_true,if_true,sRet,za1,ml]
   rfl⟩
 by_cases q2:c % 7<4/\0<sp.length
 ·have hs:(0:Int)<((sp.map sD).length:Int):=by omega
  obtain⟨y,ey,hy⟩:∃y:Nat,c / 7 % ((sp.map sD).length:Int)=(y:Int)/\y<sp.length:=by
   have:=Int.emod_nonneg (c / 7) (show((sp.map sD).length:Int)≠0 by omega)
   have:=Int.emod_lt_of_pos (c / 7) hs
   exact⟨(c / 7 % ((sp.map sD).length:Int)).toNat,by omega,by omega⟩
  have ms:dMod (.int (c / 7)) (.int ((sp.map sD).length:Int))=some (.int y):=by rw[zb2 hs,ey]
  have ax:atI (sp.map sD) (y:Int)=some (.tup [.int sp[y].1,.int sp[y].2.1,.int sp[y].2.2]):=zcm sD (List.getElem?_eq_getElem hy)
  have a1:∀a b c:Int,atI [D.int a,.int b,.int c] 1=some (.int b):=fun _ _ _=>rfl
  have q3:=q2.1
  unfold spL at *
  generalize sp.map sD=SL at *
  exact⟨_,_,by
   simp only[zbb,sSeq,sSet,fC,Option.map_some,Option.bind_some,List.set_cons_zero,List.set_cons_succ,e0]
   simp only[sSeq,sSet,fC,Option.map_some,Option.bind_some,List.set_cons_zero,List.set_cons_succ,fBin,fVar,List.getElem?_cons_zero,List.getElem?_cons_succ,d7,sIf,fTst,m7,dLt,q1,q3,decide_true,decide_false,Bool.false_eq_true,if_false,sNil,if_true,fAnd,za8,dGt,hs,sRet,za1,dSub,fIxV,ixSl,ms,ax,dIx,a1,d30,m3]
   rfl⟩
 have q3:(fAnd (fTst (fBin dLt (fBin dMod (fVar 1) (fC (.int 7))) (fC (.int 4)))) (fTst (fBin dGt (za8 0) (fC (.int 0))))) [some (.sh (spL sp)),some (.sh (.int c)),some (.sh (.int l)),some (.sh (.int (c / 7)))]=some (false,[some (.sh (spL sp)),some (.sh (.int c)),some (.sh (.int l)),some (.sh (.int (c / 7)))]):=by
  by_cases q4:c % 7<4
  ·have hs:¬(0:Int)<((sp.map sD).length:Int):=by omega
   unfold spL
   generalize sp.map sD=SL at *
   simp only[fAnd,fTst,fBin,fVar,fC,za8,List.getElem?_cons_zero,List.getElem?_cons_succ,Option.bind_some,Option.map_some,m7,dLt,q4,decide_true,if_true,dGt,hs,decide_false]
  ·simp only[fAnd,fTst,fBin,fVar,fC,List.getElem?_cons_zero,List.getElem?_cons_succ,Option.bind_some,Option.map_some,m7,dLt,q4,decide_false,Bool.false_eq_true,if_false]
 by_cases q5:c % 7=4
 ·obtain⟨r,hr⟩:∃r:Int,atI [D.int l,.int (l+1)] (c / 7 % 2)=some (.int r):=by
   rcases(show c / 7 % 2=0\/c / 7 % 2=1 by omega) with h | h <;> rw[h] <;> exact⟨_,rfl⟩
  exact⟨r,_,by
   simp only[zbb,sSeq,sSet,fC,Option.map_some,Option.bind_some,List.set_cons_zero,List.set_cons_succ,e0]
   simp only[sSeq,sSet,fC,Option.map_some,Option.bind_some,List.set_cons_zero,List.set_cons_succ,q3,fBin,fVar,List.getElem?_cons_zero,List.getElem?_cons_succ,d7,sIf,fTst,m7,dLt,q1,decide_false,Bool.false_eq_true,if_false,sNil,dEq,q5,show ¬(4:Int)<2 by decide,decide_true,if_true,sRet,fLst,zax,zad,fNil,za1,List.length_cons,List.length_nil,show 0+1+1<=64 by decide,m2,dIx,hr]
   rfl⟩
 ·obtain⟨r,hr⟩:∃r:Int,atI [D.int (-1),.int (l+10 ^ 12),.int (-10 ^ 12)] (c / 7 % 3)=some (.int r):=by
   rcases(show c / 7 % 3=0\/c / 7 % 3=1\/c / 7 % 3=2 by omega) with h | h | h <;> rw[h] <;> exact⟨_,rfl⟩
  exact⟨r,_,by
   simp only[zbb,sSeq,sSet,fC,Option.map_some,Option.bind_some,List.set_cons_zero,List.set_cons_succ,e0]
   simp only[sSeq,sSet,fC,Option.map_some,Option.bind_some,List.set_cons_zero,List.set_cons_succ,q3,fBin,fVar,List.getElem?_cons_zero,List.getElem?_cons_succ,d7,sIf,fTst,m7,dLt,q1,decide_false,Bool.false_eq_true,if_false,sNil,dEq,q5,sRet,fLst,zax,zad,fNil,za1,p12,fUn,dNeg,List.length_cons,List.length_nil,show 0+1+1+1<=64 by decide,if_true,m3,dIx,hr]
   rfl⟩
theorem znr(h0:0<=h)(h1:h<=hrOf sp)(hb:∀x∈sp,0<=x.2.2/\x.2.2<=100000):zbm [spL sp,.int h]=some (.int (zb3 h sp)):=by
 obtain⟨l1,l2⟩:=zge h0 h1 hb
 suffices hz:∃e',za6 [some (.sh (spL sp)),some (.sh (.int h)),none,none]=some (.rt (.int (zb3 h sp)),e') from let ⟨_,hz⟩:=hz;zbt rfl hz
 generalize spL sp=L at *
 simp only[za6,sSeq,sSet,fTup,zad,fC,fNil,Option.bind_some,Option.map_some,List.length_cons,List.length_nil,show 0+1+1<=64 by decide,if_true,List.set_cons_zero,List.set_cons_succ,sTry,sXp,zds,ze1,fVar,List.getElem?_cons_zero,List.getElem?_cons_succ,l1,Option.map_none,sRet,l2]
 exact⟨_,rfl⟩
theorem zo0(hh:h<0\/hrOf sp<h):zbm [spL sp,.int h]=some (.tup [.str "refused",.str "not gone"]):=by
 have l1:=zhx hh
 have k1:kdT "NotGone" = some (.tup [.str "refused",.str "not gone"]):=rfl
 suffices hz:∃e',za6 [some (.sh (spL sp)),some (.sh (.int h)),none,none]=some (.rt (.tup [.str "refused",.str "not gone"]),e') from let ⟨_,hz⟩:=hz;zbt rfl hz
 generalize spL sp=L at *
 simp only[za6,sSeq,sSet,fTup,zad,fC,fNil,Option.bind_some,Option.map_some,List.length_cons,List.length_nil,show 0+1+1<=64 by decide,if_true,List.set_cons_zero,List.set_cons_succ,sTry,sXp,zds,ze1,fVar,List.getElem?_cons_zero,List.getElem?_cons_succ,l1,k1,sRet]
 exact⟨_,rfl⟩
theorem zi0(z:Int):zas [.int z,.int z]=some (.bl true):=by
 have w:=zd5 z
 suffices hz:∃e',zan [some (.sh (.int z)),some (.sh (.int z))]=some (.rt (.bl true),e') from let ⟨_,hz⟩:=hz;zbt rfl hz
 simp only[zan,sSeq,sIf,fTst,fIsi,fVar,List.getElem?_cons_zero,List.getElem?_cons_succ,Option.bind_some,Option.map_some,isiT,tyD,show("int"=="tuple" || ("int"=="bool" && "tuple"=="int"))=false by decide,Bool.false_eq_true,if_false,sNil,sRet,zeo,zar,zad,fNil,w,fBin,dEq,decide_true]
 exact⟨_,rfl⟩
theorem zi1:zas [.tup [.str "refused",.str "not gone"],.tup [.str "refused",.str "not gone"]]=some (.bl true):=by
 have w:=zfi [.str "refused",.str "not gone"] (by simp[plD]) (by simp)
 suffices hz:∃e',zan [some (.sh (.tup [.str "refused",.str "not gone"])),some (.sh (.tup [.str "refused",.str "not gone"]))]=some (.rt (.bl true),e') from let ⟨_,hz⟩:=hz;zbt rfl hz
 simp only[zan,sSeq,sIf,fTst,fIsi,fVar,List.getElem?_cons_zero,List.getElem?_cons_succ,Option.bind_some,Option.map_some,isiT,tyD,show("tuple"=="tuple" || ("tuple"=="bool" && "tuple"=="int"))=true by decide,if_true,sRet,zar,zad,fNil,w]
 exact⟨_,rfl⟩
theorem good(ns:List Int)(hn:ns.length<=63):znq [.lst (ns.map D.int)]=some (.bl true):=by
 obtain⟨cs,hcl,hd⟩:=ziv ns 36 (by omega)
 have hd:zbg [.lst (ns.map D.int),.int 36]=some (.lst (cs.map D.int)):=hd
 obtain⟨sp,hr,hc,hb,hl,he⟩:=zle cs hcl
 have hhr:=znp sp
 have hrl:=zhu sp 0 hc
 have hle:=zd7 sp 0 hc
 have hb':∀x∈sp,0<=x.2.2/\x.2.2<=100000:=fun x hx=>by have:=hb x hx;omega
 obtain⟨e',hf,v4,rfl⟩:=zil (i:=4) (g:=zd8) sD (fun p e=>∃v4,e=[some (.sh (.lst (ns.map D.int))),some (.sh (.lst (cs.map D.int))),some (.sh (spL sp)),some (.sh (.lst ((rts p).map D.int))),v4,none,none,none,none]) sp
  [some (.sh (.lst (ns.map D.int))),some (.sh (.lst (cs.map D.int))),some (.sh (spL sp)),some (.sh (.lst [])),none,none,none,none,none] ⟨none,rfl⟩ (by
   rintro p x q e hpq ⟨v4,rfl⟩
   have hl2:(rts p).length+(x.2.1-x.1).toNat<=100000:=by
    have:(rts sp).length=(rts p).length+((x.2.1-x.1).toNat+(rts q).length):=by rw[hpq,zhv,List.length_append];congr 1;show(List.replicate _ _++rts q).length=_;simp
    omega
   have hq:∀(l:List Spn) (b:Int),zdg b l->x∈l->x.1<=x.2.1:=by
    intro l
    induction l with
    | nil=>intro b _ h;cases h
    | cons y r ih=>intro b hc h;rcases List.mem_cons.mp h with rfl | h;exact hc.2.1;exact ih _ hc.2.2 h
   have hx1:=hq sp 0 hc (by rw[hpq];simp)
   have hbd:Bnd (-(2 ^ 62)) (2 ^ 62) (x.2.1-x.1):=⟨by omega,by omega⟩
   have f1:Few ((0+1)*(x.2.1-x.1).toNat):=by show _<=_;omega
   have f2:Few (((rts p).map D.int).length+(List.replicate (x.2.1-x.1).toNat (D.int x.2.2)).length):=by show _<=_;rw[List.length_map,List.length_replicate];omega
   have e1:(rts (p++[x])).map D.int=(rts p).map D.int++List.replicate (x.2.1-x.1).toNat (D.int x.2.2):=by rw[zhv,List.map_append,show rts [x]=List.replicate (x.2.1-x.1).toNat x.2.2 by simp[rts],List.map_replicate]
   have a0:atI [D.int x.1,.int x.2.1,.int x.2.2] 0=some (.int x.1):=rfl
   have a1:atI [D.int x.1,.int x.2.1,.int x.2.2] 1=some (.int x.2.1):=rfl
   have a2:atI [D.int x.1,.int x.2.1,.int x.2.2] 2=some (.int x.2.2):=rfl
   refine⟨[some (.sh (.lst (ns.map D.int))),some (.sh (.lst (cs.map D.int))),some (.sh (spL sp)),some (.sh (.lst ((rts (p++[x])).map D.int))),some (.sh (sD x)),none,none,none,none],?_,_,rfl⟩
   rw[e1]
   unfold sD
   generalize (rts p).map D.int=M at *
   simp only[zd8,sSet,fLst,fCat,fRep,zax,zad,fNil,fVar,fIxV,ixSl,fC,fBin,dSub,a0,a1,a2,List.getElem?_cons_zero,List.getElem?_cons_succ,Option.bind_some,Option.map_some,List.set_cons_zero,List.set_cons_succ,List.length_cons,List.length_nil,show 0+1<=64 by decide,if_true,f1,hbd,and_self,zk8,f2])
 obtain⟨e2,hg,w5,w6,w7,w8,rfl⟩:=zbw (i:=5) (g:=zd9) (fun i e=>∃w5 w6 w7 w8:Option Sl,e=[some (.sh (.lst (ns.map D.int))),some (.sh (.lst (cs.map D.int))),some (.sh (spL sp)),some (.sh (.lst ((rts sp).map D.int))),v4,w5,w6,w7,w8])
  (rngD 0 4) [some (.sh (.lst (ns.map D.int))),some (.sh (.lst (cs.map D.int))),some (.sh (spL sp)),some (.sh (.lst ((rts sp).map D.int))),v4,none,none,none,none] ⟨none,none,none,none,rfl⟩ (by
    rintro i d e hdd ⟨w5,w6,w7,w8,rfl⟩
    obtain⟨rfl,hi⟩:=zcd hdd
    have ai:atI (cs.map D.int) (32+(0+(i:Int)))=some (.int cs[32+i]):=by
     rw[show(32:Int)+(0+(i:Int))=((32+i:Nat):Int) by omega]
     exact zcm D.int (List.getElem?_eq_getElem (by omega))
    generalize cs[32+i]=c at *
    obtain⟨h,hh⟩:=zlf sp c hl hc
    have sr:zaz [spL sp,spL sp]=some (.bl true):=zex (fun x:Spn=>[x.1,x.2.1,x.2.2]) sp (by omega) (fun _ _=>by simp)
    have bl:zg9 [spL sp]=some (sp.map sD):=rfl
    have fw:Few (sp.map sD).length:=few (by rw[List.length_map];omega)
    have hlen:(((rts sp).map D.int).length:Int)=hrOf sp:=by rw[List.length_map,hrl,hhr];omega
    by_cases q:0<=h/\h<=hrOf sp
    ·have an:=znr q.1 q.2 hb'
     have sm:=zi0 (zb3 h sp)
     obtain⟨y,ey⟩:∃y:Nat,h=(y:Int):=⟨h.toNat,by omega⟩
     have ct:=ziy ((rts sp).map D.int) y (by omega)
     rw[← ey,← List.map_take] at ct
     have bs:bSum [.lst (((rts sp).take y).map D.int)]=some (.int (zb3 h sp)):=by
      rw[zf4 sp 0 h hc q.1,show(h-0).toNat=y by omega]
      have:=zno (fun x:Int=>x) ((rts sp).take y)
      rw[List.map_id'] at this
      exact this
     have q1:=q.1
     have q2:h<=(((rts sp).map D.int).length:Int):=by omega
     refine⟨[some (.sh (.lst (ns.map D.int))),some (.sh (.lst (cs.map D.int))),some (.sh (spL sp)),some (.sh (.lst ((rts sp).map D.int))),v4,some (.sh (.int (0+(i:Int)))),some (.sh (.int h)),some (.sh (.int (zb3 h sp))),some (.sh (spL sp))],?_,_,_,_,_,rfl⟩
     unfold spL at *
     generalize sp.map sD=SL at *
     generalize ((rts sp).take y).map D.int=TL at *
     generalize (rts sp).map D.int=RL at *
     generalize cs.map D.int=CL at *
     simp only[zd9,sSeq,sSet,zar,zad,fNil,fVar,fIxV,ixSl,fBin,fC,za1,List.getElem?_cons_zero,List.getElem?_cons_succ,Option.bind_some,Option.map_some,List.set_cons_zero,List.set_cons_succ,ai,hh,fTup,List.length_cons,List.length_nil,show 0+1+1<=64 by decide,if_true,sIf,fAnd,fTst,za8,dLe,q1,q2,decide_true,fLst,fSl,fO0,fO1,ct,bs,zau,bl,fOr,fNot,an,sm,sr,Bool.not_true,Bool.false_eq_true,if_false,sNil]
    ·have an:=zo0 (sp:=sp) (h:=h) (by omega)
     have sm:=zi1
     have cd:(fAnd (fTst (fBin dLe (fC (.int 0)) (fVar 6))) (fTst (fBin dLe (fVar 6) (za8 3)))) [some (.sh (.lst (ns.map D.int))),some (.sh (.lst (cs.map D.int))),some (.sh (spL sp)),some (.sh (.lst ((rts sp).map D.int))),v4,some (.sh (.int (0+(i:Int)))),some (.sh (.int h)),some (.sh (.tup [.str "refused",.str "not gone"])),w8]=some (false,[some (.sh (.lst (ns.map D.int))),some (.sh (.lst (cs.map D.int))),some (.sh (spL sp)),some (.sh (.lst ((rts sp).map D.int))),v4,some (.sh (.int (0+(i:Int)))),some (.sh (.int h)),some (.sh (.tup [.str "refused",.str "not gone"])),w8]):=by
      generalize (rts sp).map D.int=RL at *
      by_cases q1:0<=h
      ·have q2:¬h<=(RL.length:Int):=by omega
       simp only[fAnd,fTst,fBin,fC,fVar,za8,List.getElem?_cons_zero,List.getElem?_cons_succ,Option.bind_some,Option.map_some,dLe,q1,q2,decide_true,decide_false,if_true]
      ·simp only[fAnd,fTst,fBin,fC,fVar,List.getElem?_cons_zero,List.getElem?_cons_succ,Option.bind_some,Option.map_some,dLe,q1,decide_false,Bool.false_eq_true,if_false]
     refine⟨[some (.sh (.lst (ns.map D.int))),some (.sh (.lst (cs.map D.int))),some (.sh (spL sp)),some (.sh (.lst ((rts sp).map D.int))),v4,some (.sh (.int (0+(i:Int)))),some (.sh (.int h)),some (.sh (.tup [.str "refused",.str "not gone"])),some (.sh (spL sp))],?_,_,_,_,_,rfl⟩
     unfold spL at *
     generalize sp.map sD=SL at *
     generalize (rts sp).map D.int=RL at *
     generalize cs.map D.int=CL at *
     simp only[zd9,sSeq,sSet,zar,zad,fNil,fVar,fIxV,ixSl,fBin,fC,za1,List.getElem?_cons_zero,List.getElem?_cons_succ,Option.bind_some,Option.map_some,List.set_cons_zero,List.set_cons_succ,ai,hh,fTup,List.length_cons,List.length_nil,show 0+1+1<=64 by decide,if_true,sIf,cd,Bool.false_eq_true,if_false,sNil,fLst,zau,bl,fOr,fNot,fTst,an,sm,sr,Bool.not_true])
 have h4:iR1 [.int 4]=some (rngD 0 4):=zdd 4 (by decide)
 suffices hz:∃e',zld [some (.sh (.lst (ns.map D.int))),none,none,none,none,none,none,none,none]=some (.rt (.bl true),e') from let ⟨_,hz⟩:=hz;zbt rfl hz
 have hf:forL 4 zd8 (sp.map sD) _=_:=hf
 unfold spL at *
 generalize rngD 0 4=R4 at *
 generalize sp.map sD=SL at *
 generalize (rts sp).map D.int=RL at *
 generalize cs.map D.int=CL at *
 simp only[zld,sSeq,sSet,zar,zad,fVar,fC,fNil,List.getElem?_cons_zero,List.getElem?_cons_succ,Option.bind_some,Option.map_some,List.set_cons_zero,List.set_cons_succ,hd,hr,fLst,zax,List.length_nil,Nat.zero_le,if_true,sFor,fiS,hf,zau,h4,hg,sRet]
 exact⟨_,rfl⟩
end S_rotstacks_k17_lost_by
end
open PySem PySem.W PyProof.Rows
local macro_rules | `(tactic| walk_at "df") => `(tactic| (refine' L2.def_mk (by assumption) (by assumption) ?a ?l ?c ?k ?b; (case a => k_is); (case l => k_is); (case c => k_is); (case k => k_is); (case b => first | (exact fun us hl => match us, hl with | [_], _ => rfl) | (exact fun us hl => match us, hl with | [_, _], _ => rfl) | (exact fun us hl => match us, hl with | [_, _, _], _ => rfl) | (exact fun us hl => match us, hl with | [_, _, _, _], _ => rfl) | (exact fun us hl => match us, hl with | [_, _, _, _, _], _ => rfl))))
theorem PySem.Challenge.cw_rotstacks_k17_lost_by_holds : PySem.Challenge.rw_rotstacks_k17_lost_by.Holds := by
 refine headO ?_
 k_fill
 refine L2.walkD (k:=4) (s:="_law_script") (l:=PySem.Challenge.rw_rotstacks_k17_lost_by) ⟨rfl,by decide,by decide⟩ rfl rfl (fun w h Y=>PySem.W.kIn_of Y) ?F
 case F =>
  intro w mg fa h KX G hmg
  refine' L2.law_mk KX G hmg ?a ?l ?c ?k ?b (S_rotstacks_k17_lost_by.ok_all ?hT16 ?hT17 ?hT19 ?hT20 ?hT21 ?hT22 ?hT23 ?hT24 ?hT25 ?hT26 ?hT27 ?hT28 ?hx_NotGone ?hkf ?hb_ValueError ?hb_bool ?hb_int ?hb_isinstance ?hb_len ?hb_list ?hb_min ?hb_range ?hb_str ?hb_sum ?hb_tuple) S_rotstacks_k17_lost_by.good
  (case a=>k_is)
  (case l=>k_is)
  (case c=>k_is)
  (case k=>k_is)
  (case b=>exact fun v=>rfl)
  (case hT16=>walk_at "df")
  (case hT17=>walk_at "df")
  (case hT19=>walk_at "df")
  (case hT20=>walk_at "df")
  (case hT21=>walk_at "df")
  (case hT22=>walk_at "df")
  (case hT23=>walk_at "df")
  (case hT24=>walk_at "df")
  (case hT25=>walk_at "df")
  (case hT26=>walk_at "df")
  (case hT27=>walk_at "df")
  (case hT28=>walk_at "df")
  (case hx_NotGone=>refine' L2.exc_mk KX G ?a ?b (by decide +kernel);(case a=>k_is);(case b=>k_exc))
  (case hkf=>exact L2.kf_mk KX G (by kernel_rfl))
  (case hb_ValueError=>exact PySem.W.mg_none_of KX G (by k_is))
  (case hb_bool=>exact PySem.W.mg_none_of KX G (by k_is))
  (case hb_int=>exact PySem.W.mg_none_of KX G (by k_is))
  (case hb_isinstance=>exact PySem.W.mg_none_of KX G (by k_is))
  (case hb_len=>exact PySem.W.mg_none_of KX G (by k_is))
  (case hb_list=>exact PySem.W.mg_none_of KX G (by k_is))
  (case hb_min=>exact PySem.W.mg_none_of KX G (by k_is))
  (case hb_range=>exact PySem.W.mg_none_of KX G (by k_is))
  (case hb_str=>exact PySem.W.mg_none_of KX G (by k_is))
  (case hb_sum=>exact PySem.W.mg_none_of KX G (by k_is))
  (case hb_tuple=>exact PySem.W.mg_none_of KX G (by k_is))

