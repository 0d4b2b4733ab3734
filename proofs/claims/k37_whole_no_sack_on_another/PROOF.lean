import PyProof.Rows.All
import Wide.All
import OpenK.AllK
import Wide.FinOn
import Lean
import PyProof.EqAt
import PyProof.EqKinds
import PyProof.TupleCall
import PyProof.Draws
import PyProof.ZipIter
import PyProof.EnumMake
import PyProof.AttrMissHeap
import KE.KDictOf
import PyProof.Rows.SeqMore2
import PyProof.Rows.SortWalk
import KE.KTryMore
import PyProof.RulesAs
import PyProof.NsDelKeeps
import KE.KIsAll
import PyProof.ExcArgs
import PySem.Challenge.RW_rotstacks_k37_whole_no_sack_on_another
set_option Elab.async false
set_option linter.all false
set_option maxRecDepth 100000
set_option compiler.extract_closed false
set_option bootstrap.genMatcherCode false
local macro_rules | `(command|def $i:declId $s:optDeclSig $v:declVal)=>`(command|noncomputable def $i:declId $s:optDeclSig $v:declVal)
set_option maxHeartbeats 0
def ac:=@Option.bind_some
def ae:=@List.length_map
def af:=@List.getElem?_cons_zero
def ah:=@List.getElem?_cons_succ
def aj:=@List.length_append
def ak:=@List.getElem?_eq_getElem
def am:=@List.getElem?_eq_some_iff
def ao:=@Option.map_some
def aq:=@List.getD_eq_getElem?_getD
def au:=@List.mem_cons_of_mem
def av:=@PySem.Heap.get?_push_of_some
def aw:=@List.length_cons
def ax:=@List.set_cons_zero
def ay:=@List.set_cons_succ
def az:=@List.getElem?_map
def bc:=@List.mem_of_getElem?
def bf:=@List.getElem?_append_left
def bg:=@List.map_cons
def bh:=@Option.some.inj
def bi:=@List.map_append
def bj:=@List.mem_cons_self
def bn:=@List.mem_append_right
def bo:=@Nat.le_refl
def bq:=@Nat.lt_of_lt_of_le
def bv:=@Nat.ne_of_lt
def bw:=@PySem.Heap.lt_size
def b6:=@List.size_toArray
def b7:=@List.mem_cons
def b8:=@Nat.le_trans
def b9:=@List.append_assoc
def ce:=@Bool.false_ne_true
def cf:=@List.flatten_cons
def cg:=@List.length_nil
def ci:=@List.getElem?_append_right
def cj:=@List.mem_singleton
def cq:=@List.nodup_cons
def cr:=@List.append_nil
def cx:=@List.mem_map
def cy:=@List.map_nil
def cz:=@List.lookup_cons
def c7:=@List.getElem?_eq_none
def c8:=@PySem.Heap.get?_push_size
def db:=@PySem.Heap.get?_update_other
def dc:=@Bool.false_eq_true
def de:=@List.mem_append
def df:=@Option.bind_eq_some_iff
def dg:=@List.length_singleton
def dh:=@PySem.mem_of_lookup
def di:=@Nat.lt_succ_self
def dq:=@List.sum_cons
def du:=@List.length_set
def dy:=@Nat.zero_le
def dz:=@List.length_take
def d5:=@List.length_drop
def d6:=@List.ext_getElem?
def d7:=@List.getElem?_set_ne
def d9:=@List.pairwise_cons
def ed:=@List.map_map
def em:=@List.flatten_append
def eo:=@List.sublist_flatten_of_mem
def e7:=@List.mem_append_left
def e8:=@PySem.W.kia_one
def fb:=@List.drop_eq_getElem_cons
def fc:=@Nat.lt_succ_of_lt
def ff:=@List.singleton_append
def fj:=@List.mem_filter
def fm:=@PySem.F.plainAttrs_list
def fo:=@List.mem_flatten
def fq:=@Bool.and_eq_true
def ft:=@Nat.lt_irrefl
def fu:=@List.mem_range
def fx:=@List.getElem?_set_self
def fy:=@Int.toNat_natCast
def fz:=@List.length_replicate
def f6:=@PyProof.Rows.callWith_type1
def f7:=@List.getElem_mem
def f9:=@List.filter_append
def gf:=@List.range_succ
def gg:=@List.length_range
def gh:=@PySem.Heap.get?_update_self
def gk:=@List.length_pos_iff
def gl:=@List.getElem_of_mem
def gn:=@List.all_eq_true
def gv:=@Int.mul_le_mul_of_nonneg_right
def ia:=@List.take_append_of_le_length
def ib:=@Int.mul_add
def ic:=@Option.map_eq_some_iff
def ie:=@List.zip_cons_cons
def ig:=@List.take_of_length_le
def ii:=@Int.mul_right_comm
def ij:=@Int.mul_comm
def iq:=@Int.mul_assoc
def ir:=@List.getElem?_set
def iw:=@List.pairwise_append
def iy:=@List.getElem?_zipIdx
def iz:=@Int.add_mul
def i6:=@Nat.ne_of_gt
def i7:=@List.map_set
def i8:=@List.drop_length
def i9:=@Int.zero_add
def ja:=@List.replicate_succ
def jb:=@List.map_congr_left
def jc:=@List.length_flatten
def jd:=@List.getElem?_range
def je:=@Array.length_toList
def jg:=@List.sum_append
def jh:=@List.nil_append
def ji:=@List.find?_cons
def jl:=@List.take_succ_eq_append_getElem
def jp:=@List.takeWhile_append_dropWhile
def js:=@Nat.le_of_not_lt
def jt:=@List.cons_append
def jv:=@PySem.Heap.size_push
def j1:=@Nat.zero_add
def j2:=@Nat.le_of_lt
def j3:=@List.getElem?_concat_length
def j5:=@PySem.W.callWith_K
def j6:=@Array.getElem?_eq_some_iff
def kc:=@Nat.lt_of_succ_le
def ke:=@List.nodup_append
def kf:=@List.Sublist.refl
def kg:=@Bool.not_eq_true'
def ki:=@PySem.W.mg_of
def kj:=@PySem.F.type_list_append
def kl:=@PySem.F.slot_list_append
def km:=@Bool.not_true
def kt:=@List.getElem_map
def ku:=@List.getElem_inj
def kx:=@List.getElem?_replicate
def ky:=@List.filter_cons_of_pos
def kz:=@List.filter_cons_of_neg
def lg:=@Nat.succ.inj
def lh:=@List.takeWhile_sublist
def lj:=@Bool.eq_iff_iff
def lq:=@List.length_filter_le
def lr:=@List.dropLast_eq_take
def lu:=@List.Perm.append_left
def l7:=@Nat.sub_succ_lt_self
def l8:=@Nat.le_succ
def l9:=@List.take_left
def ma:=@List.mem_iff_getElem
def md:=@List.length_dropLast
def mq:=@PySem.W.plainGet_of
def mr:=@List.filterMap_cons
def m7:=@Nat.lt_of_le_of_lt
def m9:=@List.mem_filterMap
def nt:=@PySem.W.kitx_list
def nv:=@Nat.lt_trans
def nz:=@Nat.le_succ_of_le
def n6:=@List.pairwise_map
def ph:=@List.map_snd_zip
def pi:=@List.filter_cons
def qa:=@List.count_eq_zero_of_not_mem
def qb:=@Int.mul_le_mul_of_nonneg_left
def qx:=@Nat.le_antisymm
def qy:=@List.of_mem_zip
def qz:=@List.length_zip
def q9:=@List.idxOf_cons
def tq:=@Int.mul_lt_mul_of_pos_right
def ua:=@PySem.F.excBase_ValueError
def ub:=@Nat.mul_le_mul
def uc:=@Int.lt_of_mul_lt_mul_right
def ud:=@Int.le_of_mul_le_mul_right
def xv:=@Option.isSome_iff_exists
def xw:=@List.mem_of_elem_eq_true
def xy:=@List.map_drop
def zh:=@PySem.F.slot_list_index
abbrev c3:=List PySem.Str
abbrev fe:=List PySem.Value
abbrev fg:=Option PySem.Value
abbrev fh:=List PySem.Addr
abbrev f0:=List Nat
abbrev f5:=List Int
abbrev gj:=List PySem.Env
abbrev gp:=List PySem.Expr
abbrev gr:=Option PySem.Str
abbrev gs:=Option Int
abbrev gu:=PySem.W.Frag
abbrev gx:=List (PySem.Addr×PySem.Obj)
abbrev gy:=Array PySem.Value
namespace PySem.W.Fast
def tw6531039851481804648:=0
def tw8763362985707160605:=0
def tw7803279730508470376:=0
def tw18424013207920332442:=0
def tw10063708139341080091:=0
def tw11695338289939695011:=0
def tw2198424039721550075:=0
def tw9730515312287759631:=0
def tw11259471920729424210:=0
def tw1345793373164641390:=0
def tw15831293633207555195:=0
def tw6587007149042686835:=0
def tw4437080809759059605:=0
def tw4687459795218132417:=0
def tw15974327944981590682:=0
def tw3074404603848668348:=0
def tw7062433028394551289:=0
def tw199336248854318364:=0
def tw17388220926716677784:=0
def tw489658428743795868:=0
def tw10843531812203080730:=0
def tw7125147342956862041:=0
def tw13026136331304254567:=0
def tw11457838680292950747:=0
def tw871618039370766144:=0
def tw17806559798037380195:=0
def tw13797762704211429335:=0
def tw15803686785222356702:=0
def tw15732433535119192703:=0
def tw1592825966979909660:=0
def tw3805822162775641158:=0
def tw5141834587752207717:=0
def tw8447859378991008473:=0
def tw7181237599863947838:=0
def tw2678646209641352363:=0
def tw14072604438232420825:=0
def tw8684910251999183264:=0
def tw32442392172473029:=0
def tw6352454420563274955:=0
def tw5685583080274577854:=0
def tw14163884457187909044:=0
def tw2388936564005763016:=0
def tw10971501718340150528:=0
def tw7122239765987411625:=0
def tw14445418872937896079:=0
def tw1199035725556548548:=0
def tw6332842604250591561:=0
def tw7027161504191823226:=0
def tw10184082262108008333:=0
def tw15225300591409608309:=0
def tw16929985832543967965:=0
def tw4432724790468297698:=0
def tw700388651757566146:=0
def tw4895425382642465790:=0
def tw12820195605933434369:=0
def tw5898611799629526299:=0
def tw18167784821210252591:=0
def tw18258044017837031756:=0
def tw17809448620705087777:=0
def tw13276851322064205751:=0
def tw12424787535275049562:=0
def tw10942737918437550684:=0
def tw1595747642052662668:=0
def tw3335433846450449010:=0
def tw13794647287873366575:=0
def tw17211853857445499986:=0
def tw8728325574167029789:=0
def tw13135332854944644959:=0
def tw12340551673284875809:=0
def tw7881732657216084209:=0
def tw14786972923689998084:=0
def tw7772875871448657254:=0
def tw2702439272556505636:=0
def tw587545333870980003:=0
def tw4050732226601590682:=0
def tw15594794917597159775:=0
def tw10580068071292127532:=0
def tw4268622498170725944:=0
def tw894731538882559133:=0
def tw10856881283512005308:=0
def tw11478856704950905501:=0
def tw10986931170350255741:=0
def tw5129834713597648956:=0
def tw4721184679926851813:=0
def tw9805812323308449676:=0
def tw17503975950964354946:=0
def tw7399771249758580916:=0
def tw7991881809022735518:=0
def tw16504554416701825576:=0
def tw10509573546818073268:=0
def tw2620867373401844138:=0
def tw2046811785664083416:=0
def tw7402376978453233549:=0
end PySem.W.Fast
open_top headO for PySem.Challenge.rw_rotstacks_k37_whole_no_sack_on_another
noncomputable section
namespace L2
open PySem PySem.Spec PyProof.Rows
abbrev Key:=Sum Int Str
def vy:Key->Value->Bool
 | .inl k,v=>Value.isInt k v
 | .inr x,v=>Value.isStrOf x v
def keyH(w:World):Key->Int
 | .inl k=>hashInt k
 | .inr x=>hashStr w x
def sv:∀ {k:Key} {v:Value},vy k v=true->(∃i t,k=Sum.inl i/\v=Value.int i t)\/(∃x t,k=Sum.inr x/\v=Value.str x t)
 | .inl i,v,h=>by
   obtain⟨t,e⟩:=Value.isInt_shape (k:=i) (v:=v) h;exact .inl ⟨i,t,rfl,e⟩
 | .inr x,v,h=>by
   obtain⟨t,e⟩:=Value.isStrOf_shape (x:=x) (v:=v) h;exact .inr ⟨x,t,rfl,e⟩
def zsz(i:Int)(t:Tok):vy (.inl i) (.int i t)=true:=by simp[vy,Value.isInt]
def zs0(x:Str)(t:Tok):vy (.inr x) (.str x t)=true:=by simp[vy,Value.isStrOf]
def z1x(a b:Int):decide ((Sum.inl a:Key)=Sum.inl b)=(a==b):=by
 by_cases e:a=b
 ·subst e;simp
 ·have h:¬(Sum.inl a:Key)=Sum.inl b:=λq=>e (Sum.inl.inj q)
  rw[decide_eq_false h];exact(beq_eq_false_iff_ne.mpr e).symm
def z1y(a b:Str):decide ((Sum.inr a:Key)=Sum.inr b)=decide (a=b):=by
 by_cases e:a=b
 ·subst e;simp
 ·have h:¬(Sum.inr a:Key)=Sum.inr b:=λq=>e (Sum.inr.inj q)
  rw[decide_eq_false h,decide_eq_false e]
def z1z(a:Int)(b:Str):decide ((Sum.inl a:Key)=Sum.inr b)=false:=decide_eq_false (λq=>nomatch q)
def z10(a:Str)(b:Int):decide ((Sum.inr a:Key)=Sum.inl b)=false:=decide_eq_false (λq=>nomatch q)
def mx(prog:Program)(w:World):PySem.KeyKind prog w Key where
 is:=vy
 hash:=keyH w
 inj:=λv a b U I=>by
  rcases sv U with⟨i,t,rfl,rfl⟩ | ⟨x,t,rfl,rfl⟩
  ·rcases sv I with⟨j,u,rfl,e⟩ | ⟨y,u,rfl,e⟩
   ·injection e with e1 _;rw[e1]
   ·exact nomatch e
  ·rcases sv I with⟨j,u,rfl,e⟩ | ⟨y,u,rfl,e⟩
   ·exact nomatch e
   ·injection e with e1 _;rw[e1]
 byValue:=λk v h=>by
  rcases sv h with⟨i,t,rfl,rfl⟩ | ⟨x,t,rfl,rfl⟩ <;> rfl
 pyHash:=λD h=>by
  rcases sv D with⟨i,t,rfl,rfl⟩ | ⟨x,t,rfl,rfl⟩
  ·exact wpAny_pyHash_int h
  ·exact wpAny_pyHash_str h
 eqBool:=λV D h=>by
  rcases sv V with⟨i,t,rfl,rfl⟩ | ⟨x,t,rfl,rfl⟩
  ·rcases sv D with⟨j,u,rfl,rfl⟩ | ⟨y,u,rfl,rfl⟩
   ·rw[z1x] at h;exact wpAny_eqBool_int h
   ·rw[z1z] at h;exact SeqAt.EqAt.int_str i t y u _ _ _ _ h
  ·rcases sv D with⟨j,u,rfl,rfl⟩ | ⟨y,u,rfl,rfl⟩
   ·rw[z10] at h;exact SeqAt.EqAt.str_int x t j u _ _ _ _ h
   ·rw[z1y] at h;exact wpAny_eqBool_str h
 «strs»:=λk x t v h=>by
  rcases sv h with⟨i,u,rfl,e⟩ | ⟨y,u,rfl,e⟩
  ·exact nomatch e
  ·injection e with e1 _
   subst e1;cases v <;> rfl
def zj5(prog:Program)(w:World)(i:Int)(t:Tok):(mx prog w).is (.inl i) (.int i t)=true:=zsz i t
def zpa(prog:Program)(w:World)(x:Str)(t:Tok):(mx prog w).is (.inr x) (.str x t)=true:=zs0 x t
inductive V where
 | non | bl (b:Bool) | int (i:Int) | str (x:Str) | byt (b:Array UInt8) | flt (b:UInt64) | ref (a:Addr) | ty (n:String)
 deriving DecidableEq
abbrev g0:=List V
def RelV:V->Value->Prop
 | .non,u=>u=Value.none
 | .bl b,u=>u=Value.bool b
 | .int i,u=>∃t,u=Value.int i t
 | .str x,u=>∃t,u=Value.str x t
 | .byt b,u=>∃t,u=Value.bytes b t
 | .flt b,u=>∃t,u=Value.float b t
 | .ref a,u=>u=Value.ref a
 | .ty n,u=>u=Value.type n
abbrev Vals:g0->fe->Prop:=Paired RelV
def Vals.length{xs:g0}{us:fe}(r:Vals xs us):xs.length=us.length:=Paired.length r
def Vals.get:∀ {xs:g0} {us:fe} {i:Nat} {x:V},Vals xs us->xs[i]?=some x->∃u,us[i]?=some u/\RelV x u
 | _,_,_,_,.nil,e=>by simp at e
 | _,_,0,_,.cons r _,e=>by simp at e;subst e;exact⟨_,rfl,r⟩
 | _,_,i+1,x,.cons _ t,e=>by
   obtain⟨u,h1,h2⟩:=Vals.get (i:=i) (x:=x) t (by simpa using e);exact⟨u,by simpa using h1,h2⟩
def Vals.set{x:V}{u:Value}(r:RelV x u):∀ {xs:g0} {us:fe} (i:Nat),Vals xs us->Vals (xs.set i x) (us.set i u)
 | _,_,_,.nil=>.nil
 | _,_,0,.cons _ t=>.cons r t
 | _,_,i+1,.cons q t=>.cons q (Vals.set r i t)
variable{xs ys:g0}{us:fe}
def Vals.append{ws:fe}(h:Vals xs us)(s:Vals ys ws):Vals (xs++ys) (us++ws):=by
 induction h with
 | nil=>exact s
 | cons r _ q=>exact .cons r q
def Vals.take:∀ {xs:g0} {us:fe} (n:Nat),Vals xs us->Vals (xs.take n) (us.take n)
 | _,_,0,_=>.nil
 | _,_,_+1,.nil=>.nil
 | _,_,n+1,.cons r t=>.cons r (Vals.take n t)
def Vals.drop:∀ {xs:g0} {us:fe} (n:Nat),Vals xs us->Vals (xs.drop n) (us.drop n)
 | _,_,0,r=>r
 | _,_,_+1,.nil=>.nil
 | _,_,n+1,.cons _ t=>Vals.drop n t
def RelO:Option V->fg->Prop
 | some v,some u=>RelV v u
 | none,none=>True
 | _,_=>False
def KV{κ:Type}:List (κ×V)->List (κ×Value)->Prop:=Paired λ(p:κ×V) (q:κ×Value)=>p.1=q.1/\RelV p.2 q.2
def kV:Key->V
 | .inl i=>.int i
 | .inr x=>.str x
inductive HO where
 | lst (xs:g0)
 | tup (xs:g0)
 | dK (kvs:List (Key×V)) | dT (kvs:List (List Key×V))
 | set (S:Int->Bool) (n:Nat)
 | ins (C dx:Addr) (fs:List (Str×V))
 | own (x:Addr)
 | xd (fs:List (Str×V))
 | met (f x:Addr)
 | rng (lo hi:Int)
 | frz (o:Obj) (u:HO)
 | tbl (ps:gy)
 | ext (φ:Heap->Prop)
abbrev Hp:=Addr->Option HO
def upd(H:Hp)(a:Addr)(o:HO):Hp:=λb=>if b=a then some o else H b
variable{H:Hp}{a:Addr}{o:HO}
def li:upd H a o a=some o:=by unfold upd;rw[if_pos rfl]
variable{b:Addr}
def gi(h:b≠a):upd H a o b=H b:=by unfold upd;rw[if_neg h]
def m6(h:H a=some o)(h':H b=none):a≠b:=by
 intro e;subst e;rw[h] at h';cases h'
section
variable (P:Program) (w:World)
def ObjOk(H:Hp)(h:Heap)(a:Addr):HO->Prop
 | .lst xs=>xs.length<=sizeLine/\∃(its:fe) (n:Nat),Vals xs its/\h.get? a=some { cls:=.type "list",data:=.seq its.toArray n }
 | .tup xs=>xs.length<=sizeLine/\∃its:fe,Vals xs its/\IsTup h a its.toArray
 | .dK kvs=>kvs.length<=sizeLine/\(a==sysModules)=false/\∃vs,KV kvs vs/\h.DictOf (mx P w) a vs
 | .dT kvs=>kvs.length<=sizeLine/\(a==sysModules)=false/\∃xs:List (List Key×Addr×Value),
    Paired (λ(p:List Key×V) (q:List Key×Addr×Value)=>p.1=q.1/\H q.2.1=some (.tup (p.1.map kV))/\RelV p.2 q.2.2) kvs xs /\
    ∃o es D,h.get? a=some o/\o.ExactDict/\o.data=.dict es D/\es.toList=xs.map (entryOfKey (tupleKind (mx P w)))/\(xs.map (·.1)).Nodup
 | .set S n=>h.SetOf (intKind P w) a S n
 | .ins C dx fs=>H dx=some (.own a)/\fs.length<=1000/\dx≠a/\h.get? a=some (PySem.W.instObj C dx) /\
    ∃mA,h.Ns1 dx mA/\(∀f,RelO (fs.lookup f) (mA f))/\PySem.Within mA (fs.map (·.1))
 | .own _=>∃o,h.get? a=some o
 | .xd fs=>∃mA,h.Ns1 a mA/\∀f,RelO (fs.lookup f) (mA f)
 | .rng lo hi=>∃t u v,h.get? a=some { cls:=.type "range",data:=.fields #[.int lo t,.int hi u,.int 1 v] }
 | .frz o u=>h.get? a=some o/\ObjOk H h a u
 | .tbl ps=>h.get? a=some { cls:=.none,data:=.fields ps }
 | .met f x=>h.get? a=some (PySem.W.methodObj (.ref f) (.ref x))
 | .ext φ=>φ h/\(∃o,h.get? a=some o)/\∀h1 h2:Heap,φ h1->(∀o,h1.get? a=some o->h2.get? a=some o)->φ h2
def HOk(H:Hp)(h:Heap):Prop:=∀a o,H a=some o->ObjOk P w H h a o
end
variable{P:Program}{w:World}{h:Heap}
def ObjOk.lt(x:ObjOk P w H h a o):a<h.objs.size:=by
 cases o with
 | lst xs=>obtain⟨_,_,_,_,e⟩:=x;exact bw e
 | tup xs=>obtain⟨_,_,_,p⟩:=x;exact p.lt
 | dK kvs=>obtain⟨_,_,_,_,o,_,_,e,_⟩:=x;exact bw e
 | dT kvs=>obtain⟨_,_,_,_,o,_,_,e,_⟩:=x;exact bw e
 | set S n=>obtain⟨o,_,_,_,e,_⟩:=x;exact bw e
 | ins C dx fs=>obtain⟨_,_,_,e,_⟩:=x;exact bw e
 | own y=>obtain⟨_,e⟩:=x;exact bw e
 | xd fs=>obtain⟨_,⟨_,_,_,e,_⟩,_⟩:=x;exact bw e
 | rng lo hi=>obtain⟨_,_,_,e⟩:=x;exact bw e
 | frz ob u=>obtain⟨e,_⟩:=x;exact bw e
 | tbl ps=>exact bw (show h.get? a=some _ from x)
 | met f y=>exact bw (show h.get? a=some _ from x)
 | ext φ=>obtain⟨_,⟨_,e⟩,_⟩:=x;exact bw e
variable{α:Type}
def Paired.mapP{β:Type}{F G:α->β->Prop}{D:List α}{I:List β}(h:Paired F D I)(f:∀a b,F a b->G a b):Paired G D I:=by
 induction h with
 | nil=>exact .nil
 | cons r _ q=>exact .cons (f _ _ r) q
variable{H':Hp}{h':Heap}
def ObjOk.stay(x:ObjOk P w H h a o)(k:∀b u,(b=a\/H b=some (.own a))->h.get? b=some u->h'.get? b=some u)(U:∀b,H b=some (.own a)->H' b=some (.own a))(V:∀b xs,H b=some (.tup xs)->H' b=some (.tup xs)):ObjOk P w H' h' a o:=by
 induction o with
 | lst xs=>obtain⟨z,its,n,r,e⟩:=x;exact⟨z,its,n,r,k _ _ (.inl rfl) e⟩
 | tup xs=>obtain⟨z,its,r,D,e,c⟩:=x;exact⟨z,its,r,D,k _ _ (.inl rfl) e,c⟩
 | dK kvs=>obtain⟨z,y,vs,r,D,es,I,e,c⟩:=x;exact⟨z,y,vs,r,D,es,I,k _ _ (.inl rfl) e,c⟩
 | dT kvs =>
   obtain⟨z,y,xs,r,D,es,I,e,c⟩:=x;exact⟨z,y,xs,Paired.mapP r λp q z=>⟨z.1,V _ _ z.2.1,z.2.2⟩,D,es,I,k _ _ (.inl rfl) e,c⟩
 | set S n=>obtain⟨D,es,I,t,e,c⟩:=x;exact⟨D,es,I,t,k _ _ (.inl rfl) e,c⟩
 | ins C dx fs =>
   obtain⟨d,z,Y,e,mA,⟨od,es,I,Z,c⟩,r⟩:=x;exact⟨U _ d,z,Y,k _ _ (.inl rfl) e,mA,⟨od,es,I,k _ _ (.inr d) Z,c⟩,r⟩
 | own y=>obtain⟨D,e⟩:=x;exact⟨D,k _ _ (.inl rfl) e⟩
 | xd fs=>obtain⟨mA,⟨od,es,I,e,c⟩,r⟩:=x;exact⟨mA,⟨od,es,I,k _ _ (.inl rfl) e,c⟩,r⟩
 | rng lo hi=>obtain⟨t,u,v,e⟩:=x;exact⟨t,u,v,k _ _ (.inl rfl) e⟩
 | frz D u ih=>obtain⟨e,q⟩:=x;exact⟨k _ _ (.inl rfl) e,ih q⟩
 | tbl ps =>
   have e:h.get? a=some { cls:=.none,data:=.fields ps }:=x;show h'.get? a=some { cls:=.none,data:=.fields ps };exact k a _ (.inl rfl) e
 | met f y =>
   have e:h.get? a=some (PySem.W.methodObj (.ref f) (.ref y)):=x;show h'.get? a=some (PySem.W.methodObj (.ref f) (.ref y));exact k a _ (.inl rfl) e
 | ext φ=>obtain⟨p,⟨o,e⟩,st⟩:=x;exact⟨st _ _ p λo q=>k _ _ (.inl rfl) q,⟨o,k _ _ (.inl rfl) e⟩,st⟩
def HOk.lt(x:HOk P w H h)(e:H a=some o):a<h.objs.size:=(x a o e).lt
def HOk.fresh(x:HOk P w H h)(e:h.objs.size<=a):H a=none:=by
 cases q:H a with
 | none=>rfl
 | some u=>exact absurd (bq (x.lt q) e) (ft _)
def HOk.kept(x:HOk P w H h)(k:∀b u,h.get? b=some u->h'.get? b=some u):HOk P w H h':=λa o e =>
 (x a o e).stay (λb u _ q=>k b u q) (λ_ q=>q) λ_ _ q=>q
def HOk.laid(x:HOk P w H h)(k:∀b u,h.get? b=some u->h'.get? b=some u)(U:h.objs.size<=a)(new:ObjOk P w (upd H a o) h' a o):HOk P w (upd H a o) h':=λb u e=>by
 have D:=x.fresh U;by_cases I:b=a
 ·subst I;rw[li] at e;cases e;exact new
 ·rw[gi I] at e
  exact(x b u e).stay (λc v _ q=>k c v q) (λc q=>by rw[gi (m6 q D)];exact q) λc xs q=>by rw[gi (m6 q D)];exact q
def Rd(H:Hp)(a:Addr)(u:HO):Prop:=H a=some u\/∃o,H a=some (.frz o u)
variable{u:Value}
def Rd.ok{u:HO}(r:Rd H a u)(x:HOk P w H h):ObjOk P w H h a u:=by
 rcases r with r | ⟨o,r⟩
 ·exact x a u r
 ·obtain⟨_,q⟩:=x a _ r
  exact q
def Mut:Option HO->Prop
 | some (.lst _)=>True
 | some (.dK _)=>True
 | some (.dT _)=>True
 | some (.set _ _)=>True
 | some (.ins _ _ _)=>True
 | some (.ext _)=>True
 | _=>False
variable{x e:Addr}{o':HO}
def HOk.write(ok:HOk P w H h)(V:Mut (H x))(a:e=x\/H e=some (.own x))(k:∀b u,b≠e->h.get? b=some u->h'.get? b=some u)(Z:∃u,h'.get? e=some u)(new:ObjOk P w (upd H x o') h' x o'):HOk P w (upd H x o') h':=λb u q=>by
 have I:∀c y,H c=some (.own y)->c≠x:=λc y r z=>by subst z;rw[r] at V;exact V
 have U:∀c xs,H c=some (.tup xs)->c≠x:=λc xs r z=>by subst z;rw[r] at V;exact V
 by_cases Y:b=x
 ·subst Y;rw[li] at q;cases q;exact new
 ·rw[gi Y] at q
  by_cases D:b=e
  ·have d:H b=some (.own x):=by
    rcases a with z | z
    ·exact absurd (D.trans z) Y
    ·rw[D];exact z
   rw[q] at d;cases d;obtain⟨v,f⟩:=Z;exact⟨v,by rw[D];exact f⟩
  ·refine(ok b u q).stay (λc v hc r=>k c v ?_ r) (λc r=>by rw[gi (I c b r)];exact r) λc xs r=>by rw[gi (U c xs r)];exact r
   rcases hc with rfl | hc
   ·exact D
   ·rintro rfl
    rcases a with z | z
    ·exact I c b hc z
    ·rw[hc] at z;cases z;exact Y rfl
structure Un (fs ex:fh) (H H':Hp) (h h':Heap):Prop where
 keep:∀b o,h.get? b=some o->H b=none->b∉fs->b∉ex->h'.get? b=some o
 slot:∀b o,h.get? b=some o->H b=none->b∈fs->b∉ex->∃sl,h'.get? b=some { o with slots:=sl }
 free:∀b o,h.get? b=some o->H b=none->b∉ex->H' b=none
 there:∀b o,h.get? b=some o->b∉ex->∃o',h'.get? b=some o'
 tups:∀b xs,H b=some (.tup xs)->H' b=some (.tup xs)
 frzs:∀b o u,H b=some (.frz o u)->H' b=some (.frz o u)
 tbls:∀b ps,H b=some (.tbl ps)->∃more,H' b=some (.tbl (ps++more))
variable{fs ex:fh}{H1:Hp}{h1:Heap}
def Un.any(u:Un fs ex H H1 h h1){D:Obj}(q:h.get? b=some D)(n:H b=none)(I:b∉ex):∃sl,h1.get? b=some { D with slots:=sl }:=by
 by_cases U:b∈fs
 ·exact u.slot b D q n U I
 ·exact⟨D.slots,u.keep b D q n U I⟩
def Un.kept(k:∀b u,h.get? b=some u->h'.get? b=some u):Un fs ex H H h h' :=
 ⟨λb D q _ _ _=>k b D q,λb D q _ _ _=>⟨D.slots,k b D q⟩,λ_ _ _ n _=>n,λb D q _=>⟨D,k b D q⟩,λ_ _ q=>q,λ_ _ _ q=>q,λ_ ps q=>⟨#[],by rw[q];simp⟩⟩
def Un.refl:Un fs ex H H h h:=Un.kept λ_ _ q=>q
def Un.laid(k:∀b u,h.get? b=some u->h'.get? b=some u)(I:h.objs.size<=a)(D:H a=none):Un fs ex H (upd H a o) h h' where
 keep:=λb u q _ _ _=>k b u q
 slot:=λb u q _ _ _=>⟨u.slots,k b u q⟩
 free:=λb u q n _=>by rw[gi (bv (bq (bw q) I))];exact n
 there:=λb u q _=>⟨u,k b u q⟩
 tups:=λb xs q=>by rw[gi (m6 q D)];exact q
 frzs:=λb u xs q=>by rw[gi (m6 q D)];exact q
 tbls:=λb ps q=>⟨#[],by rw[gi (m6 q D),q];simp⟩
def Un.write(I:Mut (H x))(a:e=x\/H e=some (.own x))(k:∀b u,b≠e->h.get? b=some u->h'.get? b=some u)(U:∃u,h'.get? e=some u):Un fs ex H (upd H x o) h h':=by
 have Y:∀b,H b=none->b≠x:=λb n z=>by subst z;rw[n] at I;exact I
 have Z:∀b,H b=none->b≠e:=λb n z=>by
  subst z;rcases a with r | r
  ·exact Y b n r
  ·rw[n] at r;cases r
 have V:∀b u,H b=some u->¬Mut (some u)->b≠x:=λb u q nm z=>by subst z;rw[q] at I;exact nm I
 refine⟨λb u q n _ _=>k b u (Z b n) q,λb u q n _ _=>⟨u.slots,k b u (Z b n) q⟩,λb u q n _=>by rw[gi (Y b n)];exact n,λb u q _=>?_,
  λb xs q=>by rw[gi (V b _ q λz=>z)];exact q,λb u xs q=>by rw[gi (V b _ q λz=>z)];exact q,λb ps q=>⟨#[],by rw[gi (V b _ q λz=>z),q];simp⟩⟩
 by_cases D:b=e
 ·subst D;exact U
 ·exact⟨u,k b u D q⟩
def trk(h:Heap)(H:Hp):fh:=(List.range h.objs.size).filter λa=>(H a).isSome
def hidT(h:Heap)(H:Hp):Heap:=PySem.W.hideAll h (trk h H)
def zs1(h:Heap)(H:Hp):(hidT h H).objs.size=h.objs.size:=PySem.W.hideAll_size _ _
variable{o:Obj}
def zv3(e:h.get? b=some o)(n:H b=none):(hidT h H).get? b=some o :=
 PySem.W.hideAll_get _ e λD=>by
  have q:(H b).isSome=true:=(fj.mp D).2;rw[n] at q;simp at q
def zzg(e:(hidT h H).get? b=some o):h.get? b=some o/\H b=none:=by
 have e':h.get? b=some o:=PySem.W.of_hideAll (trk h H) e;refine⟨e',?_⟩;cases q:H b with
 | none=>rfl
 | some x =>
   have D:b∈trk h H:=fj.mpr ⟨fu.mpr (bw e'),by simp[q]⟩;have z:(hidT h H).get? b=none:=PySem.W.hideAll_none (trk h H) D;rw[z] at e;cases e
def zzh(g h:Heap)(L:Addr):gx:=(List.range h.objs.size).filterMap λa=>if a=L\/(g.get? a).isSome=true then none else(h.get? a).map λo=>(a,o)
def rest(g h:Heap)(L d:Addr):gx:=(zzh g h L).filter λp=>decide (p.1≠d)
structure Mod (K:gu) (mg:Str->fg) (base:Heap):Prop where
 kin:K.In base
 glob:base.Ns mainGlobals mg
 blt:∃mb,base.Ns builtinsNs mb/\∀x:Str,x ≠ "__name__"->mb x=bootBuiltins x
 nolimit:base.NoLimit
structure Cx where
 prog:Program
 w:World
 K:gu
 mg:Str->fg
 base:Heap
 A:Around
 N:c3
 s₀:Shared
 H₀:Hp
 env:Env
 outer:gj
 stack:gj
 ex:fh
 fn:Str->Bool
 calm:Bool
 pn:gx
 xe:Value->Shared->Prop
def frs(l:gj):fh:=l.filterMap (·.frame)
protected abbrev Cx.fs(X:Cx):fh:=frs X.outer
def Vis(sc:Scope)(x:Str):Prop:=sc.names.lookup x=some .local\/sc.names.lookup x=some .cell\/sc.names.lookup x=some .free
def Loc(sc:Scope)(x:Str):Prop:=sc.names.lookup x=some .local\/sc.names.lookup x=some .cell
def Look(env:Env)(h:Heap)(m:Str->fg)(x:Str)(u:Value):Prop :=
 (env.kindOf x=some .local/\m x=some u)\/((env.kindOf x=some .cell\/env.kindOf x=some .free)/\∃c,env.cells.lookup x=some c/\h.IsCell c (some u))
structure Cx.Ok (X:Cx):Prop where
 mod:Mod X.K X.mg X.base
 kind:X.env.scope.kind=.function
 glob:X.env.globals=mainGlobals
 blt:X.env.builtins=builtinsNs
 above:X.s₀.heap.objs.size<=X.env.locals
 inj:∀x y c,X.env.cells.lookup x=some c->X.env.cells.lookup y=some c->x=y
 has:∀x,(X.env.kindOf x=some .cell\/X.env.kindOf x=some .free)->∃c,X.env.cells.lookup x=some c
 cab:∀x c,X.fn x=true->X.env.cells.lookup x=some c->X.s₀.heap.objs.size<=c
 hd:X.calm=true->X.A.handled=none
 frames:X.A.frames=some X.stack
 stk:X.stack=X.outer\/(X.stack=X.env::X.outer/\X.env.frame=some X.env.locals)
 exf:∀b∈X.ex,b≠X.env.locals/\∀x c,X.env.cells.lookup x=some c->c≠b
 bs:∀b o,X.base.get? b=some o->X.s₀.heap.get? b=some o/\X.H₀ b=none
 bsz:X.base.objs.size<=X.s₀.heap.objs.size
 noex:∀b o,X.base.get? b=some o->b∉X.ex
 exfs:∀b∈X.ex,b∉X.fs
 funs:X.s₀.heap.FunFrames X.base X.outer
 frf:∀b∈X.fs,X.H₀ b=none
structure Inv (X:Cx) (pins:gx) (σ:List (Option V)) (H:Hp) (s:Shared):Prop where
 ok:X.Ok
 os:s.os=X.s₀.os
 bare:AllBare s.gens
 base:Un X.fs X.ex X.H₀ H X.s₀.heap s.heap
 loc:∃m,s.heap.Ns X.env.locals m/\∀(i:Nat) (x:Str) (v:V),X.N[i]?=some x->σ[i]?=some (some v)->Vis X.env.scope x->∃u,RelV v u/\Look X.env s.heap m x u
 cell:∀x c,X.env.cells.lookup x=some c->∃v,s.heap.IsCell c v
 free:H X.env.locals=none
 freeC:∀x c,X.env.cells.lookup x=some c->H c=none
 pin:∀p∈X.pn++pins,s.heap.get? p.1=some p.2/\H p.1=none/\p.1≠X.env.locals/\p.1∉X.fs/\∀v,p.2.data≠.cell v
 hok:HOk X.prog X.w H s.heap
 len:σ.length=X.N.length
variable{X:Cx}
def Cx.Ok.nofr(ok:X.Ok)(e:X.base.get? b=some o):b∉X.fs:=λD=>by
 have:=(ok.funs.mem D).1;rw[e] at this;cases this
variable{pins:gx}{σ:List (Option V)}{s:Shared}
def Inv.bs(I:Inv X pins σ H s):∀b o,X.base.get? b=some o->s.heap.get? b=some o/\H b=none:=λb o e =>
 ⟨I.base.keep b o (I.ok.bs b o e).1 (I.ok.bs b o e).2 (I.ok.nofr e) (I.ok.noex b o e),I.base.free b o (I.ok.bs b o e).1 (I.ok.bs b o e).2 (I.ok.noex b o e)⟩
def Inv.bk(I:Inv X pins σ H s):∀b o,X.base.get? b=some o->s.heap.get? b=some o:=λb o e=>(I.bs b o e).1
def Inv.mod(I:Inv X pins σ H s):Mod X.K X.mg X.base:=I.ok.mod
def Inv.kIn(I:Inv X pins σ H s):X.K.In s.heap:=I.ok.mod.kin.keeps I.bk
def Inv.lt(I:Inv X pins σ H s):X.env.locals<s.heap.objs.size:=let ⟨_,D,_⟩:=I.loc;D.lt
def Inv.sz(I:Inv X pins σ H s):X.s₀.heap.objs.size<=s.heap.objs.size:=b8 I.ok.above (j2 I.lt)
def Inv.nofs(I:Inv X pins σ H s)(h:s.heap.objs.size<=a):a∉X.fs:=λD=>by
 obtain⟨_,o,U,_⟩:=I.ok.funs.mem D;exact absurd (bq (bw U) (b8 I.sz h)) (ft _)
def Inv.cne(I:Inv X pins σ H s):∀x c,X.env.cells.lookup x=some c->c≠X.env.locals:=λx c e z=>by
 obtain⟨v,o,V,hd⟩:=I.cell x c e;obtain⟨m,⟨o',es,Y,D,U,_⟩,_⟩:=I.loc;rw[z,D] at V;cases V;rw[U] at hd;cases hd
def Inv.funs(I:Inv X pins σ H s):s.heap.FunFrames X.base X.outer:=by
 have all:∀(l:gj),(∀b∈frs l,b∈X.fs)->X.s₀.heap.FunFrames X.base l->s.heap.FunFrames X.base l:=by
  intro l;induction l with
  | nil=>intro _ _;trivial
  | cons env r ih =>
    intro Y Z;obtain⟨a,⟨L,o,D,c,d,hd⟩,f⟩:=Z;have U:L∈X.fs:=Y L (by unfold frs;rw[mr,D];exact bj);obtain⟨sl,e⟩:=I.base.slot L o d (I.ok.frf L U) U λz=>I.ok.exfs L z U;exact⟨a,⟨L,_,D,c,e,hd⟩,ih (λb V=>Y b (by unfold frs;rw[mr,D];exact au _ V)) f⟩
 exact all X.outer (λ_ V=>V) I.ok.funs
def Inv.stack(I:Inv X pins σ H s):s.heap.FunFrames X.base X.stack:=by
 rcases I.ok.stk with e | ⟨e,hf⟩
 ·rw[e];exact I.funs
 ·rw[e]
  obtain⟨m,D,_⟩:=I.loc;refine .cons (by rw[I.ok.kind];decide) hf D ?_ I.funs;exact Heap.get?_none_of_le (b8 I.ok.bsz I.ok.above)
def Inv.stkSub(I:Inv X pins σ H s):∀b∈frs X.stack,b∈X.env.locals::X.fs:=λb D=>by
 rcases I.ok.stk with e | ⟨e,hf⟩
 ·rw[e] at D;exact au _ D
 ·rw[e] at D
  unfold frs at D;rw[mr,hf] at D;exact D
def Inv.stkFree(I:Inv X pins σ H s):∀b∈frs X.stack,H b=none:=λb hb=>by
 rcases b7.mp (I.stkSub b hb) with e | hb
 ·rw[e];exact I.free
 ·obtain⟨_,o,D,_⟩:=I.ok.funs.mem hb
  exact I.base.free b o D (I.ok.frf b hb) λz=>I.ok.exfs b z hb
variable{g':Array GenState}{t':Nat}{d':Drawn}{ch:fh}
def Inv.step(I:Inv X pins σ H s)(U:∀b∈ch,(b∈X.ex\/X.s₀.heap.objs.size<=b)/\b≠X.env.locals/\(∀x c,X.env.cells.lookup x=some c->c≠b)/\∀p∈X.pn++pins,p.1≠b)(keep:∀b o,b≠X.env.locals->b∉X.fs->b∉ch->s.heap.get? b=some o->H b=none->h'.get? b=some o)(f:∀b o,b≠X.env.locals->b∈X.fs->b∉ch->s.heap.get? b=some o->H b=none->∃sl,h'.get? b=some { o with slots:=sl })(free:∀b o,b∉ch->s.heap.get? b=some o->H b=none->H' b=none)(g:∀b o,b∉ch->s.heap.get? b=some o->∃o',h'.get? b=some o')(t:∀b xs,H b=some (.tup xs)->H' b=some (.tup xs))(y:∀b o u,H b=some (.frz o u)->H' b=some (.frz o u))(A:∀b ps,H b=some (.tbl ps)->∃more,H' b=some (.tbl (ps++more)))(ns:∀m,s.heap.Ns X.env.locals m->h'.Ns X.env.locals m)(E:HOk X.prog X.w H' h')(M:AllBare g') :
  Inv X pins σ H' { s with heap:=h',gens:=g',drawn:=d',toks:=t' }:=by
 have B:∀b o,X.s₀.heap.get? b=some o->b≠X.env.locals:=λb o e=>bv (bq (bw e) I.ok.above);have Z:∀b o,X.s₀.heap.get? b=some o->b∉X.ex->b∉ch:=λb o e D h=>by
  rcases(U b h).1 with z | z
  ·exact D z
  ·exact absurd (bq (bw e) z) (ft _)
 have V:∀x c,X.env.cells.lookup x=some c->∀v,s.heap.IsCell c v->h'.IsCell c v:=λx c e v N=>by
  obtain⟨o,j,hd⟩:=N;have Y:c∉ch:=λz=>(U c z).2.2.1 x c e rfl;by_cases G:c∈X.fs
  ·obtain⟨sl,q⟩:=f c o (I.cne x c e) G Y j (I.freeC x c e)
   exact⟨_,q,hd⟩
  ·exact⟨o,keep c o (I.cne x c e) G Y j (I.freeC x c e),hd⟩
 refine⟨I.ok,I.os,M,⟨λb o e n h D=>?_,λb o e n h D=>?_,λb o e n D=>?_,λb o e D=>?_,λb xs e=>t b xs (I.base.tups b xs e),λb o xs e=>y b o xs (I.base.frzs b o xs e),λb ps e=>?_⟩,?_,λx c e=>?_,?_,λx c e=>?_,λp J=>?_,E,I.len⟩
 ·exact keep b o (B b o e) h (Z b o e D) (I.base.keep b o e n h D) (I.base.free b o e n D)
 ·obtain⟨sl,a⟩:=I.base.slot b o e n h D
  obtain⟨F,C⟩:=f b _ (B b o e) h (Z b o e D) a (I.base.free b o e n D);exact⟨F,C⟩
 ·obtain⟨o',a⟩:=I.base.there b o e D
  exact free b o' (Z b o e D) a (I.base.free b o e n D)
 ·obtain⟨o',a⟩:=I.base.there b o e D
  exact g b o' (Z b o e D) a
 ·obtain⟨O,a⟩:=I.base.tbls b ps e
  obtain⟨P,C⟩:=A b _ a;exact⟨O++P,by rw[C,Array.append_assoc]⟩
 ·obtain⟨m,Q,R⟩:=I.loc
  refine⟨m,ns m Q,λi x v a C S=>?_⟩;obtain⟨u,r,l⟩:=R i x v a C S;refine⟨u,r,?_⟩;rcases l with l | ⟨k,c,e,z⟩
  ·exact .inl l
  ·exact .inr ⟨k,c,e,V x c e _ z⟩
 ·obtain⟨v,z⟩:=I.cell x c e
  exact⟨v,V x c e v z⟩
 ·obtain⟨m,⟨o,_,_,j,_⟩,_⟩:=I.loc
  exact free _ o (λz=>(U _ z).2.1 rfl) j I.free
 ·obtain⟨v,o,j,hd⟩:=I.cell x c e
  exact free c o (λz=>(U c z).2.2.1 x c e rfl) j (I.freeC x c e)
 ·obtain⟨e,n,K,L,d⟩:=I.pin p J
  have Y:p.1∉ch:=λz=>(U p.1 z).2.2.2 p J rfl;exact⟨keep p.1 p.2 K L Y e n,free p.1 p.2 Y e n,K,L,d⟩
def Inv.un(I:Inv X pins σ H s)(u:Un X.fs [] H H' s.heap h')(U:HOk X.prog X.w H' h'):Inv X pins σ H' { s with heap:=h',toks:=t' }:=by
 obtain⟨m,⟨o,es,g,a,r⟩,_⟩:=id I.loc;obtain⟨sl,c⟩:=u.any a I.free (by simp);exact I.step (g':=s.gens) (d':=s.drawn) (ch:=[]) (λ_ z=>nomatch z) (λb o _ V _ e n=>u.keep b o e n V (by simp)) (λb o _ V _ e n=>u.slot b o e n V (by simp)) (λb o _ e n=>u.free b o e n (by simp)) (λb o _ e=>u.there b o e (by simp)) u.tups u.frzs u.tbls (λh d=>by
  obtain⟨o',Y,Z,D,f⟩:=d;rw[a] at D;cases D;exact⟨_,Y,Z,c,f⟩) U I.bare
def Inv.call(I:Inv X pins σ H s)(u:Un (frs X.stack) ch H H' s.heap h')(Y:HOk X.prog X.w H' h')(g:AllBare g')(U:∀b∈ch,(b∈X.ex\/X.s₀.heap.objs.size<=b)/\b≠X.env.locals/\(∀x c,X.env.cells.lookup x=some c->c≠b)/\∀p∈X.pn++pins,p.1≠b) :
  Inv X pins σ H' { s with heap:=h',gens:=g',drawn:=d',toks:=t' }:=by
 obtain⟨m,⟨o,es,k,f,r⟩,_⟩:=id I.loc;obtain⟨sl,Z⟩:=u.any f I.free λz=>(U _ z).2.1 rfl;exact I.step (ch:=ch) U (λb o Z h D e n=>u.keep b o e n (λz=>(b7.mp (I.stkSub b z)).elim Z h) D) (λb o _ _ D e n=>u.any e n D) (λb o D e n=>u.free b o e n D) (λb o D e=>u.there b o e D) u.tups u.frzs u.tbls (λl i=>by
  obtain⟨o',a,d,V,j⟩:=i;rw[f] at V;cases V;exact⟨_,a,d,Z,j⟩) Y g
variable{it:Addr}
def Inv.turned(I:Inv X pins σ H s)(k:∀b o,b≠it->s.heap.get? b=some o->h'.get? b=some o)(Y:H it=none)(V:it≠X.env.locals)(h1:it∈X.ex\/X.s₀.heap.objs.size<=it)(h2:∀x c,X.env.cells.lookup x=some c->c≠it)(Z:∀p∈X.pn++pins,p.1≠it):Inv X pins σ H { s with heap:=h',toks:=t' }:=by
 have U:∀b u,H b=some u->b≠it:=λb u e z=>by rw[z,Y] at e;cases e
 refine I.step (g':=s.gens) (d':=s.drawn) (ch:=[it]) (λb a=>?_) (λb o _ _ D e _=>k b o (λz=>D (by simp[z])) e) (λb o _ _ D e _=>⟨o.slots,k b o (λz=>D (by simp[z])) e⟩) (λ_ _ _ _ n=>n)
  (λb o D e=>⟨o,k b o (λz=>D (by simp[z])) e⟩) (λ_ _ e=>e) (λ_ _ _ e=>e) (λb ps e=>⟨#[],by rw[e];simp⟩) (λm d=>?_) (λb u e=>?_) I.bare
 ·have e:b=it:=by simpa using a
  subst e;exact⟨h1,V,h2,Z⟩
 ·obtain⟨o,es,f,g,r⟩:=d
  exact⟨o,es,f,k _ o (Ne.symm V) g,r⟩
 ·refine(I.hok b u e).stay (λc v D q=>k c v ?_ q) (λ_ q=>q) λ_ _ q=>q
  rcases D with z | z
  ·rw[z];exact U b u e
  ·exact U c _ z
def Inv.tok(I:Inv X pins σ H s)(t:Nat):Inv X pins σ H { s with toks:=t }:=I.un (h':=s.heap) (t':=t) Un.refl I.hok
def Inv.kept{t':Nat}(I:Inv X pins σ H s)(k:∀b u,s.heap.get? b=some u->h'.get? b=some u):Inv X pins σ H { s with heap:=h',toks:=t' }:=I.un (Un.kept k) (I.hok.kept k)
def Inv.laid{a:Addr}{o:HO}{t':Nat}(I:Inv X pins σ H s)(k:∀b u,s.heap.get? b=some u->h'.get? b=some u)(D:s.heap.objs.size<=a)(new:ObjOk X.prog X.w (upd H a o) h' a o) :
  Inv X pins σ (upd H a o) { s with heap:=h',toks:=t' }:=I.un (Un.laid k D (I.hok.fresh D)) (I.hok.laid k D new)
def Inv.write{x e:Addr}{o:HO}{t':Nat}(I:Inv X pins σ H s)(U:Mut (H x))(V:e=x\/H e=some (.own x))(k:∀b u,b≠e->s.heap.get? b=some u->h'.get? b=some u)(D:∃u,h'.get? e=some u)(new:ObjOk X.prog X.w (upd H x o) h' x o):Inv X pins σ (upd H x o) { s with heap:=h',toks:=t' }:=I.un (Un.write U V k D) (I.hok.write U V k D new)
def Inv.pins_of{D:gx}(I:Inv X pins σ H s)(h:∀p∈D,s.heap.get? p.1=some p.2/\H p.1=none/\p.1≠X.env.locals/\p.1∉X.fs/\∀v,p.2.data≠.cell v):Inv X D σ H s :=
 ⟨I.ok,I.os,I.bare,I.base,I.loc,I.cell,I.free,I.freeC,λp U=>(de.mp U).elim (λz=>I.pin p (e7 _ z)) (h p),I.hok,I.len⟩
variable{x:Str}{N:c3}{i:Nat}{j:Int}
def zqe(D:N.Nodup){j:Nat}(a:N[i]?=some x)(b:N[j]?=some x):i=j:=by
 obtain⟨h1,I⟩:=am.mp a;obtain⟨h2,U⟩:=am.mp b;exact(ku D).mp (I.trans U.symm)
variable{M:Model}{A:Around}{E:Value->Shared->Prop}{v:V}{Q:Unit->Shared->Prop}
def znl(I:Inv X pins σ H s)(hN:X.N.Nodup)(hi:X.N[i]?=some x)(Y:Loc X.env.scope x)(r:RelV v u)(h:∀s',Inv X pins (σ.set i (some v)) H s'->(∃a,Heap.SameBut a s.heap s'.heap/\(a=X.env.locals\/X.env.cells.lookup x=some a))->Q () s')(hf:X.fn x=true\/X.env.scope.names.lookup x=some .local:=by first | exact .inl rfl | exact .inr rfl | assumption):wpAny M A (storeName X.env x u) Q E s:=by
 obtain⟨m,R,hl⟩:=id I.loc;have C:(X.env.scope.kind==.class || (X.env.scope.kind==.module && X.env.locals != X.env.globals))=false:=by rw[I.ok.kind];rfl
 have g:i<σ.length:=by rw[I.len];exact(am.mp hi).1
 have cne:=I.cne;have U:∀ {a:Addr} {h':Heap},(∃o,s.heap.get? a=some o/\H a=none)->Heap.SameBut a s.heap h'->HOk X.prog X.w H h':=λ{a h'} ha D b ob e=>by
  obtain⟨_,_,Z⟩:=ha;refine(I.hok b ob e).stay (λc L hc q=>(D.2 c ?_).trans q) (λ_ q=>q) λ_ _ q=>q;rintro rfl;rcases hc with rfl | hc
  ·rw[Z] at e;cases e
  ·rw[Z] at hc;cases hc
 rcases Y with hk | hk
 ·refine wpAny_storeName_local hk R (λh' S D=>?_) C
  obtain⟨oL,_,_,T,_⟩:=id R;refine h _ ⟨I.ok,I.os,I.bare,⟨λb o e n l Y=>?_,λb o e n l Y=>?_,I.base.free,λb o e Y=>?_,I.base.tups,I.base.frzs,I.base.tbls⟩,⟨_,S,λj y W V f e3=>?_⟩,λy c e=>?_,I.free,I.freeC,λp hp=>?_,U ⟨oL,T,I.free⟩ D,by simpa using I.len⟩ ⟨_,D,.inl rfl⟩
  ·exact(D.2 b (bv (bq (bw e) I.ok.above))).trans (I.base.keep b o e n l Y)
  ·obtain⟨sl,V⟩:=I.base.slot b o e n l Y
   exact⟨sl,(D.2 b (bv (bq (bw e) I.ok.above))).trans V⟩
  ·obtain⟨o',V⟩:=I.base.there b o e Y
   exact⟨o',(D.2 b (bv (bq (bw e) I.ok.above))).trans V⟩
  ·by_cases t:j=i
   ·subst t
    rw[hi] at V;cases V;rw[fx g] at f;cases f;exact⟨u,r,.inl ⟨hk,by simp⟩⟩
   ·rw[d7 (Ne.symm t)] at f
    obtain⟨u',r',q⟩:=hl j y W V f e3;refine⟨u',r',?_⟩;rcases q with⟨k,e⟩ | ⟨k,c,e,z⟩
    ·refine .inl ⟨k,?_⟩
     have:y≠x:=λe=>t (zqe hN V (e ▸ hi));simp[this,e]
    ·exact .inr ⟨k,c,e,z.sameBut D (cne y c e)⟩
  ·obtain⟨L,z⟩:=I.cell y c e
   exact⟨L,z.sameBut D (cne y c e)⟩
  ·obtain⟨e,n,O,nf,d⟩:=I.pin p hp
   exact⟨(D.2 p.1 O).trans e,n,O,nf,d⟩
 ·have B:X.fn x=true:=by
   rcases hf with z | z
   ·exact z
   ·rw[z] at hk;cases hk
  obtain⟨c,hc⟩:=I.ok.has x (.inl hk);obtain⟨L,z⟩:=I.cell x c hc;refine wpAny_storeName_cell I.ok.kind hk hc z (λh' F D=>?_);obtain⟨oc,G,J⟩:=id z;refine h { s with heap:=h' } ⟨I.ok,I.os,I.bare,⟨λb o e n l Y=>?_,λb o e n l Y=>?_,I.base.free,λb o e Y=>?_,I.base.tups,I.base.frzs,I.base.tbls⟩,⟨m,R.sameBut D (Ne.symm (cne x c hc)),λj y W V f e3=>?_⟩,λy P e=>?_,I.free,I.freeC,λp hp=>?_,U ⟨oc,G,I.freeC x c hc⟩ D,by simpa using I.len⟩ ⟨c,D,.inr hc⟩
  ·exact(D.2 b (bv (bq (bw e) (I.ok.cab x c B hc)))).trans (I.base.keep b o e n l Y)
  ·obtain⟨sl,V⟩:=I.base.slot b o e n l Y
   exact⟨sl,(D.2 b (bv (bq (bw e) (I.ok.cab x c B hc)))).trans V⟩
  ·obtain⟨o',V⟩:=I.base.there b o e Y
   exact⟨o',(D.2 b (bv (bq (bw e) (I.ok.cab x c B hc)))).trans V⟩
  ·by_cases t:j=i
   ·subst t
    rw[hi] at V;cases V;rw[fx g] at f;cases f;exact⟨u,r,.inr ⟨.inl hk,c,hc,F⟩⟩
   ·rw[d7 (Ne.symm t)] at f
    obtain⟨u',r',q⟩:=hl j y W V f e3;refine⟨u',r',?_⟩;rcases q with q | ⟨k,P,e,z'⟩
    ·exact .inl q
    ·refine .inr ⟨k,P,e,z'.sameBut D ?_⟩
     rintro rfl;exact t (zqe hN V (I.ok.inj _ _ _ e hc ▸ hi))
  ·by_cases K:P=c
   ·subst K;exact⟨_,F⟩
   ·obtain⟨w2,z2⟩:=I.cell y P e
    exact⟨w2,z2.sameBut D K⟩
  ·obtain⟨e,n,O,nf,d⟩:=I.pin p hp
   refine⟨(D.2 p.1 ?_).trans e,n,O,nf,d⟩;intro q;rw[q,G] at e;have q':oc=p.2:=bh e;exact d L (by rw[<-q'];exact J)
def zju(I:Inv X pins σ H s)(D:X.N.Nodup)(hi:X.N[i]?=some x)(U:Loc X.env.scope x)(r:RelV v u)(h:∀s',Inv X pins (σ.set i (some v)) H s'->Q () s')(V:X.fn x=true\/X.env.scope.names.lookup x=some .local:=by first | exact .inl rfl | exact .inr rfl | assumption):wpAny M A (storeName X.env x u) Q E s :=
 znl I D hi U r (λs' Y _=>h s' Y) V
variable{s':Shared}
def Inv.call'(I:Inv X pins σ H s)(V:s'.os=s.os)(u:Un (frs X.stack) ch H H' s.heap s'.heap)(D:HOk X.prog X.w H' s'.heap)(Y:AllBare s'.gens)(U:∀b∈ch,(b∈X.ex\/X.s₀.heap.objs.size<=b)/\b≠X.env.locals/\(∀x c,X.env.cells.lookup x=some c->c≠b)/\∀p∈X.pn++pins,p.1≠b):Inv X pins σ H' s':=by
 obtain⟨h',g',d',t',o'⟩:=s';have e:o'=s.os:=V;subst e;exact I.call (g':=g') (t':=t') (d':=d') u D Y U
abbrev XK:=Value->Option Addr->Hp->Prop
abbrev St:=List (Option V)
abbrev VK:=V->Hp->Prop
abbrev TE:=St->Hp->VK->Prop
abbrev TT:=St->Hp->(Bool->Hp->Prop)->Prop
abbrev TA:=St->Hp->(g0->Hp->Prop)->Prop
structure Ends where
 nx:St->Hp->Prop
 rt:VK
 bk:St->Hp->Prop:=λ_ _=>False
 ct:St->Hp->Prop:=λ_ _=>False
abbrev TS:=Ends->St->Hp->Prop
inductive EP (X:Cx) (pins:gx) (σ:St) (Q:VK) (u:Value) (s':Shared):Prop
 | mk (v:V) (H':Hp) (i:Inv X pins σ H' s') (r:RelV v u) (q:Q v H'):EP X pins σ Q u s'
inductive TP (X:Cx) (pins:gx) (σ:St) (Q:Bool->Hp->Prop) (b:Bool) (s':Shared):Prop
 | mk (H':Hp) (i:Inv X pins σ H' s') (q:Q b H'):TP X pins σ Q b s'
inductive AP (X:Cx) (pins:gx) (σ:St) (Q:g0->Hp->Prop) (us:fe) (s':Shared):Prop
 | mk (vs:g0) (H':Hp) (i:Inv X pins σ H' s') (r:Vals vs us) (q:Q vs H'):AP X pins σ Q us s'
def SP(X:Cx)(pins:gx)(D:Ends)(f:Flow)(s':Shared):Prop :=
 match f with
 | .next=>∃σ' H',Inv X pins σ' H' s'/\D.nx σ' H'
 | .brk=>∃σ' H',Inv X pins σ' H' s'/\D.bk σ' H'
 | .cont=>∃σ' H',Inv X pins σ' H' s'/\D.ct σ' H'
 | .ret u=>∃v σ' H',Inv X pins σ' H' s'/\RelV v u/\D.rt v H'
def PE(X:Cx)(e:Expr)(t:TE):Prop :=
 ∀(pins:gx) (s:Shared) (σ:St) (H:Hp) (Q:VK),Inv X pins σ H s->t σ H Q->wpAny (model X.prog X.w) X.A (eval e X.env) (EP X pins σ Q) X.xe s
def PT(X:Cx)(e:Expr)(t:TT):Prop :=
 ∀(pins:gx) (s:Shared) (σ:St) (H:Hp) (Q:Bool->Hp->Prop),Inv X pins σ H s->t σ H Q->wpAny (model X.prog X.w) X.A (isTrue e X.env (eval e X.env)) (TP X pins σ Q) X.xe s
def PW(X:Cx)(e:Expr)(t:TT):Prop :=
 ∀(whole:Sem Value) (pins:gx) (s:Shared) (σ:St) (H:Hp) (Q:Bool->Hp->Prop),Inv X pins σ H s->t σ H Q->wpAny (model X.prog X.w) X.A (isTrue e X.env whole) (TP X pins σ Q) X.xe s
variable{e:Expr}{t:TA}
def PW.pt{t:TT}(h:PW X e t):PT X e t:=h _
def PA(X:Cx)(es:gp)(t:TA):Prop :=
 ∀(pos:Pos) (pins:gx) (s:Shared) (σ:St) (H:Hp) (Q:g0->Hp->Prop),Inv X pins σ H s->t σ H Q->wpAny (model X.prog X.w) X.A (spliced (backTo pos (starEach es X.env))) (AP X pins σ Q) X.xe s
def PS(X:Cx)(st:Stmt)(t:TS):Prop :=
 ∀(pins:gx) (s:Shared) (σ:St) (H:Hp) (D:Ends),Inv X pins σ H s->t D σ H->wpAny (model X.prog X.w) X.A (exec st X.env) (SP X pins D) X.xe s
def PSs(X:Cx)(st:List Stmt)(t:TS):Prop :=
 ∀(pins:gx) (s:Shared) (σ:St) (H:Hp) (D:Ends),Inv X pins σ H s->t D σ H->wpAny (model X.prog X.w) X.A (execs st X.env) (SP X pins D) X.xe s
def thn{t:Sem α}{Q D:α->Shared->Prop}(h:wpAny M A t Q E s)(I:∀a s,Q a s->D a s):wpAny M A t D E s:=wpAny_mono h I λ_ _ x=>x
section
variable {X:Cx}
def tVar(i:Nat):TE:=λσ H Q=>∃v,σ[i]?=some (some v)/\Q v H
def tC(v:V):TE:=λ_ H Q=>Q v H
def z11{i:Nat}{x:Str}{pos:Pos}(V:X.N[i]?=some x)(Y:Vis X.env.scope x)(hd:(x==("__debug__" : Str))=false:=by decide)(U:(x==("__classdict__" : Str))=false:=by decide):PE X (.Name x pos) (tVar i):=by
 intro pins s σ H Q I h;obtain⟨v,e,h⟩:=h;obtain⟨m,Z,a⟩:=I.loc;obtain⟨u,r,l⟩:=a i x v V e Y;have D:EP X pins σ Q u s:=⟨v,H,I,r,h⟩;rcases l with⟨hk,b⟩ | ⟨hk,c,hc,hcell⟩
 ·exact wpAny_Name (wpAny_loadName_local I.ok.kind hk Z b D) hd
 ·rcases hk with hk | hk
  ·exact wpAny_Name (wpAny_loadName_cell I.ok.kind hk hc hcell D) hd
  ·exact wpAny_Name (wpAny_loadName_free I.ok.kind hk hc hcell D U) hd
def zs2{i j pos}:PE X (.Constant (.int i) j pos) (tC (.int i)):=λ_ _ _ H _ I h=>wpAny_Constant_int ⟨.int i,H,I.tok _,⟨_,rfl⟩,h⟩
def z44{b j pos}:PE X (.Constant (.bool b) j pos) (tC (.bl b)):=λ_ _ _ H _ I h=>Constant_bool ⟨.bl b,H,I,rfl,h⟩
def zyf{x j pos}:PE X (.Constant (.str x) j pos) (tC (.str x)):=λ_ _ _ H _ I h=>Calls.Constant_str ⟨.str x,H,I.tok _,⟨_,rfl⟩,h⟩
def Gl(X:Cx)(x:Str):Prop:=X.env.kindOf x=some .globalImplicit
def yo{E:Value->Shared->Prop}{pins:gx}{s:Shared}{σ:St}{H:Hp}{x:Str}{u:Value}{pos:Pos}{Q:Value->Shared->Prop}(I:Inv X pins σ H s)(D:Gl X x)(U:X.mg x=some u)(h:Q u s)(hd:(x==("__debug__" : Str))=false:=by decide):wpAny (model X.prog X.w) X.A (eval (.Name x pos) X.env) Q E s :=
 Calls.Name_function_global I.ok.kind D (Calls.loadGlobal_global (by rw[I.ok.glob];exact I.mod.glob.keeps I.bk) U h) hd
def t3{E:Value->Shared->Prop}{pins:gx}{s:Shared}{σ:St}{H:Hp}{x:Str}{u:Value}{pos:Pos}{Q:Value->Shared->Prop}(I:Inv X pins σ H s)(D:Gl X x)(U:X.mg x=none)(V:bootBuiltins x=some u)(h:Q u s)(Y:x ≠ "__name__":=by decide)(hd:(x==("__debug__" : Str))=false:=by decide):wpAny (model X.prog X.w) X.A (eval (.Name x pos) X.env) Q E s:=by
 obtain⟨Z,h1,h2⟩:=I.mod.blt;exact Calls.Name_function_global I.ok.kind D (Calls.loadGlobal_builtin (by rw[I.ok.glob];exact I.mod.glob.keeps I.bk) U (by rw[I.ok.blt];exact h1.keeps I.bk) ((h2 x Y).trans V) h) hd
def zzi{x:Str}{v:V}{u:Value}{pos:Pos}(D:Gl X x)(U:X.mg x=some u)(r:RelV v u)(hd:(x==("__debug__" : Str))=false:=by decide):PE X (.Name x pos) (tC v) :=
 λ_ _ _ H _ I h=>yo I D U ⟨v,H,I,r,h⟩ hd
def zzj{x:Str}{v:V}{u:Value}{pos:Pos}(D:Gl X x)(U:X.mg x=none)(Y:bootBuiltins x=some u)(r:RelV v u)(Z:x ≠ "__name__":=by decide)(hd:(x==("__debug__" : Str))=false:=by decide):PE X (.Name x pos) (tC v) :=
 λ_ _ _ H _ I h=>t3 I D U Y ⟨v,H,I,r,h⟩ Z hd
variable {a b:Expr} {ta tb:TE} {pos:Pos}
def PC(X:Cx)(op:CmpOp)(a b:Expr)(t:TE):Prop :=
 ∀(pins:gx) (s:Shared) (σ:St) (H:Hp) (Q:VK),Inv X pins σ H s->t σ H Q ->
  wpAny (model X.prog X.w) X.A (eval a X.env) (λv D=>wpAny (model X.prog X.w) X.A (eval b X.env) (λu s₂=>wpAny (model X.prog X.w) X.A (compareOp op v u) (EP X pins σ Q) X.xe s₂) X.xe D) X.xe s
def tB(t:TE):TT:=λσ H Q=>t σ H λx H1=>∃c,x=.bl c/\Q c H1
def z12{e:Expr}{t:TE}(h:PE X e t)(D:∀whole,isTrue e X.env whole=(do let v <-whole;standAt e.pos;holding [v] (truthy v)):=by intro _;rfl):PT X e (tB t):=by
 intro pins s σ H Q I U;refine isTrue_plain (thn (h pins s σ H _ I U) λv b V=>?_) (D _);obtain⟨x,H1,Y,Z,a⟩:=V;obtain⟨d,rfl,q⟩:=a;cases Z;exact wpAny_truthy_bool ⟨H1,Y,q⟩
variable {tA tB':TT} {rest:gp}
def tAnd(t u:TT):TT:=λσ H Q=>t σ H λc H1=>if c=true then u σ H1 Q else Q false H1
def tOr(t u:TT):TT:=λσ H Q=>t σ H λc H1=>if c=true then Q true H1 else u σ H1 Q
def tNot(t:TT):TT:=λσ H Q=>t σ H λc H1=>Q (!c) H1
def zzk(D:PT X a tA):PW X (.BoolOp .And [a] pos) tA:=by
 intro U pins s σ H Q I h;refine isTrue_and (thn (D pins s σ H Q I h) λc V e=>?_);cases c with
 | true=>exact isTrue_and_nil e
 | false=>exact e
def z13(D:PT X a tA):PW X (.BoolOp .Or [a] pos) tA:=by
 intro U pins s σ H Q I h;refine isTrue_or (thn (D pins s σ H Q I h) λc V e=>?_);cases c with
 | false=>exact isTrue_or_nil e
 | true=>exact e
def z14(V:PT X a tA)(Y:PW X (.BoolOp .And (b::rest) pos) tB'):PW X (.BoolOp .And (a::b::rest) pos) (tAnd tA tB'):=by
 intro Z pins s σ H Q I h;refine isTrue_and (thn (V pins s σ H _ I h) λc d e=>?_);obtain⟨H1,D,U⟩:=e;cases c with
 | true=>exact Y Z pins d σ H1 Q D U
 | false=>exact⟨H1,D,U⟩
def z45(V:PT X a tA)(Y:PW X (.BoolOp .Or (b::rest) pos) tB'):PW X (.BoolOp .Or (a::b::rest) pos) (tOr tA tB'):=by
 intro Z pins s σ H Q I h;refine isTrue_or (thn (V pins s σ H _ I h) λc d e=>?_);obtain⟨H1,D,U⟩:=e;cases c with
 | true=>exact⟨H1,D,U⟩
 | false=>exact Y Z pins d σ H1 Q D U
def z15(D:PT X a tA):PT X (.UnaryOp .Not a pos) (tNot tA):=by
 intro pins s σ H Q I h;refine isTrue_not (thn (D pins s σ H (λc H1=>Q (!c) H1) I h) λc V h=>?_);obtain⟨H1,U,q⟩:=h;exact⟨H1,U,q⟩
def z46(ta tb:TE):TE:=λσ H Q=>ta σ H λx H1=>∃c,x=.bl c/\if c=true then tb σ H1 Q else Q (.bl false) H1
def z47(ta:TE):TE:=λσ H Q=>ta σ H λx H1=>∃c,x=.bl c/\Q (.bl (!c)) H1
def z16{op}{t:TE}(h:PE X a t):PE X (.BoolOp op [a] pos) t:=λpins s σ H Q I D=>BoolOp_one (h pins s σ H Q I D)
def z17(V:PE X a ta)(Y:PE X (.BoolOp .And (b::rest) pos) tb):PE X (.BoolOp .And (a::b::rest) pos) (z46 ta tb):=by
 intro pins s σ H Q I h;refine BoolOp_and (thn (V pins s σ H _ I h) λv Z d=>?_);obtain⟨x,H1,U,e,D⟩:=d;obtain⟨c,rfl,D⟩:=D;cases e;refine wpAny_truthy_bool ?_;cases c with
 | true=>exact Y pins Z σ H1 Q U D
 | false=>exact⟨.bl false,H1,U,rfl,D⟩
def z18(U:PE X a ta):PE X (.UnaryOp .Not a pos) (z47 ta):=by
 intro pins s σ H Q I h;refine UnaryOp_ (thn (U pins s σ H _ I h) λv b V=>?_);obtain⟨x,H1,Y,Z,D⟩:=V;obtain⟨c,rfl,D⟩:=D;cases Z;exact not_of (wpAny_truthy_bool ⟨.bl (!c),H1,Y,rfl,D⟩)
end
def SqL(K:gu)(H:Hp)(a:Addr)(xs:g0):Prop :=
 Rd H a (.lst xs) \/
  ∃(o:Obj) (its:gy) (n:Nat),K.lookup a=some o/\o.cls=.type "list"/\o.dict=none/\o.data=.seq its n/\its.size<=sizeLine/\Vals xs its.toList
def SqT(K:gu)(H:Hp)(a:Addr)(xs:g0):Prop :=
 Rd H a (.tup xs) \/
  ∃(o:Obj) (its:gy) (n:Nat),K.lookup a=some o/\o.cls=.type "tuple"/\o.data=.seq its n/\its.size<=sizeLine/\Vals xs its.toList
def absV:Value->Option V
 | .none=>some .non
 | .bool b=>some (.bl b)
 | .int i _=>some (.int i)
 | .str x _=>some (.str x)
 | .bytes b _=>some (.byt b)
 | .float b _=>some (.flt b)
 | .ref a=>some (.ref a)
 | .type n=>some (.ty n)
 | _=>none
def RelV.abs{x:V}(r:RelV x u):absV u=some x:=by
 cases x with
 | non=>cases r;rfl
 | bl _=>cases r;rfl
 | int _=>obtain⟨t,rfl⟩:=r;rfl
 | str _=>obtain⟨t,rfl⟩:=r;rfl
 | byt _=>obtain⟨t,rfl⟩:=r;rfl
 | flt _=>obtain⟨t,rfl⟩:=r;rfl
 | ref _=>cases r;rfl
 | ty _=>cases r;rfl
def RelV.inj{x y:V}{u:Value}(r:RelV x u)(q:RelV y u):x=y:=bh (r.abs.symm.trans q.abs)
def Vals.inj{xs ys:g0}{us:fe}(h:Vals xs us)(g:Vals ys us):xs=ys:=by
 induction h generalizing ys with
 | nil=>cases g;rfl
 | cons r t ih=>cases g with | cons p q=>rw[r.inj p,ih q]
variable{K:gu}
def SqT.of(h:H a=some (.tup xs)):SqT K H a xs:=.inl (.inl h)
variable{σ:St}
def Inv.list(I:Inv X pins σ H s)(h:SqL X.K H a xs):∃its:fe,Vals xs its/\PlainL s.heap a its.toArray/\xs.length<=sizeLine:=by
 rcases h with h | ⟨o,its,n,hk,hc,hd,hs,hz,r⟩
 ·obtain⟨z,its,n,r,e⟩:=h.ok I.hok
  exact⟨its,r,⟨_,n,e,rfl,rfl,rfl⟩,z⟩
 ·refine⟨its.toList,r,⟨o,n,I.kIn a o hk,hc,hd,by simpa using hs⟩,?_⟩
  have e:=r.length;simp only[je] at e;omega
def Inv.tuple(I:Inv X pins σ H s)(h:SqT X.K H a xs):∃its:fe,Vals xs its/\IsTup s.heap a its.toArray/\xs.length<=sizeLine:=by
 rcases h with h | ⟨o,its,n,hk,hc,hs,hz,r⟩
 ·obtain⟨z,its,r,p⟩:=h.ok I.hok
  exact⟨its,r,p,z⟩
 ·refine⟨its.toList,r,⟨o,I.kIn a o hk,hc,n,by simpa using hs⟩,?_⟩
  have e:=r.length;simp only[je] at e;omega
def Inv.list_inj(I:Inv X pins σ H s)(h:SqL X.K H a xs)(h':SqL X.K H a ys):xs=ys:=by
 obtain⟨its,r,⟨o,n,e,_,_,d⟩,_⟩:=I.list h;obtain⟨its',D,⟨o',U,e',_,_,d'⟩,_⟩:=I.list h';rw[e] at e';cases e';rw[d] at d';injection d' with d1 _;have:its=its':=by simpa using congrArg Array.toList d1
 subst this;exact r.inj D
def Inv.tuple_inj(I:Inv X pins σ H s)(h:SqT X.K H a xs)(h':SqT X.K H a ys):xs=ys:=by
 obtain⟨its,r,⟨o,e,_,n,d⟩,_⟩:=I.tuple h;obtain⟨its',D,⟨o',e',_,U,d'⟩,_⟩:=I.tuple h';rw[e] at e';cases e';rw[d] at d';injection d' with d1 _;have:its=its':=by simpa using congrArg Array.toList d1
 subst this;exact r.inj D
abbrev Cx.wish(X:Cx)(E:Value->Shared->Prop):Cx:={ X with xe:=E }
abbrev Cx.nox(X:Cx):Cx:=X.wish λ_ _=>False
def Cx.Ok.wish(ok:X.Ok)(E:Value->Shared->Prop):(X.wish E).Ok :=
 ⟨ok.mod,ok.kind,ok.glob,ok.blt,ok.above,ok.inj,ok.has,ok.cab,ok.hd,ok.frames,ok.stk,ok.exf,ok.bs,ok.bsz,ok.noex,ok.exfs,ok.funs,ok.frf⟩
def Cx.Ok.unwish(ok:(X.wish E).Ok):X.Ok :=
 ⟨ok.mod,ok.kind,ok.glob,ok.blt,ok.above,ok.inj,ok.has,ok.cab,ok.hd,ok.frames,ok.stk,ok.exf,ok.bs,ok.bsz,ok.noex,ok.exfs,ok.funs,ok.frf⟩
def Inv.wish(I:Inv X pins σ H s)(E:Value->Shared->Prop):Inv (X.wish E) pins σ H s:=⟨I.ok.wish E,I.os,I.bare,I.base,I.loc,I.cell,I.free,I.freeC,I.pin,I.hok,I.len⟩
def Inv.unwish(I:Inv (X.wish E) pins σ H s):Inv X pins σ H s:=⟨I.ok.unwish,I.os,I.bare,I.base,I.loc,I.cell,I.free,I.freeC,I.pin,I.hok,I.len⟩
def SP.unwish{D:Ends}{f:Flow}{s':Shared}(h:SP (X.wish E) pins D f s'):SP X pins D f s':=by
 cases f with
 | next=>obtain⟨σ',H',I,q⟩:=h;exact⟨σ',H',I.unwish,q⟩
 | brk=>obtain⟨σ',H',I,q⟩:=h;exact⟨σ',H',I.unwish,q⟩
 | cont=>obtain⟨σ',H',I,q⟩:=h;exact⟨σ',H',I.unwish,q⟩
 | ret u=>obtain⟨v,σ',H',I,r,q⟩:=h;exact⟨v,σ',H',I.unwish,r,q⟩
def PSs.nox{st:List Stmt}{t:TS}(h:PSs X.nox st t):PSs X st t:=λpins s σ H D I U =>
 wpAny_mono (h pins s σ H D (I.wish _) U) (λ_ _ q=>q.unwish) λ_ _ z=>False.elim z
section
variable {X:Cx} {st:Stmt} {rest:List Stmt} {t u:TS} {e:Expr} {te:TE} {pos:Pos}
def z48:TS:=λD σ H=>D.nx σ H
def tSeq(t u:TS):TS:=λD σ H=>t { D with nx:=u D } σ H
def zzl:PSs X [] z48:=λ_ _ σ H _ I h=>wpAny_execs_nil ⟨σ,H,I,h⟩
def zv4(h1:PS X st t)(h2:PSs X rest u):PSs X (st::rest) (tSeq t u):=by
 intro pins s σ H D I h;refine wpAny_execs_cons (thn (h1 pins s σ H { D with nx:=u D } I h) λf U q=>?_);cases f with
 | next =>
   obtain⟨σ',H',V,q⟩:=q;exact h2 pins U σ' H' D V q
 | ret v=>exact q
 | brk=>exact q
 | cont=>exact q
def zzm(h1:PS X st t):PSs X [st] t:=by
 intro pins s σ H D I h;refine wpAny_execs_cons (thn (h1 pins s σ H D I h) λf U q=>?_);cases f with
 | next=>exact wpAny_execs_nil q
 | ret v=>exact q
 | brk=>exact q
 | cont=>exact q
def Inv.quiet{pins:gx}{σ:St}{H:Hp}{s:Shared}(I:Inv X pins σ H s):interactive X.env=false:=by simp[interactive,I.ok.kind]
def z49(te:TE):TS:=λD σ H=>te σ H λ_ H1=>D.nx σ H1
def zs3(U:PE X e te)(V:swapsWith e none pos.line X.env=pure false:=by rfl):PS X (.Expr e pos) (z49 te):=by
 intro pins s σ H D I h;exact wpAny_Expr_any (thn (U pins s σ H _ I h) λv s1 ⟨x,H1,I1,r1,q1⟩=>⟨σ,H1,I1,q1⟩) I.quiet V
def tRet(te:TE):TS:=λD σ H=>te σ H D.rt
def zyg(U:PE X e te):PS X (.Return (some e) pos) (tRet te):=by
 intro pins s σ H D I h;exact wpAny_Return_some (thn (U pins s σ H _ I h) λv s1 ⟨x,H1,I1,r1,q1⟩=>⟨x,σ,H1,I1,r1,q1⟩)
def tIfS(c:TT)(t u:TS):TS:=λD σ H=>c σ H λb H1=>if b=true then t D σ H1 else u D σ H1
def z5a{c:Expr}{a b:List Stmt}{U:TT}(e:PT X c U)(f:PSs X a t)(g:PSs X b u):PS X (.If c a b pos) (tIfS U t u):=by
 intro pins s σ H D I h;refine wpAny_If (thn (e pins s σ H _ I h) λd V i=>?_);obtain⟨H1,Y,Z⟩:=i;cases d with
 | true=>exact f pins V σ H1 D Y Z
 | false=>exact g pins V σ H1 D Y Z
def z19:TS:=λ_ _ _=>False
def zv5:PS X st z19:=λ_ _ _ _ _ _ h=>h.elim
end
abbrev TG:=V->St->Hp->(St->Hp->Prop)->Prop
abbrev TGs:=g0->St->Hp->(St->Hp->Prop)->Prop
def PG(X:Cx)(D:Expr)(t:TG):Prop :=
 ∀(pins:gx) (s:Shared) (σ:St) (H:Hp) (v:V) (u:Value) (Q:St->Hp->Prop),Inv X pins σ H s->RelV v u->t v σ H Q ->
  wpAny (model X.prog X.w) X.A (assign D X.env u) (λ_ s'=>∃σ' H',Inv X pins σ' H' s'/\Q σ' H') X.xe s
def PGs(X:Cx)(ts:gp)(t:TGs):Prop :=
 ∀(pins:gx) (s:Shared) (σ:St) (H:Hp) (vs:g0) (us:fe) (Q:St->Hp->Prop),Inv X pins σ H s->Vals vs us->t vs σ H Q ->
  wpAny (model X.prog X.w) X.A (assignInOrder ((assignEach ts X.env).map (·.2)) us) (λ_ s'=>∃σ' H',Inv X pins σ' H' s'/\Q σ' H') X.xe s
abbrev TSet:=V->V->V->Hp->(Hp->Prop)->Prop
def PSet(X:Cx)(t:TSet):Prop :=
 ∀(pins:gx) (s:Shared) (σ:St) (H:Hp) (o i v:V) (D I u:Value) (Q:Hp->Prop),Inv X pins σ H s->RelV o D->RelV i I->RelV v u->t o i v H Q ->
  wpAny (model X.prog X.w) X.A (setItem D I u) (λ_ s'=>∃H',Inv X pins σ H' s'/\Q H') X.xe s
abbrev TIp:=V->V->Hp->VK->Prop
def PIp(X:Cx)(op:Operator)(t:TIp):Prop :=
 ∀(pins:gx) (s:Shared) (σ:St) (H:Hp) (x y:V) (v u:Value) (Q:VK),Inv X pins σ H s->RelV x v->RelV y u->t x y H Q ->
  wpAny (model X.prog X.w) X.A (inplaceOp op v u) (EP X pins σ Q) X.xe s
def ng(i:Nat):TG:=λv σ H Q=>Q (σ.set i (some v)) H
variable{pos:Pos}
def zs4(D:X.N.Nodup)(hi:X.N[i]?=some x)(U:Loc X.env.scope x)(V:X.fn x=true\/X.env.scope.names.lookup x=some .local:=by first | exact .inl rfl | exact .inr rfl | assumption):PG X (.Name x pos) (ng i):=by
 intro pins s σ H v u Q I r h;exact wpAny_assign_Name (zju I D hi U r (λs' Y=>⟨_,H,Y,h⟩) V)
def gNil:TGs:=λvs σ H Q=>vs=[]/\Q σ H
def z2a(t:TG)(u:TGs):TGs:=λvs σ H Q=>∃v r,vs=v::r/\t v σ H λσ' H'=>u r σ' H' Q
def zzn:PGs X [] gNil:=by
 intro pins s σ H vs us Q I r h;obtain⟨e,h⟩:=h;subst e;cases r;exact assignInOrder_nil ⟨σ,H,I,h⟩
variable{es:gp}
def zv6{t:TG}{u:TGs}(h1:PG X e t)(h2:PGs X es u)(U:(assignEach (e::es) X.env).map (·.2)=assign e X.env::(assignEach es X.env).map (·.2):=by rfl):PGs X (e::es) (z2a t u):=by
 intro pins s σ H vs us Q I r h;obtain⟨v,c,V,h⟩:=h;subst V;cases r with
 | cons r rr =>
   rw[U];refine assignInOrder_cons (thn (h1 pins s σ H _ _ _ I r h) λ_ Y Z=>?_);obtain⟨D,H1,a,b⟩:=Z;exact h2 pins Y D H1 _ _ Q a rr b
def gTup(K:gu)(n:Nat)(t:TGs):TG:=λv σ H Q=>∃a xs,v=.ref a/\SqT K H a xs/\xs.length=n/\t xs σ H Q
variable{k n:Nat}
def zyh{t:TGs}(Y:X.calm=true)(h:PGs X es t)(Z:(assignEach es X.env).length=n:=by rfl)(D:(assignEach es X.env).findIdx? (·.1)=none:=by rfl):PG X (.Tuple es k pos) (gTup X.K n t):=by
 intro pins s σ H v u Q I r U;obtain⟨a,xs,c,d,f,U⟩:=U;subst c;cases r;obtain⟨its,V,g,l⟩:=I.tuple d;refine assign_Tuple_tuple (I.ok.hd Y) g (by simp[Z,<-f,V.length]) D λh' i=>?_;have j:Inv X pins σ H { s with heap:=h' }:=I.kept (t':=s.toks) λb o e=>i b o (bv (bw e)) e;exact h pins _ σ H xs _ Q j (by simpa using V) U
def gSub(to ti:TE)(t:TSet):TG:=λv σ H Q=>to σ H λo H1=>ti σ H1 λi H2=>t o i v H2 λD=>Q σ D
variable{to ti:TE}
def z2b{o i:Expr}{t:TSet}(Y:PE X o to)(hi:PE X i ti)(Z:PSet X t)(a:∀v,assign (.Subscript o i pos) X.env v=(do
   let D <-holding [v] (eval o X.env);let U <-holding [v,D] (eval i X.env)
   standAt pos
   holding [v,D,U] (setItem D U v)
   release [v,D,U] []):=by intro _;rfl):PG X (.Subscript o i pos) (gSub to ti t):=by
 intro pins s σ H v u Q I r h;rw[a];refine wpAny_bind (wpAny_holding (thn (Y pins s σ H _ I h) λD b V=>?_));obtain⟨x,H1,c,d,e⟩:=V;refine wpAny_bind (wpAny_holding (thn (hi pins b σ H1 _ c e) λU s2 V=>?_));obtain⟨y,H2,f,g,j⟩:=V;refine wpAny_bind (wpAny_standAt (wpAny_bind (wpAny_holding (thn (Z pins s2 σ H2 x y v D U u _ f d g r j) λ_ n V=>?_))));obtain⟨k,l,m⟩:=V;exact wpAny_release ⟨σ,k,l,m⟩
def tAsg(te:TE)(g:TG):TS:=λD σ H=>te σ H λx H1=>g x σ H1 D.nx
variable{tg:Expr}{te:TE}{g:TG}
def z2c(U:PE X e te)(V:PG X tg g)(Y:swapsWithSole [tg] e pos.line X.env=pure false:=by rfl)(Z:swappedStores [tg] e X.env=pure none:=by rfl)(h1:(assignEach [tg] X.env).map (·.2)=[assign tg X.env]:=by rfl):PS X (.Assign [tg] e pos) (tAsg te g):=by
 intro pins s σ H D I h;refine wpAny_Assign_stores (thn (U pins s σ H _ I h) λv a b=>?_) Y Z;obtain⟨x,H1,c,d,f⟩:=b;rw[h1];exact thn (V pins a σ H1 x v _ c d f) λ_ s2 q=>q
variable{pos':Pos}
def zs5(U:X.N.Nodup)(hi:X.N[i]?=some x)(V:Loc X.env.scope x)(Y:PE X e te)(Z:swapsWith e (some (.Name x pos')) pos.line X.env=pure false:=by rfl)(a:X.fn x=true\/X.env.scope.names.lookup x=some .local:=by first | exact .inl rfl | exact .inr rfl | assumption) :
  PS X (.Assign [.Name x pos'] e pos) (tAsg te (ng i)):=by
 intro pins s σ H D I h;refine wpAny_Assign_Name (thn (Y pins s σ H _ I h) λv j b=>?_) Z;obtain⟨y,H1,c,d,f⟩:=b;exact zju c U hi V d (λs2 g=>⟨_,H1,g,f⟩) a
def tAug(i:Nat)(te:TE)(ti:TIp):TS:=λD σ H=>∃x,σ[i]?=some (some x)/\te σ H λy H1=>ti x y H1 λz H2=>D.nx (σ.set i (some z)) H2
variable{op:Operator}
def z2d{ti:TIp}(a:X.N.Nodup)(hi:X.N[i]?=some x)(V:Loc X.env.scope x)(b:PE X e te)(d:PIp X op ti)(f:X.fn x=true\/X.env.scope.names.lookup x=some .local:=by first | exact .inl rfl | exact .inr rfl | assumption) :
  PS X (.AugAssign (.Name x pos') op e pos) (tAug i te ti):=by
 intro pins s σ H D I h;obtain⟨v,g,h⟩:=h;obtain⟨m,j,n⟩:=I.loc;have Y:Vis X.env.scope x:=by rcases V with k | k;exact .inl k;exact .inr (.inl k)
 obtain⟨u,r,l⟩:=n i x v hi g Y;refine wpAny_AugAssign_Name ?_;have go:wpAny (model X.prog X.w) X.A (eval e X.env) (λw s₂=>wpAny (model X.prog X.w) X.A (inplaceOp op u w) (λr U=>wpAny (model X.prog X.w) X.A (storeName X.env x r) (λ_=>SP X pins D .next) X.xe U) X.xe s₂) X.xe s:=by
  refine thn (b pins s σ H _ I h) λw o Z=>?_;obtain⟨y,H1,p,q,t⟩:=Z;refine thn (d pins o σ H1 v y u w _ p r q t) λz s2 Z=>?_;obtain⟨J,H2,B,C,E⟩:=Z;exact zju B a hi V C (λK F=>⟨_,H2,F,E⟩) f
 rcases l with⟨hk,G⟩ | ⟨hk,c,hc,hcell⟩
 ·exact wpAny_loadName_local I.ok.kind hk j G go
 ·rcases hk with hk | hk
  ·exact wpAny_loadName_cell I.ok.kind hk hc hcell go
  ·rcases V with k | k
   ·have:X.env.scope.names.lookup x=some .free:=hk
    rw[k] at this;cases this
   ·have:X.env.scope.names.lookup x=some .free:=hk
    rw[k] at this;cases this
def z2e(to ti te:TE)(I:V->V->Hp->VK->Prop)(Y:TIp)(U:TSet):TS:=λD σ H=>to σ H λo H1=>ti σ H1 λi H2=>I o i H2 λx Z=>te σ Z λy a=>Y x y a λz b=>U o i z b λc=>D.nx σ c
def PGet(X:Cx)(t:V->V->Hp->VK->Prop):Prop :=
 ∀(pins:gx) (s:Shared) (σ:St) (H:Hp) (o i:V) (D I:Value) (Q:VK),Inv X pins σ H s->RelV o D->RelV i I->t o i H Q ->
  wpAny (model X.prog X.w) X.A (getItem D I) (EP X pins σ Q) X.xe s
variable{i:Int}
def zs6{o i:Expr}{Y:V->V->Hp->VK->Prop}{c:TIp}{Z:TSet}{d:Pos}(m:PE X o to)(hi:PE X i ti)(n:PGet X Y)(p:PE X e te)(q:PIp X op c)(r:PSet X Z)(t:∀a b new,augStore i a b new=(do holding [new,a,b] (setItem a b new);release [new,a,b] [];pure .next):=by intros;rfl):PS X (.AugAssign (.Subscript o i d) op e pos) (z2e to ti te Y c Z):=by
 intro pins s σ H D I h;refine wpAny_AugAssign_SubscriptAny (thn (m pins s σ H _ I h) λa u U=>?_) t;obtain⟨g,H1,w,j,x⟩:=U;refine thn (hi pins u σ H1 _ w x) λb s2 U=>?_;obtain⟨k,H2,y,l,z⟩:=U;refine thn (n pins s2 σ H2 g k a b _ y j l z) λf A U=>?_;obtain⟨B,C,E,r3,F⟩:=U;refine thn (p pins A σ C _ E F) λv s4 U=>?_;obtain⟨G,J,K,L,M⟩:=U;refine thn (q pins s4 σ J B G f v _ K r3 L M) λnew N U=>?_;obtain⟨O,P,Q,R,S⟩:=U;exact thn (r pins N σ P g k O a b new _ Q j l R S) λ_ s6 ⟨H6,I6,q6⟩=>⟨σ,H6,I6,q6⟩
def ipI(f:Int->Int->Int):TIp:=λx y H Q=>∃i j,x=.int i/\y=.int j/\Q (.int (f i j)) H
def zyi:PIp X .Add (ipI λi j=>i+j):=by
 intro pins s σ H x y v u Q I D U h;obtain⟨i,j,V,Y,q⟩:=h;subst V;subst Y;obtain⟨t,rfl⟩:=D;obtain⟨t',rfl⟩:=U;exact iadd_int ⟨.int _,H,I.tok _,⟨_,rfl⟩,q⟩
def z2f:PIp X .Sub (ipI λi j=>i-j):=by
 intro pins s σ H x y v u Q I D U h;obtain⟨i,j,V,Y,q⟩:=h;subst V;subst Y;obtain⟨t,rfl⟩:=D;obtain⟨t',rfl⟩:=U;exact isub_int ⟨.int _,H,I.tok _,⟨_,rfl⟩,q⟩
def z2g(c:TT)(tb:TS):TS:=λD σ H=>∃W:Nat->St->Hp->Prop,(∃m,W m σ H)/\∀m σ H,W m σ H ->
 c σ H λb H1=>if b=true then ∃N:St->Hp->Prop,(∀σ' H',N σ' H'->∃I,I<m/\W I σ' H')/\tb { D with nx:=N,ct:=N,bk:=D.nx } σ H1 else D.nx σ H1
variable{c:Value}{body:List Stmt}{tb:TS}
def zv7{c:Expr}{j:TT}(k:PassesOwn (model X.prog X.w) X.A X.env X.xe)(o:PT X c j)(p:PSs X body tb):PS X (.While c body [] pos) (z2g j tb):=by
 intro pins s σ H D I h;obtain⟨W,⟨m0,q⟩,turn⟩:=h;refine wpAny_While (codeAny_whileLoop (λn s'=>∃σ' H',Inv X pins σ' H' s'/\W n σ' H') ?_ m0 ⟨σ,H,I,q⟩);rintro n r ⟨σ1,H1,I1,w1⟩;refine wpAny_passesOwn k (thn (o pins r σ1 H1 _ I1 (turn n σ1 H1 w1)) λb s2 t=>?_);obtain⟨H2,l,Y⟩:=t;cases b with
 | true =>
   obtain⟨N,m,Y⟩:=Y;rw[if_pos rfl];refine wpAny_passesOwn k (thn (p pins s2 σ1 H2 _ l Y) λf u Z=>?_);cases f with
   | next =>
     obtain⟨U,V,a,d⟩:=Z;obtain⟨e,g,i⟩:=m U V d;exact⟨e,g,U,V,a,i⟩
   | cont =>
     obtain⟨U,V,a,d⟩:=Z;obtain⟨e,g,i⟩:=m U V d;exact⟨e,g,U,V,a,i⟩
   | brk=>exact Z
   | ret v=>exact Z
 | false =>
   rw[if_neg ce];exact wpAny_execs_nil ⟨σ1,H2,l,Y⟩
structure It where
 go:Nat->Hp->Prop
 yld:Nat->Hp->V->Hp->Prop
 stop:Nat->Hp->Prop
def FpOk(X:Cx)(pins:gx)(H:Hp)(b:Addr):Prop :=
 H b=none/\b≠X.env.locals/\b∉X.fs/\(b∈X.ex\/X.s₀.heap.objs.size<=b)/\(∀x c,X.env.cells.lookup x=some c->c≠b)/\∀p∈X.pn++pins,p.1≠b
def Inv.fpOk(I:Inv X pins σ H s)(D:s.heap.objs.size<=b)(U:H' b=none):FpOk X pins H' b:=by
 refine⟨U,i6 (bq I.lt D),I.nofs D,.inr (b8 I.sz D),λx c e z=>?_,λp V z=>?_⟩
 ·obtain⟨v,q⟩:=I.cell x c e
  exact absurd (bq q.lt (by rw[z];exact D)) (ft _)
 ·exact absurd (bq (bw (I.pin p V).1) (by rw[z];exact D)) (ft _)
structure vx (Cm:Cx->Prop) (P:Program) (w:World) (K:gu) (tg:Expr) (J:It) (fp:fh) (it:Addr) (tn:Nat->Heap->Prop):Prop where
 mem:it∈fp
 obj:∀i h,tn i h->∀b∈fp,∃o,h.get? b=some o/\∀v,o.data≠.cell v
 keep:∀i h h',tn i h->(∀b∈fp,∀o,h.get? b=some o->h'.get? b=some o)->tn i h'
 item:∀(X:Cx),X.prog=P->X.w=w->X.K=K->Cm X->∀(i:Nat) (pins:gx) (s:Shared) (σ:St) (H:Hp) (E:Value->Shared->Prop),Inv X pins σ H s->(∀b∈fp,FpOk X pins H b)->tn i s.heap->J.go i H ->
  wpAny (model P w) X.A (pyNext (.ref it)) (λr s1=>∃u,r=some u /\
   wpAny (model P w) X.A (letOwnedTupleGo tg (.ref it) u) (λ_ s2=>∃x H',Inv X pins σ H' s2/\RelV x u/\J.yld i H x H'/\tn (i+1) s2.heap/\∀b∈fp,H' b=none) E s1) E s
 done:∀(X:Cx),X.prog=P->X.w=w->X.K=K->Cm X->∀(i:Nat) (pins:gx) (s:Shared) (σ:St) (H:Hp) (E:Value->Shared->Prop),Inv X pins σ H s->(∀b∈fp,FpOk X pins H b)->tn i s.heap->J.stop i H ->
  wpAny (model P w) X.A (pyNext (.ref it)) (λr s1=>r=none/\Inv X pins σ H s1) E s
 self:∀(A:Around) (i:Nat) (s:Shared) (Q:Value->Shared->Prop) (E:Value->Shared->Prop),tn i s.heap->Q (.ref it) s->wpAny (model P w) A (pyIter (.ref it)) Q E s
abbrev Turn:=vx λX=>X.calm=true
abbrev TI:=St->Hp->(It->Hp->Prop)->Prop
def PIEC(Cm:Cx->Prop)(X:Cx)(pins:gx)(σ:St)(tg:Expr)(R:It->Hp->Prop)(D:Value)(s2:Shared):Prop :=
 ∃(it:Addr) (fp:fh) (tn:Nat->Heap->Prop) (J:It) (H':Hp),D=.ref it/\Inv X pins σ H' s2/\vx Cm X.prog X.w X.K tg J fp it tn/\tn 0 s2.heap/\(∀b∈fp,FpOk X pins H' b)/\R J H'
def PIC(Cm:Cx->Prop)(X:Cx)(tg iter:Expr)(wi:TI):Prop :=
 ∀(pins:gx) (s:Shared) (σ:St) (H:Hp) (R:It->Hp->Prop),Inv X pins σ H s->wi σ H R ->
  wpAny (model X.prog X.w) X.A (eval iter X.env) (λv D=>wpAny (model X.prog X.w) X.A (pyIter v) (PIEC Cm X pins σ tg R) X.xe D) X.xe s
abbrev PI:=PIC λX=>X.calm=true
variable{vs:g0}
def zzo{n:String}{vs:gy}(I:s.heap.get? it=some o)(U:o.cls=.type n)(hd:o.data=.fields vs)(V:["enumerate", "zip", "dict_itemiterator", "dict_reverseitemiterator", "odict_iterator", "itertools.zip_longest", "itertools.pairwise"].contains n=false)(D:Q () s):wpAny M A (letOwnedTupleGo tg (.ref it) u) Q E s:=by
 unfold letOwnedTupleGo;cases tg <;> first
  | exact wpAny_pure D
  | (cases u <;> first
      | exact wpAny_pure D
      | (refine wpAny_bind (wpAny_load I ?_)
         rw[U,hd];show wpAny M A (if (["enumerate", "zip", "dict_itemiterator", "dict_reverseitemiterator", "odict_iterator", "itertools.zip_longest", "itertools.pairwise"].contains n && vs[0]?==some (rawInt _))=true then _ else _) Q E s;rw[if_neg (by intro h;rw[V,Bool.false_and] at h;cases h)];exact wpAny_pure D))
def Itl(K:gu)(a:Addr):It :=
 ⟨λi H=>∃xs x,SqL K H a xs/\xs[i]?=some x,λi H x H'=>H'=H/\∀xs,SqL K H a xs->xs[i]?=some x,λi H=>∃xs,SqL K H a xs/\xs.length<=i⟩
def Itt(K:gu)(a:Addr):It :=
 ⟨λi H=>∃xs x,SqT K H a xs/\xs[i]?=some x,λi H x H'=>H'=H/\∀xs,SqT K H a xs->xs[i]?=some x,λi H=>∃xs,SqT K H a xs/\xs.length<=i⟩
def Itr(lo:Int)(n:Nat):It:=⟨λi _=>i<n,λi H x H'=>H'=H/\x=.int (lo+i),λi _=>n<=i⟩
def zs7(a it:Addr):Turn P w K tg (Itl K a) [it] it (λi h=>h.IsListIter it a i) where
 mem:=by simp
 obj:=λi h st b D=>by
  have e:b=it:=by simpa using D
  subst e;obtain⟨o,e,c,d⟩:=st;exact⟨o,e,λv z=>by rw[d] at z;cases z⟩
 keep:=λi h h' st k=>st.at λo e=>k it (by simp) o e
 item:=by
  intro X hP Z f y i pins s σ H E I V st g;subst hP Z f;obtain⟨xs,x,Y,j⟩:=g;obtain⟨its,l,p,A⟩:=I.list Y;obtain⟨u,B,C⟩:=l.get j;obtain⟨m,n,F,q,r,t⟩:=V it (by simp);refine wpAny_pyNext_list_item st p.isList (x:=u) (by simpa using B) λh' U G=>?_;have J:Inv X pins σ H { s with heap:=h' }:=I.turned (t':=s.toks) (λb o D e=>(G.2 b D).trans e) m n q r t;obtain⟨o,e,c,d⟩:=id U;exact⟨u,rfl,zzo (s:={ s with heap:=h' }) e c d (by decide) ⟨x,H,J,C,⟨rfl,λys L=>by rw[I.list_inj L Y];exact j⟩,U,λb D=>(V b D).1⟩⟩
 done:=by
  intro X hP Z f y i pins s σ H E I V st g;subst hP Z f;obtain⟨xs,Y,j⟩:=g;obtain⟨its,l,p,A⟩:=I.list Y;obtain⟨m,n,F,q,r,t⟩:=V it (by simp);have N:=l.length;exact wpAny_pyNext_list_end (I.ok.hd y) st p.isList (by simp;omega) λh' M=>⟨rfl,I.turned (t':=s.toks) (λb o D e=>M b o D e) m n q r t⟩
 self:=λ_ _ _ _ _ st h=>wpAny_pyIter_listiter st h
def zrx(a it:Addr):Turn P w K tg (Itt K a) [it] it (λi h=>h.IsTupleIter it a i) where
 mem:=by simp
 obj:=λi h st b D=>by
  have e:b=it:=by simpa using D
  subst e;obtain⟨o,e,c,d⟩:=st;exact⟨o,e,λv z=>by rw[d] at z;cases z⟩
 keep:=λi h h' st k=>st.at λo e=>k it (by simp) o e
 item:=by
  intro X hP Z f y i pins s σ H E I V st g;subst hP Z f;obtain⟨xs,x,Y,j⟩:=g;obtain⟨its,l,p,A⟩:=I.tuple Y;obtain⟨u,B,C⟩:=l.get j;obtain⟨m,n,F,q,r,t⟩:=V it (by simp);refine wpAny_pyNext_tuple_item st (show s.heap.IsTuple a its.toArray from p) (x:=u) (by simpa using B) λh' U G=>?_;have J:Inv X pins σ H { s with heap:=h' }:=I.turned (t':=s.toks) (λb o D e=>(G.2 b D).trans e) m n q r t;obtain⟨o,e,c,d⟩:=id U;exact⟨u,rfl,zzo (s:={ s with heap:=h' }) e c d (by decide) ⟨x,H,J,C,⟨rfl,λys L=>by rw[I.tuple_inj L Y];exact j⟩,U,λb D=>(V b D).1⟩⟩
 done:=by
  intro X hP Z f y i pins s σ H E I V st g;subst hP Z f;obtain⟨xs,Y,j⟩:=g;obtain⟨its,l,p,A⟩:=I.tuple Y;obtain⟨m,n,F,q,r,t⟩:=V it (by simp);have N:=l.length;exact wpAny_pyNext_tuple_end (I.ok.hd y) st (show s.heap.IsTuple a its.toArray from p) (by simp;omega) λh' M=>⟨rfl,I.turned (t':=s.toks) (λb o D e=>M b o D e) m n q r t⟩
 self:=λ_ _ _ _ _ st h=>wpAny_pyIter_tupleiter st h
def zln(it:Addr)(lo:Int)(n:Nat):Turn P w K tg (Itr lo n) [it] it (λi h=>IsRangeIter h it (lo+(i:Nat)*1) ((n:Int)-(i:Nat)) 1) where
 mem:=by simp
 obj:=λi h st b D=>by
  have e:b=it:=by simpa using D
  subst e;exact⟨_,st,λv z=>by
   have m:Data.fields _=Data.cell v:=z;cases m⟩
 keep:=λi h h' st k=>k it (by simp) _ st
 item:=by
  intro X hP Y Z a i pins s σ H E I V st c;subst hP Y Z;obtain⟨d,f,p,g,j,l⟩:=V it (by simp);have W:=Walks.range (prog:=X.prog) (w:=X.w) (I.ok.hd a) it lo 1 n;refine W.item i s _ _ c st λv h' tk q U kk=>?_;obtain⟨t,rfl⟩:=q;have r:Inv X pins σ H { s with heap:=h',toks:=tk }:=I.turned (λb o D e=>kk b o (by simpa using D) e) d f g j l;refine⟨_,rfl,zzo (s:={ s with heap:=h',toks:=tk }) (n:="range_iterator") U rfl rfl (by decide) ⟨.int (lo+i),H,r,⟨t,?_⟩,⟨rfl,rfl⟩,U,λb D=>(V b D).1⟩⟩;rw[Int.mul_one]
 done:=by
  intro X hP Y Z a i pins s σ H E I V st c;subst hP Y Z;obtain⟨d,f,p,g,j,l⟩:=V it (by simp);exact wpAny_pyNext_range_end (I.ok.hd a) st (by have:n<=i:=c;omega) λh' u=>⟨rfl,I.turned (t':=s.toks) (λb o D e=>u b o D e) d f g j l⟩
 self:=λ_ _ _ _ _ st h=>wpAny_pyIter_rangeiter st h
def z5b(K:gu)(tl:TE):TI:=λσ H R=>tl σ H λx H1=>∃a,x=.ref a/\(∃xs,SqL K H1 a xs)/\R (Itl K a) H1
def iTup(K:gu)(tl:TE):TI:=λσ H R=>tl σ H λx H1=>∃a,x=.ref a/\(∃xs,SqT K H1 a xs)/\R (Itt K a) H1
variable{l:Expr}
def zs8{tl:TE}(V:PE X l tl):PI X tg l (z5b X.K tl):=by
 intro pins s σ H R I h;refine thn (V pins s σ H _ I h) λv D Y=>?_;obtain⟨x,H1,U,Z,c⟩:=Y;obtain⟨a,e,⟨xs,d⟩,q⟩:=c;subst e;cases Z;obtain⟨its,g,p,i⟩:=U.list d;refine wpAny_pyIter_list p.isList ?_;refine⟨D.heap.objs.size,[D.heap.objs.size],_,_,H1,rfl,U.kept (t':=D.toks) λb o e=>av _ e,zs7 a _,⟨_,c8 _ rfl,rfl,rfl⟩,λb f=>?_,q⟩;have e:b=D.heap.objs.size:=by simpa using f
 subst e;exact U.fpOk (bo _) (U.hok.fresh (bo _))
def z2h{tl:TE}(V:PE X l tl):PI X tg l (iTup X.K tl):=by
 intro pins s σ H R I h;refine thn (V pins s σ H _ I h) λv D Y=>?_;obtain⟨x,H1,U,Z,c⟩:=Y;obtain⟨a,e,⟨xs,d⟩,q⟩:=c;subst e;cases Z;obtain⟨its,g,p,i⟩:=U.tuple d;refine wpAny_pyIter_tuple (show D.heap.IsTuple a its.toArray from p) ?_;refine⟨D.heap.objs.size,[D.heap.objs.size],_,_,H1,rfl,U.kept (t':=D.toks) λb o e=>av _ e,zrx a _,⟨_,c8 _ rfl,rfl,rfl⟩,λb f=>?_,q⟩;have e:b=D.heap.objs.size:=by simpa using f
 subst e;exact U.fpOk (bo _) (U.hok.fresh (bo _))
variable{v:Value}{Cm:Cx->Prop}
def zqf(hT:∀(it:Addr) (lo:Int) (n:Nat),vx Cm X.prog X.w X.K tg (Itr lo n) [it] it (λi h=>IsRangeIter h it (lo+(i:Nat)*1) ((n:Int)-(i:Nat)) 1)){R:It->Hp->Prop}{lo hi:Int}{t u v:Tok}{tk:Nat}(I:Inv X pins σ H s)(h1:-(2 ^ 62)<=lo)(h2:lo<2 ^ 62)(U:-(2 ^ 62)<=hi)(V:hi<2 ^ 62)(q:R (Itr lo (hi-lo).toNat) H):wpAny (model X.prog X.w) X.A (pyIter (.ref s.heap.objs.size)) (PIEC Cm X pins σ tg R) E { s with heap:=s.heap.push { cls:=.type "range",data:=.fields #[.int lo t,.int hi u,.int 1 v] },toks:=tk }:=by
 refine wpAny_pyIter_range (IsRange.new ..) (small_one h1 h2 U V) ?_;have D:Inv X pins σ H { s with heap:=s.heap.push { cls:=.type "range",data:=.fields #[.int lo t,.int hi u,.int 1 v] },toks:=tk }:=I.kept λb o e=>av _ e;refine⟨(s.heap.push { cls:=.type "range",data:=.fields #[.int lo t,.int hi u,.int 1 v] }).objs.size,[(s.heap.push { cls:=.type "range",data:=.fields #[.int lo t,.int hi u,.int 1 v] }).objs.size],_,_,H,rfl,
  D.kept (t':=tk) λb o e=>av _ e,hT _ lo (hi-lo).toNat,?_,λb Y=>?_,q⟩
 ·have Z:lo+((0:Nat):Int)*1=lo:=by simp
  have a:(((hi-lo).toNat:Nat):Int)-((0:Nat):Int)=Builtin.Range.rangeSize lo hi 1:=by rw[rangeSize_one];split <;> omega
  show IsRangeIter _ _ (lo+((0:Nat):Int)*1) ((((hi-lo).toNat:Nat):Int)-((0:Nat):Int)) 1;rw[Z,a];exact c8 _ rfl
 ·have e:b=(s.heap.push { cls:=.type "range",data:=.fields #[.int lo t,.int hi u,.int 1 v] }).objs.size:=by simpa using Y
  subst e;exact D.fpOk (bo _) (D.hok.fresh (bo _))
def z5c(ta:TA):TI:=λσ H R=>ta σ H λvs H1=>∃j:Int,vs=[.int j]/\-(2 ^ 62)<=j/\j<2 ^ 62/\R (Itr 0 j.toNat) H1
def z5d(ta:TA):TI:=λσ H R=>ta σ H λvs H1=>∃i j:Int,vs=[.int i,.int j]/\(-(2 ^ 62)<=i/\i<2 ^ 62/\-(2 ^ 62)<=j/\j<2 ^ 62)/\R (Itr i (j-i).toNat) H1
variable{a:Expr}{ta:TA}{p:Pos}
def zry(hT:∀(it:Addr) (lo:Int) (n:Nat),vx Cm X.prog X.w X.K tg (Itr lo n) [it] it (λi h=>IsRangeIter h it (lo+(i:Nat)*1) ((n:Int)-(i:Nat)) 1))(U:Gl X "range")(V:X.mg "range" = none)(Y:PA X [a] ta)(Z:starEach [a] X.env=[(false,eval a X.env)]:=by rfl):PIC Cm X tg (.Call (.Name "range" p) [a] [] pos) (z5c ta):=by
 intro pins s σ H R I h;refine Call_ (t3 I U V boot_range (f6 (thn (Y pos pins s σ H _ I h) λus g b=>?_) Z rfl));obtain⟨vs,H1,c,d,D⟩:=b;obtain⟨j,e,D,f,q⟩:=D;subst e;cases d with
 | cons r rr =>
   cases rr;obtain⟨t,rfl⟩:=r;exact call_range_1 (zqf hT c (by omega) (by omega) D f (by simpa using q))
def zs9{b:Expr}(V:Gl X "range")(Y:X.mg "range" = none)(Z:PA X [a,b] ta)(c:starEach [a,b] X.env=[(false,eval a X.env),(false,eval b X.env)]:=by rfl)(D:starEach [b] X.env=[(false,eval b X.env)]:=by rfl) :
  PI X tg (.Call (.Name "range" p) [a,b] [] pos) (z5d ta):=by
 intro pins s σ H R I h;refine Call_ (t3 I V Y boot_range (f6 (thn (Z pos pins s σ H _ I h) λus o d=>?_) (by rw[c,D]) (by rw[D];rfl)));obtain⟨vs,H1,f,g,U⟩:=d;obtain⟨i,j,e,⟨U,k,l,m⟩,q⟩:=U;subst e;cases g with
 | cons r rr =>
   cases rr with
   | cons r' rr =>
     cases rr;obtain⟨t,rfl⟩:=r;obtain⟨t',rfl⟩:=r';exact call_range_2 (zqf (λit lo n=>zln it lo n) f U k l m q)
def tFor(wi:TI)(g:TG)(tb:TS):TS:=λD σ H=>wi σ H λJ H1=>∃W:Nat->Nat->St->Hp->Prop,(∃m,W 0 m σ H1)/\∀i m σ H,W i m σ H ->
 (J.stop i H/\D.nx σ H)\/(J.go i H/\∃N:St->Hp->Prop,(∀σ' H',N σ' H'->∃U,U<m/\W (i+1) U σ' H')/\∀x H',J.yld i H x H'->g x σ H' λI H2=>tb { D with nx:=N,ct:=N,bk:=D.nx } I H2)
def we(fp:fh)(h:Heap):gx:=fp.filterMap λb=>(h.get? b).map λo=>(b,o)
variable{fp:fh}
def xk(D:b∈fp)(e:h.get? b=some o):(b,o)∈we fp h:=m9.mpr ⟨b,D,by rw[e];rfl⟩
def zta{p:Addr×Obj}(D:p∈we fp h):p.1∈fp/\h.get? p.1=some p.2:=by
 obtain⟨b,I,e⟩:=m9.mp D;cases q:h.get? b with
 | none=>rw[q] at e;cases e
 | some o =>
   rw[q] at e;have e':(b,o)=p:=bh e;subst e';exact⟨I,q⟩
def Inv.pinned(I:Inv X pins σ H s)(U:∀b∈fp,FpOk X pins H b)(V:∀b∈fp,∃o,s.heap.get? b=some o/\∀v,o.data≠.cell v):Inv X (pins++we fp s.heap) σ H s :=
 I.pins_of λp Y=>(de.mp Y).elim (λz=>I.pin p (bn _ z)) λz=>by
  obtain⟨D,e⟩:=zta z;obtain⟨Z,a,c,_⟩:=U p.1 D;obtain⟨o,e',d⟩:=V p.1 D;rw[e] at e';cases e';exact⟨e,Z,a,c,d⟩
def Inv.unpinned{pins pl:gx}(I:Inv X (pins++pl) σ H s):Inv X pins σ H s:=I.pins_of λp D=>I.pin p (bn _ (e7 _ D))
def z2i{iter:Expr}{wi:TI}(l:PassesOwn (model X.prog X.w) X.A X.env X.xe)(F:X.calm=true)(hi:PI X tg iter wi)(O:PG X tg g)(V:PSs X body tb)(P:∀x,foldedSetIterable iter X.env x=pure x:=by intro _;rfl):PS X (.For tg iter body [] pos) (tFor wi g tb):=by
 intro pins s σ H D I h;refine wpAny_For (thn (hi pins s σ H _ I h) λv s1 h1=>thn h1 λQ s2 h2=>?_) P;obtain⟨it,fp,tn,J,H2,e,R,T,t,G,W,⟨m0,S⟩,turn⟩:=h2;subst e;have Y:∀ {H':Hp},(∀b∈fp,H' b=none)->∀b∈fp,FpOk X pins H' b:=λhn b V=>⟨hn b V,(G b V).2⟩;refine codeAny_forLoop_any (λn s'=>∃i σ' H',Inv X pins σ' H' s'/\tn i s'.heap/\(∀b∈fp,H' b=none)/\W i n σ' H') ?_ m0 ⟨0,σ,H2,R,t,λb V=>(G b V).1,S⟩;rintro n K ⟨i,σ3,H3,I3,st3,fr3,w3⟩;rcases turn i n σ3 H3 w3 with⟨p,qn⟩ | ⟨go,N,hN,step⟩
 ·refine wpAny_passesOwn l (thn (T.done X rfl rfl rfl F i pins K σ3 H3 X.xe I3 (Y fr3) st3 p) λr s4 j=>?_)
  obtain⟨y,I4⟩:=j;subst y;exact wpAny_execs_nil ⟨σ3,H3,I4,qn⟩
 ·refine wpAny_passesOwn l (thn (T.item X rfl rfl rfl F i pins K σ3 H3 X.xe I3 (Y fr3) st3 go) λr s4 j=>?_)
  obtain⟨u,y,h4⟩:=j;subst y;refine wpAny_passesOwn l (thn h4 λ_ L j=>?_);obtain⟨x,M,I5,r5,y5,k,z⟩:=j;have B:=I5.pinned (Y z) (T.obj _ _ k);refine wpAny_passesOwn l (thn (O _ L σ3 M x u _ B r5 (step x M y5)) λ_ s6 j=>?_);obtain⟨C,H6,I6,q6⟩:=j;refine wpAny_passesOwn l (thn (V _ s6 C H6 _ I6 q6) λf E c=>?_);have again:∀ {U:St} {Z:Hp},Inv X (pins++we fp L.heap) U Z E->N U Z->∃m,m<n/\∃i σ' H',Inv X pins σ' H' E/\tn i E.heap/\(∀b∈fp,H' b=none)/\W i m σ' H':=λ{U Z} a q=>by
   obtain⟨m',hm,w7⟩:=hN U Z q;refine⟨m',hm,i+1,U,Z,a.unpinned,T.keep _ _ _ k λb V o e=>(a.pin (b,o) (bn _ (bn _ (xk V e)))).1,λb V=>?_,w7⟩;obtain⟨o,e,d⟩:=T.obj _ _ k b V;exact(a.pin (b,o) (bn _ (bn _ (xk V e)))).2.1
  cases f with
  | next=>obtain⟨U,Z,a,q⟩:=c;exact again a q
  | cont=>obtain⟨U,Z,a,q⟩:=c;exact again a q
  | brk=>obtain⟨U,Z,a,c⟩:=c;exact⟨U,Z,a.unpinned,c⟩
  | ret v=>obtain⟨x7,U,Z,a,r7,c⟩:=c;exact⟨x7,U,Z,a.unpinned,r7,c⟩
abbrev R2:=V->V->Hp->VK->Prop
def OpR(X:Cx)(f:Value->Value->Sem Value)(r:R2):Prop :=
 ∀(pins:gx) (s:Shared) (σ:St) (H:Hp) (x y:V) (v u:Value) (Q:VK),Inv X pins σ H s->RelV x v->RelV y u->r x y H Q ->
  wpAny (model X.prog X.w) X.A (f v u) (EP X pins σ Q) X.xe s
def UnR(X:Cx)(f:Value->Sem Value)(r:V->Hp->VK->Prop):Prop :=
 ∀(pins:gx) (s:Shared) (σ:St) (H:Hp) (x:V) (v:Value) (Q:VK),Inv X pins σ H s->RelV x v->r x H Q ->
  wpAny (model X.prog X.w) X.A (f v) (EP X pins σ Q) X.xe s
def pv(X:Cx)(f:Value)(r:g0->Hp->VK->Prop):Prop :=
 ∀(pins:gx) (s:Shared) (σ:St) (H:Hp) (xs:g0) (us:fe) (Q:VK),Inv X pins σ H s->Vals xs us->r xs H Q ->
  wpAny (model X.prog X.w) X.A (call f us) (EP X pins σ Q) X.xe s
def tOp(r:R2)(ta tb:TE):TE:=λσ H Q=>ta σ H λx H1=>tb σ H1 λy H2=>r x y H2 Q
def tUn(r:V->Hp->VK->Prop)(ta:TE):TE:=λσ H Q=>ta σ H λx H1=>r x H1 Q
def rI(C:Int->Int->Prop)(g:Int->Int->V):R2:=λx y H Q=>∃i j,x=.int i/\y=.int j/\C i j/\Q (g i j) H
def rI0(g:Int->Int->V):R2:=λx y H Q=>∃i j,x=.int i/\y=.int j/\Q (g i j) H
def rU(g:Int->V):V->Hp->VK->Prop:=λx H Q=>∃i,x=.int i/\Q (g i) H
variable{b:Expr}{Q:Value->Shared->Prop}{tb ta:TE}{f:Value->Value->Sem Value}
def binT(Y:PE X a ta)(Z:PE X b tb){R:V->V->Hp->Prop}(I:Inv X pins σ H s)(h:ta σ H λx H1=>tb σ H1 λy H2=>R x y H2)(c:∀v u s2 x y H2,Inv X pins σ H2 s2->RelV x v->RelV y u->R x y H2->wpAny (model X.prog X.w) X.A (f v u) Q X.xe s2) :
  wpAny (model X.prog X.w) X.A (eval a X.env) (λv D=>wpAny (model X.prog X.w) X.A (eval b X.env) (λu s₂=>wpAny (model X.prog X.w) X.A (f v u) Q X.xe s₂) X.xe D) X.xe s:=by
 refine thn (Y pins s σ H _ I h) λv d U=>?_;obtain⟨x,H1,e,g,i⟩:=U;refine thn (Z pins d σ H1 _ e i) λu s2 U=>?_;obtain⟨y,H2,j,k,l⟩:=U;exact c v u s2 x y H2 j g k l
variable{r:R2}
def zzp(D:OpR X (binaryOp op) r)(U:PE X a ta)(V:PE X b tb):PE X (.BinOp a op b pos) (tOp r ta tb):=by
 intro pins s σ H Q I h;exact wpAny_BinOp (binT U V I h λv u s2 x y H2 Y Z c q=>D pins s2 σ H2 x y v u Q Y Z c q)
variable{op:CmpOp}
def z2j{op:UnaryOp}{r:V->Hp->VK->Prop}(D:UnR X (unaryOp op) r)(U:PE X a ta):PE X (.UnaryOp op a pos) (tUn r ta):=by
 intro pins s σ H Q I h;exact UnaryOp_ (thn (U pins s σ H _ I h) λv s1 ⟨x,H1,I1,r1,q1⟩=>D pins s1 σ H1 x v Q I1 r1 q1)
variable{g:Int->Int->Int}{C:Addr}
def opI{C:Int->Int->Prop}(rule:∀(i j:Int) (t u:Tok) (s:Shared) (Q:Value->Shared->Prop) (E:Value->Shared->Prop),C i j->Q (.int (g i j) s.toks) { s with toks:=s.toks+1 }->wpAny (model X.prog X.w) X.A (f (.int i t) (.int j u)) Q E s) :
  OpR X f (rI C λi j=>.int (g i j)):=by
 intro pins s σ H x y v u Q I D U h;obtain⟨i,j,rfl,rfl,V,q⟩:=h;obtain⟨t,rfl⟩:=D;obtain⟨t',rfl⟩:=U;exact rule i j t t' s _ _ V ⟨.int (g i j),H,I.tok _,⟨_,rfl⟩,q⟩
def opI0(rule:∀(i j:Int) (t u:Tok) (s:Shared) (Q:Value->Shared->Prop) (E:Value->Shared->Prop),Q (.int (g i j) s.toks) { s with toks:=s.toks+1 }->wpAny (model X.prog X.w) X.A (f (.int i t) (.int j u)) Q E s) :
  OpR X f (rI0 λi j=>.int (g i j)):=by
 intro pins s σ H x y v u Q I D U h;obtain⟨i,j,rfl,rfl,q⟩:=h;obtain⟨t,rfl⟩:=D;obtain⟨t',rfl⟩:=U;exact rule i j t t' s _ _ ⟨.int (g i j),H,I.tok _,⟨_,rfl⟩,q⟩
def opB0{g:Int->Int->Bool}(rule:∀(i j:Int) (t u:Tok) (s:Shared) (Q:Value->Shared->Prop) (E:Value->Shared->Prop),Q (.bool (g i j)) s->wpAny (model X.prog X.w) X.A (f (.int i t) (.int j u)) Q E s) :
  OpR X f (rI0 λi j=>.bl (g i j)):=by
 intro pins s σ H x y v u Q I D U h;obtain⟨i,j,rfl,rfl,q⟩:=h;obtain⟨t,rfl⟩:=D;obtain⟨t',rfl⟩:=U;exact rule i j t t' s _ _ ⟨.bl (g i j),H,I,rfl,q⟩
def CDiv(i j:Int):Prop:=0<j/\j<1073741824
def CMul(i j:Int):Prop:=(-(2 ^ 64)<i/\i<2 ^ 64)\/(-(2 ^ 64)<j/\j<2 ^ 64)
def CMul.ok(h:CMul i j):IntMulOk i j:=by
 rcases h with⟨h1,h2⟩ | ⟨h1,h2⟩
 ·exact .of_left (intBits_le_64 h1 h2)
 ·exact .of_right (intBits_le_64 h1 h2)
def z2k:OpR X (binaryOp .Add) (rI0 λi j=>.int (i+j)):=opI0 λ_ _ _ _ _ _ _ q=>add_int q
def z2l:OpR X (binaryOp .Sub) (rI0 λi j=>.int (i-j)):=opI0 λ_ _ _ _ _ _ _ q=>sub_int q
def z2m:OpR X (binaryOp .Mult) (rI CMul λi j=>.int (i*j)):=opI λ_ _ _ _ _ _ _ D q=>mul_int q D.ok
def zzq:OpR X (binaryOp .FloorDiv) (rI CDiv λi j=>.int (i / j)):=opI λi j _ _ _ _ _ D q=>by
 have h1:(0:Int)<j:=D.1;have h2:j<1073741824:=D.2;exact floordiv_int (by omega) (by rw[Int.fdiv_eq_ediv_of_nonneg i (by omega)];exact q) (.inl (PyProof.noPylong_small (by omega)))
def z2n:OpR X (binaryOp .Mod) (rI (λ_ j=>0<j) λi j=>.int (i % j)):=opI λi j _ _ _ _ _ D q=>by
 have h1:(0:Int)<j:=D;exact mod_int' (by omega) (by rw[Int.fmod_eq_emod_of_nonneg i (by omega)];exact q)
variable{f:Addr}
def unI{f:Value->Sem Value}{g:Int->Int}(rule:∀(i:Int) (t:Tok) (s:Shared) (Q:Value->Shared->Prop) (E:Value->Shared->Prop),Q (.int (g i) s.toks) { s with toks:=s.toks+1 }->wpAny (model X.prog X.w) X.A (f (.int i t)) Q E s) :
  UnR X f (rU λi=>.int (g i)):=by
 intro pins s σ H x v Q I D h;obtain⟨i,rfl,q⟩:=h;obtain⟨t,rfl⟩:=D;exact rule i t s _ _ ⟨.int (g i),H,I.tok _,⟨_,rfl⟩,q⟩
def zyj:UnR X (unaryOp .USub) (rU λi=>.int (-i)):=unI λ_ _ _ _ _ q=>neg_int q
def scal:V->V->Bool
 | .non,.non=>true | .non,.int _=>true | .int _,.non=>true | .non,.bl _=>true | .bl _,.non=>true | .non,.str _=>true | .str _,.non=>true
 | .int _,.int _=>true | .bl _,.bl _=>true | .str _,.str _=>true | .byt _,.byt _=>true
 | .int _,.str _=>true | .str _,.int _=>true | .bl _,.str _=>true | .str _,.bl _=>true
 | _,_=>false
def rEq:R2:=λx y H Q=>scal x y=true/\Q (.bl (decide (x=y))) H
def rNe:R2:=λx y H Q=>scal x y=true/\Q (.bl (!decide (x=y))) H
def ztb:decide (V.int i=V.int j)=(i==j):=by
 rw[lj];simp
def zyk{i j:Bool}:decide (V.bl i=V.bl j)=(i==j):=by
 rw[lj];simp
def ztc{i j:Str}:decide (V.str i=V.str j)=(i==j):=by
 rw[lj];simp
def ztd{i j:Array UInt8}:decide (V.byt i=V.byt j)=(i.toList==j.toList):=by
 rw[lj];cases i;cases j;simp
def j7{Q:VK}{k k':Bool}(I:Inv X pins σ H s)(q:Q (.bl k) H)(e:k=k'):EP X pins σ Q (.bool k') s:=by
 subst e;exact⟨.bl k,H,I,rfl,q⟩
def z2o:OpR X (compareOp .Eq) rEq:=by
 intro pins s σ H x y v u Q I V D h;obtain⟨U,q⟩:=h;cases x with
 | non =>
   cases V;cases y with
   | non=>cases D;exact PySem.EqNone.eq_none_none (j7 I q (by simp))
   | bl j=>cases D;exact PySem.EqNone.eq_none_bool (j7 I q (by simp))
   | int j=>obtain⟨t',rfl⟩:=D;exact PySem.EqNone.eq_none_int (j7 I q (by simp))
   | str j=>obtain⟨t',rfl⟩:=D;exact PySem.EqNone.eq_none_str (j7 I q (by simp))
   | _=>exact absurd (show false=true from U) ce
 | bl i =>
   cases V;cases y with
   | non=>cases D;exact PySem.EqNone.eq_bool_none (j7 I q (by simp))
   | bl j=>cases D;exact eq_bool (j7 I q zyk)
   | str j=>obtain⟨t',rfl⟩:=D;exact PySem.EqMixed.eq_bool_str (j7 I q (by simp))
   | _=>exact absurd (show false=true from U) ce
 | int i =>
   obtain⟨t,rfl⟩:=V;cases y with
   | non=>cases D;exact PySem.EqNone.eq_int_none (j7 I q (by simp))
   | int j=>obtain⟨t',rfl⟩:=D;exact eq_int (j7 I q ztb)
   | str j=>obtain⟨t',rfl⟩:=D;exact PySem.EqMixed.eq_int_str (j7 I q (by simp))
   | _=>exact absurd (show false=true from U) ce
 | str i =>
   obtain⟨t,rfl⟩:=V;cases y with
   | non=>cases D;exact PySem.EqNone.eq_str_none (j7 I q (by simp))
   | bl j=>cases D;exact PySem.EqMixed.eq_str_bool (j7 I q (by simp))
   | int j=>obtain⟨t',rfl⟩:=D;exact PySem.EqMixed.eq_str_int (j7 I q (by simp))
   | str j=>obtain⟨t',rfl⟩:=D;exact eq_str (j7 I q ztc)
   | _=>exact absurd (show false=true from U) ce
 | byt i =>
   obtain⟨t,rfl⟩:=V;cases y with
   | byt j=>obtain⟨t',rfl⟩:=D;exact PySem.W.eq_bytes (j7 I q ztd)
   | _=>exact absurd (show false=true from U) ce
 | _=>cases y <;> exact absurd (show false=true from U) ce
def z5e:OpR X (compareOp .NotEq) rNe:=by
 intro pins s σ H x y v u Q I V D h;obtain⟨U,q⟩:=h;cases x with
 | non =>
   cases V;cases y with
   | non=>cases D;exact PySem.EqNone.ne_none_none (j7 I q (by simp))
   | bl j=>cases D;exact PySem.EqNone.ne_none_bool (j7 I q (by simp))
   | int j=>obtain⟨t',rfl⟩:=D;exact PySem.EqNone.ne_none_int (j7 I q (by simp))
   | str j=>obtain⟨t',rfl⟩:=D;exact PySem.EqNone.ne_none_str (j7 I q (by simp))
   | _=>exact absurd (show false=true from U) ce
 | bl i =>
   cases V;cases y with
   | non=>cases D;exact PySem.EqNone.ne_bool_none (j7 I q (by simp))
   | bl j=>cases D;exact ne_bool (j7 I q (congrArg not zyk))
   | str j=>obtain⟨t',rfl⟩:=D;exact PySem.EqMixed.ne_bool_str (j7 I q (by simp))
   | _=>exact absurd (show false=true from U) ce
 | int i =>
   obtain⟨t,rfl⟩:=V;cases y with
   | non=>cases D;exact PySem.EqNone.ne_int_none (j7 I q (by simp))
   | int j=>obtain⟨t',rfl⟩:=D;exact ne_int (j7 I q (congrArg not ztb))
   | str j=>obtain⟨t',rfl⟩:=D;exact PySem.EqMixed.ne_int_str (j7 I q (by simp))
   | _=>exact absurd (show false=true from U) ce
 | str i =>
   obtain⟨t,rfl⟩:=V;cases y with
   | non=>cases D;exact PySem.EqNone.ne_str_none (j7 I q (by simp))
   | bl j=>cases D;exact PySem.EqMixed.ne_str_bool (j7 I q (by simp))
   | int j=>obtain⟨t',rfl⟩:=D;exact PySem.EqMixed.ne_str_int (j7 I q (by simp))
   | str j=>obtain⟨t',rfl⟩:=D;exact ne_str (j7 I q (congrArg not ztc))
   | _=>exact absurd (show false=true from U) ce
 | byt i =>
   obtain⟨t,rfl⟩:=V;cases y with
   | byt j=>obtain⟨t',rfl⟩:=D;exact PySem.W.ne_bytes (j7 I q (congrArg not ztd))
   | _=>exact absurd (show false=true from U) ce
 | _=>cases y <;> exact absurd (show false=true from U) ce
def z5f:OpR X (compareOp .Lt) (rI0 λi j=>.bl (decide (i<j))):=opB0 λ_ _ _ _ _ _ _ q=>lt_int q
def z2p:OpR X (compareOp .Gt) (rI0 λi j=>.bl (decide (j<i))):=opB0 λ_ _ _ _ _ _ _ q=>gt_int q
def z5g:OpR X (compareOp .GtE) (rI0 λi j=>.bl (decide (j<=i))):=opB0 λ_ _ _ _ _ _ _ q=>ge_int q
def uz(b:Expr)(h:op≠.In:=by decide)(h2:op≠.NotIn:=by decide):behindInMarks op b=false:=by
 have D:(op==CmpOp.In)=false:=by cases op <;> first | rfl | exact absurd rfl h
 have I:(op==CmpOp.NotIn)=false:=by cases op <;> first | rfl | exact absurd rfl h2
 cases b <;> simp[behindInMarks,D,I]
def zzr(D:OpR X (compareOp op) r)(U:PE X a ta)(V:PE X b tb)(Y:behindInMarks op b=false):PE X (.Compare a [op] [b] pos) (tOp r ta tb):=by
 intro pins s σ H Q I h;exact wpAny_Compare1 (binT U V I h λv u s2 x y H2 Z c d q=>D pins s2 σ H2 x y v u Q Z c d q) Y
def z2q(t:TE):TT:=λσ H Q=>t σ H λx H'=>∃k,x=.bl k/\Q k H'
def zzs(D:OpR X (compareOp op) r)(U:PE X a ta)(V:PE X b tb)(Y:behindInMarks op b=false):PT X (.Compare a [op] [b] pos) (z2q (tOp r ta tb)):=by
 intro pins s σ H Q I h;refine wpAny_isTrue_Compare1 (thn (U pins s σ H _ I h) λv s1 ⟨x,H1,I1,r1,q1⟩=>thn (V pins s1 σ H1 _ I1 q1) λu s2 ⟨y,H2,I2,r2,q2⟩ =>
  thn (D pins s2 σ H2 x y v u _ I2 r1 r2 q2) λc s3 ⟨z,H3,I3,r3,k,e,q3⟩=>?_) Y
 subst e;cases r3;exact wpAny_truthy_bool ⟨H3,I3,q3⟩
def uw:(sizeLine:Nat)<2 ^ 63:=by rw[sizeLine_eq];decide
variable{x:V}
def ya(r:Vals [x] us):∃u,us=[u]/\RelV x u:=by
 cases r with
 | cons r1 r2=>cases r2;exact⟨_,rfl,r1⟩
variable{y:V}
def z2r(r:Vals [x,y] us):∃u D,us=[u,D]/\RelV x u/\RelV y D:=by
 cases r with
 | cons r1 r2 =>
   cases r2 with
   | cons r3 r4=>cases r4;exact⟨_,_,rfl,r1,r3⟩
structure ObjM (h:Heap) (x dx C:Addr) (mA:Str->fg):Prop where
 obj:h.get? x=some (PySem.W.instObj C dx)
 ns:h.Ns1 dx mA
 ne:dx≠x
variable{dx:Addr}{mA:Str->fg}
def ztf(n:h.Ns1 dx mA):∃od,h.get? dx=some od/\∀name,PySem.W.lookIn name od=some (mA name):=by
 obtain⟨o,es,b,I,hd,U,_,V⟩:=n;refine⟨o,I,λname=>?_⟩;have e:=V name;unfold nsFind findBy at e;rw[<-Array.find?_toList] at e;unfold PySem.W.lookIn;rw[hd];dsimp only;split
 ·rename_i y q
  rw[q] at e;exact congrArg some e
 ·rename_i q
  rw[q] at e;have a:es.toList.any (·.refKey)=false:=by
   rw[List.any_eq_false];intro y Y;obtain⟨z,t,D⟩:=U y (Array.mem_toList_iff.mp Y);simp[DictEntry.refKey,D]
  have Z:¬es.toList.any (·.refKey)=true:=by rw[a];exact ce
  rw[if_neg Z];exact congrArg some e
variable{x:Addr}
def ObjM.look(I:ObjM h x dx C mA):∃od,PySem.W.InstAt h x (PySem.W.instObj C dx) C (some od)/\∀name,PySem.W.lookIn name od=some (mA name) :=
 let ⟨od,D,U⟩:=ztf I.ns
 ⟨od,⟨I.obj,rfl,rfl,D⟩,U⟩
variable{prog:Program}{name:Str}
def zzt{D:Bool}(X:K.In s.heap)(I:ObjM s.heap x dx C mA)(V:PySem.W.plainGet K C name=true)(hh:PySem.W.hasDictIn K C=true)(Y:PySem.W.findIn K (.ref C) name=some none)(Z:mA name=some v)(U:PySem.W.handedIn v=true)(h:Q v { s with toks:=s.toks+1 }) :
  wpAny (model prog w) A (getAttr (.ref x) name D) Q E s:=by
 obtain⟨od,J,a⟩:=I.look;exact PySem.W.get_value X J (mq V).1 (PySem.W.findObj_own hh Y rfl (by rw[a,Z])) U h
def zv8{pl:Sem Bool}{Q:Value×fe->Shared->Prop}(X:K.In s.heap)(I:ObjM s.heap x dx C mA)(D:PySem.W.plainGet K C name=true)(U:PySem.W.findIn K (.ref C) name=some (some (.ref f)))(V:PySem.W.isFn K (.ref f)=true)(Y:mA name=none)(h:Q (.ref f,[.ref x]) s) :
  wpAny (model prog w) A (getMethod (.ref x) name pl) Q E s:=by
 obtain⟨od,J,Z⟩:=I.look;exact PySem.W.method_fn X J (mq D).1 (mq D).2 U (beq_iff_eq.mp V) (by show(PySem.W.lookIn name od).map (·.isSome)=some false;rw[Z,Y];rfl) h
def zzu{ns:c3}{Q:Unit->Shared->Prop}(X:K.In s.heap)(I:ObjM s.heap x dx C mA)(d:PySem.W.findIn K (.ref C) "__setattr__" = some (some (.builtin "object.__setattr__")))(e:PySem.W.plainOver K C=true)(f:PySem.W.takerIn K C name=some none)(hh:PySem.W.hasDictIn K C=true)(g:PySem.Within mA ns)(i:ns.length<=sizeLine)(h:∀h',ObjM h' x dx C (λy=>if y=name then some v else mA y)->Heap.SameBut dx s.heap h'->Q () { s with heap:=h',toks:=s.toks+2 }) :
  wpAny (model prog w) A (setAttr (.ref x) name v) Q E s:=by
 obtain⟨od,J,n⟩:=I.look;refine PySem.W.set_plain X J d (PySem.W.osa_open (s:={ s with toks:=s.toks+1 }) (r:=none) X J e f λb=>?_);obtain⟨o,j,V⟩:=PySem.W.any_some hh;have k:s.heap.get? x=some ⟨.ref C,some dx,.plain,#[]⟩:=I.obj;refine wpAny_bind (wpAny_pure (wpAny_bind (wpAny_bind (wpAny_loadPart k (wpAny_bind (PySem.W.Looks.here (s:={ s with toks:=s.toks+1 }) (PySem.W.looks_clsIn X j) ?_))))));rw[V];refine wpAny_pure (a:=some dx) (wpAny_bind (wpAny_pure (wpAny_bind ?_)));refine wpAny_nsSet1 (s:={ s with toks:=s.toks+1 }) I.ns λh' D U=>?_;obtain⟨p,l,m,Y,Z,c⟩:=D.count (PySem.Within.cons name v g);refine wpAny_bind (wpAny_lookBehind Y (by rw[Z];exact pastItsLine_dict (b8 c (by rw[aw];omega))) ?_);exact wpAny_pure (h _ ⟨(U.2 _ (Ne.symm I.ne)).trans I.obj,D,I.ne⟩ U)
variable{kw:List (Str×Value)}
def zv9{R:Result->Shared->Prop}{vs:fe}(X:K.In s.heap)(I:PySem.W.makesIn K C=true)(hi:PySem.W.findIn K (.ref C) "__init__" = some (some (.ref f)))(U:PySem.W.typeIn K (.ref f)=some (.type "function"))(h:codeAny (model prog w) (A.under (.builtin "type.__call__" ⟨.ref C::vs,kw⟩)) (.call (.ref f) ⟨.ref (s.heap.objs.size+1)::vs,kw⟩) (PySem.W.InitBack (s.heap.objs.size+1) R)
   { s with heap:=(s.heap.push PySem.W.emptyDict).push (PySem.W.instObj C s.heap.objs.size) }) :
  codeAny (model prog w) A (.call (.ref C) ⟨vs,kw⟩) R s:=by
 obtain⟨hh,g,d,t,os⟩:=s;exact PySem.W.make_core (PySem.W.makes_of X I) (PySem.W.looks_findIn X hi) (λD=>PySem.W.bind_fn X D U) (.inl rfl) h
def putF(f:Str)(v:V):List (Str×V)->List (Str×V)
 | []=>[(f,v)]
 | (g,x)::r=>if g=f then(g,v)::r else(g,x)::putF f v r
def zka(f g:Str)(v:V):∀fs:List (Str×V),(putF f v fs).lookup g=if g=f then some v else fs.lookup g
 | []=>by
   show List.lookup g [(f,v)]=_;by_cases h:g=f
   ·have D:(g==f)=true:=beq_iff_eq.mpr h
    simp only[List.lookup,D,if_pos h]
   ·have D:(g==f)=false:=beq_eq_false_iff_ne.mpr h
    simp only[List.lookup,D,if_neg h]
 | (k,x)::r=>by
   have U:=zka f g v r;rw[show putF f v ((k,x)::r)=(if k=f then(k,v)::r else(k,x)::putF f v r) from rfl];by_cases I:k=f
   ·rw[if_pos I]
    by_cases h:g=k
    ·have D:(g==k)=true:=beq_iff_eq.mpr h
     simp only[List.lookup,D,if_pos (h.trans I)]
    ·have D:(g==k)=false:=beq_eq_false_iff_ne.mpr h
     simp only[List.lookup,D,if_neg (λe:g=f=>h (e.trans I.symm))]
   ·rw[if_neg I]
    by_cases h:g=k
    ·have D:(g==k)=true:=beq_iff_eq.mpr h
     simp only[List.lookup,D,if_neg (λe:g=f=>I (h.symm.trans e))]
    ·have D:(g==k)=false:=beq_eq_false_iff_ne.mpr h
     simp only[List.lookup,D];exact U
def zkb(f:Str)(v:V):∀fs:List (Str×V),f∈(putF f v fs).map (·.1)/\∀g,g∈fs.map (·.1)->g∈(putF f v fs).map (·.1)
 | []=>⟨by simp[putF],λg h=>by simp at h⟩
 | (k,x)::r=>by
   obtain⟨I,U⟩:=zkb f v r;rw[show putF f v ((k,x)::r)=(if k=f then(k,v)::r else(k,x)::putF f v r) from rfl];by_cases D:k=f
   ·rw[if_pos D]
    subst D;exact⟨by simp,λg h=>by simpa using h⟩
   ·rw[if_neg D]
    refine⟨?_,λg h=>?_⟩
    ·rw[bg]
     exact au _ I
    ·rw[bg] at h ⊢
     rcases b7.mp h with e | e
     ·exact b7.mpr (.inl e)
     ·exact au _ (U g e)
def zkc(f:Str)(v:V):∀fs:List (Str×V),(putF f v fs).length<=fs.length+1
 | []=>by simp[putF]
 | (k,x)::r=>by
   have I:=zkc f v r;rw[show putF f v ((k,x)::r)=(if k=f then(k,v)::r else(k,x)::putF f v r) from rfl];by_cases D:k=f
   ·rw[if_pos D,aw,aw];omega
   ·rw[if_neg D,aw,aw];omega
variable{o:fg}{v:V}
def RelO.some_of(r:RelO (some v) o):∃u,o=some u/\RelV v u:=by
 cases o with
 | none=>exact(show False from r).elim
 | some u=>exact⟨u,rfl,r⟩
def RelO.none_of(r:RelO none o):o=none:=by
 cases o with
 | none=>rfl
 | some u=>exact(show False from r).elim
def ztg(r:RelV v u):PySem.W.handedIn u=true:=by
 cases v with
 | non=>cases (show u=Value.none from r);rfl
 | bl b=>cases (show u=Value.bool b from r);rfl
 | int i=>obtain⟨t,e⟩:=(show ∃t,u=Value.int i t from r);cases e;rfl
 | str x=>obtain⟨t,e⟩:=(show ∃t,u=Value.str x t from r);cases e;rfl
 | byt b=>obtain⟨t,e⟩:=(show ∃t,u=Value.bytes b t from r);cases e;rfl
 | flt b=>obtain⟨t,e⟩:=(show ∃t,u=Value.float b t from r);cases e;rfl
 | ref a=>cases (show u=Value.ref a from r);rfl
 | ty n=>cases (show u=Value.type n from r);rfl
variable{a:Addr}{fs:List (Str×V)}
def zl5(D:HOk P w H h)(e:H a=some (.ins C dx fs)):∃mA,ObjM h a dx C mA/\(∀f,RelO (fs.lookup f) (mA f))/\PySem.Within mA (fs.map (·.1))/\fs.length<=1000/\H dx=some (.own a):=by
 obtain⟨d,z,I,U,mA,n,r,q⟩:=(show ObjOk P w H h a (.ins C dx fs) from D a _ e);exact⟨mA,⟨U,n,I⟩,r,q,z,d⟩
structure Cls (K:gu) (C:Addr):Prop where
 pg:PySem.W.plainGet K C Str.empty=true
 hd:PySem.W.hasDictIn K C=true
 po:PySem.W.plainOver K C=true
 sa:PySem.W.findIn K (.ref C) "__setattr__" = some (some (.builtin "object.__setattr__"))
def Cls.get(c:Cls K C)(f:Str):PySem.W.plainGet K C f=true:=c.pg
def NoAttr(K:gu)(C:Addr)(f:Str):Prop:=PySem.W.findIn K (.ref C) f=some none
variable{f:Str}
def NoAttr.taker(n:NoAttr K C f):PySem.W.takerIn K C f=some none:=by
 unfold PySem.W.takerIn;rw[show PySem.W.findIn K (.ref C) f=some none from n];rfl
structure Con (K:gu) (C:Addr) (f:Str) (v:V) (u:Value):Prop where
 at_:PySem.W.findIn K (.ref C) f=some (some u)
 rel:RelV v u
 get:PySem.W.specialIn K u "__get__" = some none
 cp:PySem.W.copiedNames.contains f=false
structure Meth (K:gu) (C:Addr) (m:Str) (f:Addr):Prop where
 at_:PySem.W.findIn K (.ref C) m=some (some (.ref f))
 fn:PySem.W.isFn K (.ref f)=true
 kp:PySem.W.keepIn K (.ref f)=true
variable{b:Bool}
def zrz(I:Inv X pins σ H s)(e:H a=some (.ins C dx fs))(c:Cls X.K C)(n:NoAttr X.K C f)(l:fs.lookup f=some v)(h:∀u s',Inv X pins σ H s'->RelV v u->Q u s'):wpAny (model X.prog X.w) A (getAttr (.ref a) f b) Q E s:=by
 obtain⟨mA,O,r,_,_,_⟩:=zl5 I.hok e;obtain⟨u,U,D⟩:=RelO.some_of (v:=v) (o:=mA f) (by rw[<-l];exact r f);exact zzt I.kIn O (c.get f) c.hd n U (ztg D) (h u _ (I.tok _) D)
def zlp{m:Str}{g:Addr}{pl:Sem Bool}{Q:Value×fe->Shared->Prop}(I:Inv X pins σ H s)(e:H a=some (.ins C dx fs))(c:Cls X.K C)(k:Meth X.K C m g)(l:fs.lookup m=none)(h:Q (.ref g,[.ref a]) s):wpAny (model X.prog X.w) A (getMethod (.ref a) m pl) Q E s:=by
 obtain⟨mA,O,r,_,_,_⟩:=zl5 I.hok e;have D:mA m=none:=RelO.none_of (by rw[<-l];exact r m);exact zv8 I.kIn O (c.get m) k.at_ k.fn D h
def zr0{Q:Unit->Shared->Prop}(I:Inv X pins σ H s)(e:H a=some (.ins C dx fs))(c:Cls X.K C)(n:NoAttr X.K C f)(i:fs.length<1000)(U:RelV y u)(h:∀s',Inv X pins σ (upd H a (.ins C dx (putF f y fs))) s'->Q () s'):wpAny (model X.prog X.w) A (setAttr (.ref a) f u) Q E s:=by
 obtain⟨mA,O,r,wi,_,D⟩:=zl5 I.hok e;have V:(fs.map (·.1)).length<=sizeLine:=by rw[ae,sizeLine_eq];omega
 refine zzu I.kIn O c.sa c.po n.taker c.hd wi V λh' O' Y=>h _ ?_;have hd:∃o,h'.get? dx=some o:=let ⟨o,_,_,e',_⟩:=O'.ns;⟨o,e'⟩;refine I.write (x:=a) (e:=dx) (by rw[e];exact True.intro) (.inr D) (λb q Z z=>(Y.2 b Z).trans z) hd ?_;refine⟨by rw[gi O.ne];exact D,?_,O.ne,O'.obj,_,O'.ns,λg=>?_,λg d=>?_⟩
 ·have:=zkc f y fs;omega
 ·show RelO ((putF f y fs).lookup g) (if g=f then some u else mA g)
  rw[zka];by_cases q:g=f
  ·rw[if_pos q,if_pos q];exact U
  ·rw[if_neg q,if_neg q];exact r g
 ·by_cases q:g=f
  ·rw[q];exact(zkb f y fs).1
  ·refine(zkb f y fs).2 g (wi g λz=>d ?_)
   show(if g=f then some u else mA g)=none;rw[if_neg q];exact z
def Inv.made(I:Inv X pins σ H s):Inv X pins σ (upd (upd H s.heap.objs.size (.own (s.heap.objs.size+1))) (s.heap.objs.size+1) (.ins C s.heap.objs.size []))
  { s with heap:=(s.heap.push PySem.W.emptyDict).push (PySem.W.instObj C s.heap.objs.size) }:=by
 have D:(s.heap.push PySem.W.emptyDict).get? s.heap.objs.size=some PySem.W.emptyDict:=c8 s.heap rfl;have V:((s.heap.push PySem.W.emptyDict).push (PySem.W.instObj C s.heap.objs.size)).get? (s.heap.objs.size+1)=some (PySem.W.instObj C s.heap.objs.size):=by
  have:=c8 (s.heap.push PySem.W.emptyDict) (o:=PySem.W.instObj C s.heap.objs.size) rfl;rwa [jv] at this
 have Y:(s.heap.push PySem.W.emptyDict).Ns s.heap.objs.size (λ_=>none):=⟨PySem.W.emptyDict,#[],_,D,rfl,(λe Z=>absurd Z (by simp)),λ_=>rfl⟩;have c:=I.laid (a:=s.heap.objs.size) (o:=.own (s.heap.objs.size+1)) (h':=s.heap.push PySem.W.emptyDict) (t':=s.toks) (λb u q=>av _ q) (bo _) ⟨_,D⟩;refine c.laid (a:=s.heap.objs.size+1) (o:=.ins C s.heap.objs.size []) (t':=s.toks) (λb u q=>av _ q) (Nat.le_of_eq (jv _ _)) ?_;have U:s.heap.objs.size≠s.heap.objs.size+1:=bv (di _);refine⟨by rw[gi U,li],dy _,U,V,λ_=>none,(Heap.Ns1.of_empty Y).at λo q=>av _ q,λ_=>True.intro,λy d=>absurd rfl d⟩
def zzv{env:Env}(I:attributeBase e f env (eval e env)=eval e env)(h:wpAny (model prog w) A (eval e env) (λo D=>wpAny (model prog w) A (getAttr o f true) Q E D) E s):wpAny (model prog w) A (eval (.Attribute e f pos) env) Q E s :=
 Attribute_any_ h (by rw[arm_eval_Attribute,I])
def tFld(K:gu)(ta:TE)(f:Str):TE:=λσ H Q=>ta σ H λx H1=>∃a C dx fs v,x=.ref a/\H1 a=some (.ins C dx fs)/\Cls K C/\NoAttr K C f/\fs.lookup f=some v/\Q v H1
def sFld(K:gu)(ta tv:TE)(f:Str):TS:=λD σ H=>tv σ H λy H1=>ta σ H1 λx H2=>∃a C dx fs,x=.ref a/\H2 a=some (.ins C dx fs)/\Cls K C/\NoAttr K C f/\fs.length<1000 /\
 D.nx σ (upd H2 a (.ins C dx (putF f y fs)))
def zyl(D:PE X e ta)(U:attributeBase e f X.env (eval e X.env)=eval e X.env):PE X (.Attribute e f pos) (tFld X.K ta f):=by
 intro pins s σ H Q I h;refine zzv U (thn (D pins s σ H _ I h) λu i V=>?_);obtain⟨x,H1,Y,Z,a,C,dx,fs,v,ex,b,c,n,l,q⟩:=V;subst ex;obtain rfl:u=Value.ref a:=Z;exact zrz Y b c n l λj s2 d g=>⟨v,H1,d,g,q⟩
variable{o value:Expr}{tv:TE}
def z2s(V:PE X o ta)(Y:PE X value tv)(Z:swapsWith value (some (.Attribute o f pos')) pos.line X.env=pure false):PS X (.Assign [.Attribute o f pos'] value pos) (sFld X.K ta tv f):=by
 intro pins s σ H D I h;refine plainObj_wpAny_Assign_Attribute (thn (Y pins s σ H _ I h) λu b U=>?_) Z;obtain⟨y,H1,d,e,q⟩:=U;refine thn (V pins b σ H1 _ d q) λg s2 U=>?_;obtain⟨x,H2,i,j,a,C,dx,fs,ex,k,c,n,l,m⟩:=U;subst ex;obtain rfl:g=Value.ref a:=j;exact zr0 i k c n l e λr p=>⟨σ,_,p,m⟩
inductive TyOf (K:gu) (H:Hp):V->Value->Prop where
 | non:TyOf K H .non (.type "NoneType")
 | bl (x:Bool):TyOf K H (.bl x) (.type "bool")
 | int (i:Int):TyOf K H (.int i) (.type "int")
 | str (x:Str):TyOf K H (.str x) (.type "str")
 | flt (x:UInt64):TyOf K H (.flt x) (.type "float")
 | lst {a:Addr} {xs:g0} (e:H a=some (.lst xs)):TyOf K H (.ref a) (.type "list")
 | frz {a:Addr} {o:Obj} {xs:g0} (e:H a=some (.frz o (.lst xs))):TyOf K H (.ref a) (.type "list")
 | tup {a:Addr} {xs:g0} (e:H a=some (.tup xs)):TyOf K H (.ref a) (.type "tuple")
 | dK {a:Addr} {kvs:List (Key×V)} (e:H a=some (.dK kvs)):TyOf K H (.ref a) (.type "dict")
 | dT {a:Addr} {kvs:List (List Key×V)} (e:H a=some (.dT kvs)):TyOf K H (.ref a) (.type "dict")
 | ins {a C dx:Addr} {fs:List (Str×V)} (e:H a=some (.ins C dx fs)) (cl:Cls K C) (ha:PySem.W.findIn K (.ref C) "__class__" = some (some (.builtin "object.__class__")))
    (hn:PySem.W.specialIn K (.builtin "object.__class__") "__get__" = some (some (.builtin "getset_descriptor.__get__"))) (htk:PySem.W.takesIn K (.builtin "object.__class__")=some true)
    (hm:PySem.W.mroIn K C (.type "object")=some true):TyOf K H (.ref a) (.ref C)
variable{x:Str}
def zth{x:V}{t:Value}(I:Inv X pins σ H s)(D:RelV x u)(ty:TyOf X.K H x t)(e:PySem.W.kitOne X.K t c=some b)(h:∀tk,Q (.bool b) { s with toks:=tk }) :
  wpAny (model X.prog X.w) A (call (.builtin "isinstance") [u,c]) Q E s:=by
 cases ty with
 | non=>cases (show u=Value.none from D);exact e8 PySem.W.kitx_none I.kIn True.intro e (λz=>nomatch z) h
 | bl y=>cases (show u=Value.bool y from D);exact e8 PySem.W.kitx_bool I.kIn True.intro e (λz=>nomatch z) h
 | int i=>obtain⟨t,q⟩:=(show ∃t,u=Value.int i t from D);cases q;exact e8 PySem.W.kitx_int I.kIn True.intro e (λz=>nomatch z) h
 | str y=>obtain⟨t,q⟩:=(show ∃t,u=Value.str y t from D);cases q;exact e8 PySem.W.kitx_str I.kIn True.intro e (λz=>nomatch z) h
 | flt y=>obtain⟨t,q⟩:=(show ∃t,u=Value.float y t from D);cases q;exact e8 PySem.W.kitx_float I.kIn True.intro e (λz=>nomatch z) h
 | @lst a xs ea =>
   cases (show u=Value.ref a from D);obtain⟨_,_,n,_,h1⟩:=(show ObjOk X.prog X.w H s.heap a (.lst xs) from I.hok a _ ea);exact e8 nt I.kIn ⟨_,h1,rfl⟩ e (λz=>nomatch z) h
 | @frz a ob xs ea =>
   cases (show u=Value.ref a from D);obtain⟨_,_,_,n,_,h1⟩:=(show ObjOk X.prog X.w H s.heap a (.frz ob (.lst xs)) from I.hok a _ ea);exact e8 nt I.kIn ⟨_,h1,rfl⟩ e (λz=>nomatch z) h
 | @tup a xs ea =>
   cases (show u=Value.ref a from D);obtain⟨_,_,_,p⟩:=(show ObjOk X.prog X.w H s.heap a (.tup xs) from I.hok a _ ea);obtain⟨o,h1,h2,_⟩:=p;exact e8 PySem.W.kitx_tuple I.kIn ⟨o,h1,h2⟩ e (λz=>nomatch z) h
 | @dK a kvs ea =>
   cases (show u=Value.ref a from D);obtain⟨_,_,vs,_,p⟩:=(show ObjOk X.prog X.w H s.heap a (.dK kvs) from I.hok a _ ea);obtain⟨o,es,U,h1,h2,_⟩:=p;exact e8 PySem.W.kitx_dict I.kIn ⟨o,h1,h2.1⟩ e (λz=>nomatch z) h
 | @dT a kvs ea =>
   cases (show u=Value.ref a from D);obtain⟨_,_,xs,_,o,es,U,h1,h2,_⟩:=(show ObjOk X.prog X.w H s.heap a (.dT kvs) from I.hok a _ ea);exact e8 PySem.W.kitx_dict I.kIn ⟨o,h1,h2.1⟩ e (λz=>nomatch z) h
 | @ins a C dx fs ea cl ha hn htk hm =>
   cases (show u=Value.ref a from D);obtain⟨mA,O,_⟩:=zl5 I.hok ea;obtain⟨od,J,_⟩:=O.look;exact e8 (PySem.W.kitx_own (cl.get _) cl.hd ha hn htk hm) I.kIn J e (λz=>nomatch z) h
structure Room (k:Nat) (A:Around):Prop where
 hd:A.handled=none
 dp:A.depth+3*k+5<recursionLimit
 un:A.units+16*k+200<cLine
def Room.mono{j:Nat}(r:Room k A)(h:j<=k):Room j A:=⟨r.hd,by have:=r.dp;omega,by have:=r.un;omega⟩
def Room.deeper(r:Room (k+1) A)(env:Env):Room k (A.deeper env) :=
 ⟨r.hd,by have:=r.dp;show A.depth+1+3*k+5<_;omega,by have:=r.un;show A.units+3+16*k+200<_;omega⟩
def zr1:(A.under (.builtin "type.__call__" ⟨.ref C::us,kw⟩)).depth=A.depth+1:=by
 first | rfl | simp[Around.under,Code.weight,Code.isCreation,Code.isGuard,Code.isCaller,Code.frames,Code.isFrame,guardIds]
def zr2:(A.under (.builtin "type.__call__" ⟨.ref C::us,kw⟩)).units=A.units+1:=by
 first | rfl | simp[Around.under,Code.cUnits,Code.frames,Code.isFrame]
def Room.make(r:Room (k+1) A)(C:Addr)(us:fe)(kw:List (Str×Value)):Room k (A.under (.builtin "type.__call__" ⟨.ref C::us,kw⟩)) :=
 ⟨r.hd,by have:=r.dp;rw[zr1];omega,by have:=r.un;rw[zr2];omega⟩
def Room.depth(r:Room k A):A.depth<recursionLimit:=by have:=r.dp;omega
def Room.units(r:Room k A):A.units+64<cLine:=by have:=r.un;omega
def tNil:TA:=λ_ H Q=>Q [] H
def zzw(ta:TE)(D:TA):TA:=λσ H Q=>ta σ H λx H1=>D σ H1 λxs H2=>Q (x::xs) H2
def qg:PA X [] tNil:=λ_ _ _ _ H Q I h=>Calls.spliced_nil ⟨[],H,I,.nil,h⟩
def o8(D:PE X e te)(U:PA X es t)(V:starEach (e::es) X.env=(false,eval e X.env)::starEach es X.env:=by rfl):PA X (e::es) (zzw te t):=by
 intro pos pins s σ H Q I h;rw[V];show wpAny _ _ (spliced ((false,eval e X.env)::backTo pos (starEach es X.env))) _ _ s;refine Calls.spliced_cons (thn (D pins s σ H _ I h) λu Y Z=>?_);obtain⟨x,H1,a,b,c⟩:=Z;exact thn (U pos pins Y σ H1 _ a c) λus s2 ⟨xs,H2,I2,r2,q2⟩=>⟨x::xs,H2,I2,.cons b r2,q2⟩
def tTup(t:TA):TE:=λσ H Q=>t σ H λxs H1=>xs.length<=sizeLine/\∀p,H1 p=none->Q (.ref p) (upd H1 p (.tup xs))
def tLst(t:TA):TE:=λσ H Q=>t σ H λxs H1=>xs.length<=sizeLine/\∀p,H1 p=none->Q (.ref p) (upd H1 p (.lst xs))
def z2t{x1}(h:PA X es t):PE X (.Tuple es x1 pos) (tTup t):=by
 intro pins s σ H Q I V;refine wpAny_Tuple_spliced (thn (h pos pins s σ H _ I V) λus D Y=>?_);obtain⟨xs,H1,U,r,z,q⟩:=Y;refine⟨by rw[<-r.length];exact z,?_⟩;have Z:H1 D.heap.objs.size=none:=U.hok.fresh (bo _);refine⟨.ref D.heap.objs.size,upd H1 D.heap.objs.size (.tup xs),U.laid (t':=D.toks) (λb u e=>av _ e) (bo _) ?_,rfl,q _ Z⟩;exact⟨z,us,r,⟨_,c8 _ rfl,rfl,_,rfl⟩⟩
def z2u(h:PA X es t):PE X (.List es pos) (tLst t):=by
 intro pins s σ H Q I V;refine wpAny_List_spliced (thn (h pos pins s σ H _ I V) λus D Y=>?_);obtain⟨xs,H1,U,r,z,q⟩:=Y;refine⟨by rw[<-r.length];exact z,?_⟩;have Z:H1 D.heap.objs.size=none:=U.hok.fresh (bo _);refine⟨.ref D.heap.objs.size,upd H1 D.heap.objs.size (.lst xs),U.laid (t':=D.toks) (λb u e=>av _ e) (bo _) ?_,rfl,q _ Z⟩;exact⟨z,us,0,r,c8 _ rfl⟩
abbrev Sp:=g0->Hp->VK->XK->Prop
abbrev CXT:=gj->Hp->Shared->XK->Value->Shared->Prop
structure Env0 (P:Program) (w:World) (K:gu) (mg:Str->fg) (base:Heap) (A:Around) (outer:gj) (s:Shared) (H:Hp):Prop where
 frames:A.frames=some outer
 mod:Mod K mg base
 bs:∀b o,base.get? b=some o->s.heap.get? b=some o/\H b=none
 bsz:base.objs.size<=s.heap.objs.size
 funs:s.heap.FunFrames base outer
 frf:∀b∈frs outer,H b=none
 hok:HOk P w H s.heap
 bare:AllBare s.gens
def CE(outer:gj)(P:Program)(w:World)(H:Hp)(s:Shared)(Q:VK)(u:Value)(s':Shared):Prop :=
 ∃v H',s'.os=s.os/\AllBare s'.gens/\Un (frs outer) [] H H' s.heap s'.heap/\HOk P w H' s'.heap/\RelV v u/\Q v H'
def CR(CX:CXT)(outer:gj)(P:Program)(w:World)(H:Hp)(s:Shared)(Q:VK)(E:XK)(r:Result)(s':Shared):Prop :=
 match r with
 | .ok (.ret u)=>CE outer P w H s Q u s'
 | .ok _=>False
 | .error e=>CX outer H s E e s'
structure FnOk (P:Program) (w:World) (K:gu) (mg:Str->fg) (base:Heap) (CX:CXT) (k:Nat) (f:Addr) (fd:FuncData) (ps:c3) (sp:Sp):Prop where
 len:∀vs H Q E,sp vs H Q E->vs.length=ps.length
 run:∀(A:Around) (outer:gj) (s:Shared) (H:Hp) (args:Args) (us:fe) (vs:g0) (Q:VK) (E:XK),Room k A->Env0 P w K mg base A outer s H->BindsTo s fd args (ps.zip us)->Vals vs us->sp vs H Q E ->
  codeAny (model P w) A (.call (.ref f) args) (CR CX outer P w H s Q E) s
variable{f:Addr}{mg:Str->fg}{base:Heap}{CX:CXT}{fd:FuncData}{ps:c3}{sp:Sp}
theorem FnOk.imp{D:Sp}(F:FnOk P w K mg base CX k f fd ps sp)(h:∀vs H Q E,D vs H Q E->sp vs H Q E):FnOk P w K mg base CX k f fd ps D :=
 ⟨λvs H Q E q=>F.len vs H Q E (h _ _ _ _ q),λA outer s H args us vs Q E I U V Y Z=>F.run A outer s H args us vs Q E I U V Y (h _ _ _ _ Z)⟩
variable{outer:gj}
def Env0.make(e:Env0 P w K mg base A outer s H)(C:Addr)(us:fe)(kw:List (Str×Value)) :
  Env0 P w K mg base (A.under (.builtin "type.__call__" ⟨.ref C::us,kw⟩)) outer s H:=⟨by first | exact e.frames | (simpa[Around.under,Code.envs,Code.isFrame,pushEnvs] using e.frames),e.mod,e.bs,e.bsz,e.funs,e.frf,e.hok,e.bare⟩
protected def Inv.env0(I:Inv X pins σ H s):Env0 X.prog X.w X.K X.mg X.base X.A X.stack s H :=
 ⟨I.ok.frames,I.ok.mod,I.bs,b8 I.ok.bsz I.sz,I.stack,I.stkFree,I.hok,I.bare⟩
variable{Q:VK}
def Inv.after(I:Inv X pins σ H s)(h:CE X.stack X.prog X.w H s Q u s'):EP X pins σ Q u s':=by
 obtain⟨v,H',os,D,un,U,r,q⟩:=h;obtain⟨hh,g,d,t,V⟩:=s';obtain rfl:V=s.os:=os;exact⟨v,H',I.call (h':=hh) (g':=g) (d':=d) (t':=t) (ch:=[]) un U D (λb z=>absurd z (by simp)),r,q⟩
def zu(sp:Sp)(dvs:g0)(E:XK)(t:TA):TE:=λσ H Q=>t σ H λvs H1=>sp (vs++dvs) H1 Q E
def Binds(K:gu)(fd:FuncData)(ps:c3)(ds:fe):Prop :=
 ∀(s:Shared) (us:fe),K.In s.heap->(us++ds).length=ps.length->BindsTo s fd ⟨us,[]⟩ (ps.zip (us++ds))
def Binds.all(h:∀us:fe,us.length=ps.length->bindArgs fd ⟨us,[]⟩=pure (ps.zip us)):Binds K fd ps []:=λs us _ D=>by
 rw[cr] at D ⊢;exact .of_eq (h us D)
def zti(CX:CXT)(X:Cx)(E:XK):Prop:=∀(pins:gx) (σ:St) (H:Hp) (s:Shared) (e:Value) (s':Shared),Inv X pins σ H s->CX X.stack H s E e s'->X.xe e s'
variable{E:XK}{dvs:g0}{ds:fe}
theorem z2v(F:FnOk X.prog X.w X.K X.mg X.base CX k f fd ps sp)(V:Room k X.A)(Y:Binds X.K fd ps ds)(hd:Vals dvs ds)(Z:zti CX X E)(I:Inv X pins σ H s)(r:Vals vs us)(h:sp (vs++dvs) H Q E):wpAny (model X.prog X.w) X.A (call (.ref f) us) (EP X pins σ Q) X.xe s:=by
 have U:Vals (vs++dvs) (us++ds):=r.append hd;have a:(us++ds).length=ps.length:=by rw[<-U.length];exact F.len _ _ _ _ h
 refine wpAny_call (codeAny_mono (F.run X.A X.stack s H ⟨us,[]⟩ (us++ds) (vs++dvs) Q E V I.env0 (Y s us I.kIn a) U h) λr s' D=>?_);cases r with
 | error e=>exact Z pins σ H s e s' I D
 | ok fl =>
   cases fl with
   | ret u=>exact I.after D
   | next=>exact False.elim D
   | brk=>exact False.elim D
   | cont=>exact False.elim D
def zpb(F:FnOk X.prog X.w X.K X.mg X.base CX k f fd ps sp)(Y:Room k X.A)(Z:Gl X x)(a:X.mg x=some (.ref f))(b:PySem.W.keepIn X.K (.ref f)=true)(c:Binds X.K fd ps ds)(hd:Vals dvs ds)(d:zti CX X E)(g:PA X (e::es) t)(D:(x==("__debug__" : Str))=false:=by decide)(i:starEach (e::es) X.env=(false,eval e X.env)::starEach es X.env:=by rfl)(U:(backTo pos (starEach es X.env)).any (·.1)=false:=by rfl) :
  PE X (.Call (.Name x p) (e::es) [] pos) (zu sp dvs E t):=by
 intro pins s σ H Q I h;refine wpAny_Call_Name_kw (yo I Z a ?_ D);refine j5 (h₀:=X.base) I.ok.mod.kin b (thn (g pos pins s σ H _ I h) λus l j=>?_) i U;obtain⟨vs,H1,V,r,q⟩:=j;refine⟨V.kIn,?_⟩;exact z2v F Y c hd d V r q
structure Mk (K:gu) (C f:Addr):Prop where
 makes:PySem.W.makesIn K C=true
 init:PySem.W.findIn K (.ref C) "__init__" = some (some (.ref f))
 fn:PySem.W.isFn K (.ref f)=true
 kp:PySem.W.keepIn K (.ref C)=true
def PK(X:Cx)(kws:List Keyword)(t:TA):Prop :=
 ∀(pos:Pos) (pins:gx) (s:Shared) (σ:St) (H:Hp) (Q:g0->Hp->Prop),Inv X pins σ H s->t σ H Q->wpAny (model X.prog X.w) X.A (evalAll ((backToKw pos (keywordEach kws X.env)).map (·.2))) (AP X pins σ Q) X.xe s
section
variable {X:Cx} {CX:CXT} {k:Nat} {f C:Addr} {fd:FuncData} {ps ks:c3} {sp:Sp} {E:XK} {x m:Str} {p pos apos kpos:Pos} {e o:Expr} {es:gp} {kws:List Keyword} {te ta:TE} {t tk:TA} {nm:gr}
def z2w:PK X [] tNil:=λ_ _ _ _ H Q I h=>wpAny_evalAll_nil ⟨[],H,I,.nil,h⟩
def zzx(D:PE X e te)(U:PK X kws t):PK X (⟨nm,e,kpos⟩::kws) (zzw te t):=by
 intro pos pins s σ H Q I h;show wpAny _ _ (evalAll ((do let v <-eval e X.env;standAt pos;pure v)::(backToKw pos (keywordEach kws X.env)).map (·.2))) _ _ s;refine wpAny_evalAll_cons (wpAny_bind (thn (D pins s σ H _ I h) λu V Y=>?_));obtain⟨x,H1,Z,a,b⟩:=Y;refine wpAny_bind (wpAny_standAt (wpAny_pure ?_));exact thn (U pos pins V σ H1 _ Z b) λus s2 ⟨xs,H2,I2,r2,q2⟩=>⟨x::xs,H2,I2,.cons a r2,q2⟩
structure z6n (K:gu) (fd:FuncData) (ps ks:c3) (g:fe->fe->fe) (gV:g0->g0->g0):Prop where
 to:∀(s:Shared) (us ws:fe),K.In s.heap->(g us ws).length=ps.length->BindsTo s fd ⟨us,ks.zip ws⟩ (ps.zip (g us ws))
 rel:∀ {vs:g0} {us:fe} {zs:g0} {ws:fe},Vals vs us->Vals zs ws->Vals (gV vs zs) (g us ws)
variable {g:fe->fe->fe} {gV:g0->g0->g0}
end
structure sg (N P:c3) (sc:Scope):Prop where
 kind:sc.kind=.function
 co:sc.isCoroutine=false
 gen:sc.isGenerator=false
 nd:N.Nodup
 pre:N.take P.length=P
 par:∀x∈P,sc.names.lookup x=some .local\/sc.names.lookup x=some .cell
 nofree:∀y∈sc.names,y.2≠.free
def znm{kindOf:Str->Option NameKind}{x:Str}:∀ {D:List (Str×Value)} {m:Str->fg},(∀v,(x,v)∉D)->bindL kindOf D m x=m x
 | [],_,_=>rfl
 | (n,v)::r,m,h=>by
   unfold bindL;rw[znm λw I=>h w (au _ I)];split
   ·have:x≠n:=by rintro rfl;exact h v bj
    simp[this]
   ·rfl
def znn{kindOf:Str->Option NameKind}{x:Str}:∀ {D:List (Str×Value)} {m:Str->fg},(∀v,(x,v)∉D)->bindC kindOf D m x=m x
 | [],_,_=>rfl
 | (n,v)::r,m,h=>by
   unfold bindC;rw[znn λw I=>h w (au _ I)];split
   ·rfl
   ·have:x≠n:=by rintro rfl;exact h v bj
    simp[this]
def zno{kindOf:Str->Option NameKind}{x:Str}{v:Value}:∀ {P:c3} {vs:fe} {i:Nat} {m:Str->fg},P.Nodup->P[i]?=some x->vs[i]?=some v->kindOf x=some .local ->
  bindL kindOf (P.zip vs) m x=some v
 | [],_,_,_,_,h,_,_=>by simp at h
 | _::_,[],_,_,_,_,h,_=>by simp at h
 | p::P,w::vs,0,m,nd,h1,h2,hk=>by
   simp at h1 h2;subst h1;subst h2;show bindL kindOf ((p,w)::P.zip vs) m p=_;unfold bindL;rw[znm λv D=>(cq.mp nd).1 (qy D).1,if_pos hk];simp
 | p::P,w::vs,i+1,m,nd,h1,h2,hk=>by
   show bindL kindOf ((p,w)::P.zip vs) m x=_;unfold bindL;exact zno (i:=i) (cq.mp nd).2 (by simpa using h1) (by simpa using h2) hk
def znp{kindOf:Str->Option NameKind}{x:Str}{v:Value}:∀ {P:c3} {vs:fe} {i:Nat} {m:Str->fg},P.Nodup->P[i]?=some x->vs[i]?=some v->kindOf x≠some .local ->
  bindC kindOf (P.zip vs) m x=some v
 | [],_,_,_,_,h,_,_=>by simp at h
 | _::_,[],_,_,_,_,h,_=>by simp at h
 | p::P,w::vs,0,m,nd,h1,h2,hk=>by
   simp at h1 h2;subst h1;subst h2;show bindC kindOf ((p,w)::P.zip vs) m p=_;unfold bindC;rw[znn λv D=>(cq.mp nd).1 (qy D).1,if_neg hk];simp
 | p::P,w::vs,i+1,m,nd,h1,h2,hk=>by
   show bindC kindOf ((p,w)::P.zip vs) m x=_;unfold bindC;exact znp (i:=i) (cq.mp nd).2 (by simpa using h1) (by simpa using h2) hk
def start(N:c3)(vs:g0):St:=vs.map some++List.replicate (N.length-vs.length) none
def cxOf(CX:CXT)(P:Program)(w:World)(K:gu)(mg:Str->fg)(base:Heap)(N:c3)(qual:Str)(scope:Scope)(f:Addr)(I:Value)(A:Around)(outer:gj)(s:Shared)(H:Hp)(E:XK):Cx where
 prog:=P
 w:=w
 K:=K
 mg:=mg
 base:=base
 A:=A.deeper (envOfC qual scope s.heap.objs.size f I)
 N:=N
 s₀:=s
 H₀:=H
 env:=envOfC qual scope s.heap.objs.size f I
 outer:=outer
 stack:=envOfC qual scope s.heap.objs.size f I::outer
 ex:=[]
 calm:=true
 fn:=λ_=>true
 pn:=[]
 xe:=λe s'=>wpAny (model P w) (A.deeper (envOfC qual scope s.heap.objs.size f I)) (leaving (envOfC qual scope s.heap.objs.size f I) e) (λ_ D=>CX outer H s E e D) (λe' D=>CX outer H s E e' D) s'
def zqg{sc:Scope}(h:sc.names.lookup x=some .cell):∃c,(cellsFrom n sc.names []).lookup x=some c:=by
 have q:=PySem.W.cellsFrom_some sc.names n [] (.inl h);exact xv.mp q
variable{qual:Str}{scope:Scope}
def ztj{Y:Value}{Z:Shared}(S:sg N ps scope)(hd:A.handled=none)(D:Env0 P w K mg base A outer s H)(o:vs.length=ps.length)(r:Vals vs us)(x:InCallC s s.heap.objs.size (bindL (envOfC qual scope s.heap.objs.size f Y).kindOf (ps.zip us) λ_=>none) (cellsFrom (s.heap.objs.size+1) scope.names []) (bindC (envOfC qual scope s.heap.objs.size f Y).kindOf (ps.zip us) λ_=>none) Z) :
  Inv (cxOf CX P w K mg base N qual scope f Y A outer s H E) [] (start N vs) H Z:=by
 have j:ps.length<=N.length:=by have:=congrArg List.length S.pre;rw[dz] at this;omega
 obtain⟨h1,tk,rfl,d⟩:=x.done;have I:∀b:Addr,b∉(cxOf CX P w K mg base N qual scope f Y A outer s H E).ex:=λb z=>absurd (show b∈([]:fh) from z) (by simp);refine⟨⟨D.mod,S.kind,rfl,rfl,bo _,λy z c h1 h2=>?_,λy hy=>?_,λy c _ h=>?_,λ_=>hd,Around.frames_deeper D.frames,.inr ⟨rfl,rfl⟩,λb z=>absurd z (I b),D.bs,D.bsz,λb _ _=>I b,λb z=>absurd z (I b),D.funs,D.frf⟩,
  rfl,D.bare,Un.kept d,⟨_,x.toInCall.ns,λi y v h1 h2 t=>?_⟩,λy c h=>⟨_,x.cell y c h⟩,D.hok.fresh (bo _),λy c h=>?_,λp U=>absurd (show p∈([]:gx) from U) (by simp),D.hok.kept d,?_⟩
 ·exact name_of_addr x.apart (dh h1) (dh h2)
 ·have hy:scope.names.lookup y=some .cell\/scope.names.lookup y=some .free:=hy
  rcases hy with hy | hy
  ·exact zqg hy
  ·exact absurd rfl (S.nofree _ (dh hy))
 ·exact j2 (x.above y c (dh h))
 ·have hi:i<vs.length:=by
   unfold start at h2;by_cases hi:i<vs.length
   ·exact hi
   ·rw[ci (by simpa using hi)] at h2
    rw[kx] at h2;split at h2 <;> cases h2
  have l:vs[i]?=some v:=by
   unfold start at h2;rw[bf (by simpa using hi),az] at h2;cases e:vs[i]? with
   | none=>rw[e] at h2;cases h2
   | some a=>rw[e] at h2;cases h2;rfl
  obtain⟨u,g,m⟩:=r.get l;have U:ps[i]?=some y:=by
   rw[<-S.pre,List.getElem?_take_of_lt (by omega)];exact h1
  have V:ps.Nodup:=by rw[<-S.pre];exact S.nd.sublist (List.take_sublist _ _)
  refine⟨u,m,?_⟩;rcases S.par y (bc U) with k | k
  ·exact .inl ⟨k,zno V U g k⟩
  ·obtain⟨c,e⟩:=zqg (n:=s.heap.objs.size+1) k
   refine .inr ⟨.inl k,c,e,?_⟩;have q:=x.cell y c e;rw[znp V U g (by show scope.names.lookup y≠_;rw[k];decide)] at q;exact q
 ·exact D.hok.fresh (j2 (x.above y c (dh h)))
 ·unfold start
  show _=N.length;rw[aj,ae,fz];omega
def z5h{D:Arguments}{m kV a p cdv ct oc:Value}{an od:Option Addr}{osl:Array fg}(C:K.lookup f=some ⟨oc,od,.func (PySem.W.fnOf name qual D body scope m kV a p an cdv ct),osl⟩)(h:PySem.W.codeIn K cdv qual=true)(S:sg N ps scope)(len:∀vs H Q E,sp vs H Q E->vs.length=ps.length)(U:∀(A:Around) (outer:gj) (s:Shared) (H:Hp) (vs:g0) (Q:VK) (E:XK),Room k (A.deeper (envOfC qual scope s.heap.objs.size f cdv))->sp vs H Q E ->
   ∃t,PSs (cxOf CX P w K mg base N qual scope f cdv A outer s H E) body t/\t { nx:=λ_ H'=>Q .non H',rt:=Q } (start N vs) H) :
  FnOk P w K mg base CX (k+1) f (PySem.W.fnOf name qual D body scope m kV a p an cdv ct) ps sp:=by
 refine⟨len,λA outer s H args us vs Q E i c F r d=>?_⟩;have G:=len _ _ _ _ d;have z:K.In s.heap:=c.mod.kin.keeps λb o e=>(c.bs b o e).1;have j:s.heap.NoLimit:=c.mod.nolimit.keeps λb o e=>(c.bs b o e).1;have Y:∀y∈ps.zip us,scope.names.lookup y.1=some .local\/(scope.names.lookup y.1=some .cell/\((cellsFrom (s.heap.objs.size+1) scope.names []).lookup y.1).isSome=true):=λ⟨n,v⟩ hy=>by
  rcases S.par n (qy hy).1 with q | q
  ·exact .inl q
  ·exact .inr ⟨q,PySem.W.cellsFrom_some _ _ _ (.inl q)⟩
 refine codeAny_call_function i.depth (z _ _ C) rfl S.co S.gen rfl (PySem.W.codeRec_of z h) (F _ _ _ _ ?_);refine wpAny_newFunctionEnv_cells S.kind Y λenv L B x=>?_;subst L;refine⟨j.keeps x.toInCall.keep,codeAny_func ?_⟩;obtain⟨t,M,O⟩:=U A outer s H vs Q E (i.deeper _) d;have I:Inv (cxOf CX P w K mg base N qual scope f cdv A outer s H E) [] (start N vs) H B:=ztj S i.hd c G r x;refine wpAny_mono (M [] B (start N vs) H _ I O) (λfl s' Z=>?_) λe s' Z=>Z;have g:∀ {σ':St} {H':Hp} {v:V} {u:Value},Inv (cxOf CX P w K mg base N qual scope f cdv A outer s H E) [] σ' H' s'->RelV v u->Q v H'->CE outer P w H s Q u s' :=
  λ{σ' H' v u} J l q=>⟨v,H',J.os,J.bare,J.base,J.hok,l,q⟩
 cases fl with
 | ret u =>
   obtain⟨v,σ',H',J,l,q⟩:=Z;exact g J l q
 | next =>
   obtain⟨σ',H',J,q⟩:=Z;exact g (v:=V.non) (u:=Value.none) J rfl q
 | brk =>
   obtain⟨_,_,_,q⟩:=Z;exact False.elim q
 | cont =>
   obtain⟨_,_,_,q⟩:=Z;exact False.elim q
def tCB(r:g0->Hp->VK->Prop)(t:TA):TE:=λσ H Q=>t σ H λvs H1=>r vs H1 Q
variable{r:g0->Hp->VK->Prop}{id:String}
def zjv(V:pv X (.builtin id) r)(Y:Gl X x)(Z:X.mg x=none)(a:bootBuiltins x=some (.builtin id))(b:PA X (e::es) t)(c:x ≠ "__name__":=by decide)(D:(x==("__debug__" : Str))=false:=by decide)(d:starEach (e::es) X.env=(false,eval e X.env)::starEach es X.env:=by rfl)(U:(backTo pos (starEach es X.env)).any (·.1)=false:=by rfl):PE X (.Call (.Name x p) (e::es) [] pos) (tCB r t):=by
 intro pins s σ H Q I h;refine wpAny_Call_Name_kw (t3 I Y Z a ?_ c D);exact PyProof.Rows.callWith_builtin1 (thn (b pos pins s σ H _ I h) λus s1 ⟨vs,H1,I1,r1,q1⟩=>V pins s1 σ H1 vs us Q I1 r1 q1) d U
variable{T:String}
def znq(V:pv X (.type T) r)(Y:Gl X x)(Z:X.mg x=none)(a:bootBuiltins x=some (.type T))(b:PA X (e::es) t)(c:x ≠ "__name__":=by decide)(D:(x==("__debug__" : Str))=false:=by decide)(d:starEach (e::es) X.env=(false,eval e X.env)::starEach es X.env:=by rfl)(U:(backTo pos (starEach es X.env)).any (·.1)=false:=by rfl):PE X (.Call (.Name x p) (e::es) [] pos) (tCB r t):=by
 intro pins s σ H Q I h;refine wpAny_Call_Name_kw (t3 I Y Z a ?_ c D);exact f6 (thn (b pos pins s σ H _ I h) λus s1 ⟨vs,H1,I1,r1,q1⟩=>V pins s1 σ H1 vs us Q I1 r1 q1) d U
end L2
namespace HT
open PySem PyProof.Rows
section
open PySem.SeqAt
open PySem.AutoSeq1 (wpAny_loadPart')
open PySem.MeetsSeq PySem.MeetsSeq2 PySem.MeetsSeq3
end
def sIx(n d:Nat):gs->Nat
 | none=>d
 | some v=>if v<0 then(v+(n:Int)).toNat else min v.toNat n
def sIx_none(n d:Nat):sIx n d none=d:=rfl
def sIx_nat(n d k:Nat):sIx n d (some (k:Int))=min k n:=by
 show(if (k:Int)<0 then((k:Int)+(n:Int)).toNat else min (k:Int).toNat n)=min k n;rw[if_neg (by omega),fy]
end HT
namespace L2
open PySem PySem.Spec PyProof.Rows
abbrev TO:=St->Hp->(gs->Hp->Prop)->Prop
def PO(X:Cx)(e:Option Expr)(t:TO):Prop :=
 ∀(pins:gx) (s:Shared) (σ:St) (H:Hp) (Q:gs->Hp->Prop),Inv X pins σ H s->t σ H Q ->
  wpAny (model X.prog X.w) X.A (evalPart e X.env) (λu s'=>∃o H',Inv X pins σ H' s'/\IsPart u o/\Q o H') X.xe s
def zzy:TO:=λ_ H Q=>Q none H
def z5i(t:TE):TO:=λσ H Q=>t σ H λx H1=>∃i,x=.int i/\Q (some i) H1
def ziu{ns:f5}:∀ {us:fe},Vals (ns.map V.int) us->IntsAre us ns:=by
 induction ns with
 | nil=>intro us r;rw[cy] at r;cases r;exact .nil
 | cons n ns ih =>
   intro us r;rw[bg] at r;cases r with
   | cons r1 r2 =>
     obtain⟨t,e⟩:=r1;subst e;exact .cons n t (ih r2)
section
variable {X:Cx} {e:Expr} {te:TE} {lo hi:Option Expr} {tl th:TO} {pos p2:Pos}
def zzz:PO X none zzy:=by
 intro pins s σ H Q I h;rw[evalPart_none];exact wpAny_pure ⟨none,H,I,.none,h⟩
def zz0(h:PE X e te):PO X (some e) (z5i te):=by
 intro pins s σ H Q I D;rw[evalPart_some];refine thn (h pins s σ H _ I D) λu a U=>?_;obtain⟨x,H1,V,Y,Z⟩:=U;obtain⟨i,rfl,q⟩:=Z;obtain⟨t,rfl⟩:=Y;exact⟨some i,H1,V,.int i t,q⟩
def SlR(X:Cx)(r:V->gs->gs->Hp->VK->Prop):Prop :=
 ∀(pins:gx) (s:Shared) (σ:St) (H:Hp) (x:V) (v D I:Value) (lo hi:gs) (sl:Addr) (Q:VK),Inv X pins σ H s->RelV x v->s.heap.IsSliceOf sl D I .none->IsPart D lo->IsPart I hi->r x lo hi H Q ->
  ∃T id,typeLookup (.type T) "__getitem__" = pure (some (.builtin id))/\s.TypeIs v T/\wpAny (model X.prog X.w) X.A (getItem v (.ref sl)) (EP X pins σ Q) X.xe s
def tSl(r:V->gs->gs->Hp->VK->Prop)(te:TE)(tl th:TO):TE:=λσ H Q=>te σ H λx H1=>tl σ H1 λl H2=>th σ H2 λu D=>r x l u D Q
def zwb{r:V->gs->gs->Hp->VK->Prop}(c:SlR X r)(d:PE X e te)(f:PO X lo tl)(g:PO X hi th):PE X (.Subscript e (.Slice lo hi none p2) pos) (tSl r te tl th):=by
 intro pins s σ H Q I h;refine Subscript_ (thn (d pins s σ H _ I h) λv i U=>?_);obtain⟨x,H1,j,k,m⟩:=U;refine wpAny_Slice (thn (f pins i σ H1 _ j m) λY s2 U=>?_);obtain⟨l,H2,n,pl,o⟩:=U;refine thn (g pins s2 σ H2 _ n o) λZ D U=>?_;obtain⟨u,a,p,t,y⟩:=U;rw[evalPart_none];refine wpAny_pure ?_;have z:Inv X pins σ a { D with heap:=D.heap.push { cls:=.type "slice",data:=.fields #[Y,Z,.none] } }:=p.kept (t':=D.toks) λb E q=>av _ q;obtain⟨T,id,hT,B,C⟩:=c pins { D with heap:=D.heap.push { cls:=.type "slice",data:=.fields #[Y,Z,.none] } } σ a x v Y Z l u D.heap.objs.size Q z k (Heap.IsSliceOf.new ..) pl t y;show wpAny (model X.prog X.w) X.A (subscriptTail e (.Slice lo hi none p2) v (.ref D.heap.objs.size)) (EP X pins σ Q) X.xe { D with heap:=D.heap.push { cls:=.type "slice",data:=.fields #[Y,Z,.none] } };exact tail_any (ops:=[.ref D.heap.objs.size,v]) B hT C (by with_unfolding_all rfl)
def cutV(xs:g0)(lo hi:gs):g0:=(xs.drop (HT.sIx xs.length 0 lo)).take (HT.sIx xs.length xs.length hi-HT.sIx xs.length 0 lo)
def zpc(xs:g0)(lo hi:gs):(cutV xs lo hi).length<=xs.length:=by
 unfold cutV;rw[dz,d5];omega
end
def ixN(n:Nat)(i:Int):Option Nat:=if 0<=i then(if i<n then some i.toNat else none) else if -(n:Int)<=i then some (i+n).toNat else none
variable{α:Type}
def atI(xs:List α)(i:Int):Option α:=(ixN xs.length i).bind λj=>xs[j]?
variable{n:Nat}{i:Int}
def ztk{j:Nat}(h:ixN n i=some j):seqIndex? i n=some j/\j<n/\-(n:Int)<=i/\i<n:=by
 unfold ixN at h;by_cases D:0<=i
 ·rw[if_pos D] at h
  by_cases h1:i<n
  ·rw[if_pos h1] at h
   have e:i.toNat=j:=bh h;exact⟨by rw[seqIndex_of D h1,e],by omega,by omega,h1⟩
  ·rw[if_neg h1] at h;cases h
 ·rw[if_neg D] at h
  by_cases h1:-(n:Int)<=i
  ·rw[if_pos h1] at h
   have e:(i+n).toNat=j:=bh h;exact⟨by rw[seqIndex_neg (by omega) h1,e],by omega,h1,by omega⟩
  ·rw[if_neg h1] at h;cases h
def zpd{xs:List α}{v:α}(h:atI xs i=some v):∃j,seqIndex? i xs.length=some j/\xs[j]?=some v/\j<xs.length/\-(xs.length:Int)<=i/\i<xs.length:=by
 unfold atI at h;cases e:ixN xs.length i with
 | none=>rw[e] at h;cases h
 | some j =>
   rw[e] at h;obtain⟨h1,h2,D,I⟩:=ztk e;exact⟨j,h1,h,h2,D,I⟩
def zwc(xs:List α)(v:α):atI (xs++[v]) (-1)=some v:=by
 have D:(xs++[v]).length=xs.length+1:=by simp
 have e:ixN (xs++[v]).length (-1)=some xs.length:=by
  unfold ixN;rw[D,if_neg (by decide),if_pos (by omega)];congr 1;omega
 unfold atI;rw[e];show(xs++[v])[xs.length]?=some v;simp
def wn(b:Expr):Prop:=∀o i,subscripted b false o i=operate [o,i] (getItem o i)
def IxR(X:Cx)(r:R2):Prop :=
 ∀(value D:Expr) (pins:gx) (s:Shared) (σ:St) (H:Hp) (x y:V) (v u:Value) (Q:VK),Inv X pins σ H s->RelV x v->RelV y u->r x y H Q ->
  subscripted D false v u=operate [v,u] (getItem v u)->wpAny (model X.prog X.w) X.A (subscriptTail value D v u) (EP X pins σ Q) X.xe s
def MtR(X:Cx)(id:String)(r:V->g0->Hp->VK->Prop):Prop :=
 ∀(pins:gx) (s:Shared) (σ:St) (H:Hp) (x:V) (xs:g0) (v:Value) (us:fe) (Q:VK),Inv X pins σ H s->RelV x v->Vals xs us->r x xs H Q ->
  wpAny (model X.prog X.w) X.A (call (.builtin id) (v::us)) (EP X pins σ Q) X.xe s
variable{r:R2}{X:Cx}
def IxR.or{U:R2}(h:IxR X r)(h':IxR X U):IxR X (λx y H Q=>r x y H Q\/U x y H Q):=by
 intro value D pins s σ H x y v u Q I V Y q Z;rcases q with q | q
 ·exact h value D pins s σ H x y v u Q I V Y q Z
 ·exact h' value D pins s σ H x y v u Q I V Y q Z
variable{a b:Expr}{ta tb:TE}{pos:Pos}
def zt(D:IxR X r)(U:PE X a ta)(V:PE X b tb)(Y:wn b):PE X (.Subscript a b pos) (tOp r ta tb):=by
 intro pins s σ H Q I h;exact Subscript_ (binT U V I h λv u s2 x y H2 Z c d q=>D a b pins s2 σ H2 x y v u Q Z c d q (Y _ _))
def rIxL(K:gu):R2:=λx y H Q=>∃p xs i v,x=.ref p/\y=.int i/\SqL K H p xs/\atI xs i=some v/\Q v H
def rIxT(K:gu):R2:=λx y H Q=>∃p xs i v,x=.ref p/\y=.int i/\SqT K H p xs/\atI xs i=some v/\Q v H
def rIxS:R2:=λx y H Q=>∃z i c,x=.str z/\y=.int i/\z.length<=sizeLine/\atI z.cps.toList i=some c/\Q (.str ⟨#[c]⟩) H
def ztl:IxR X (rIxL X.K):=by
 intro value U pins s σ H x y v u Q I c d h Z;obtain⟨p,xs,i,z,rfl,rfl,e,f,q⟩:=h;cases c;obtain⟨t,rfl⟩:=d;obtain⟨its,r,pl,m⟩:=I.list e;obtain⟨j,h1,h2,n,g,k⟩:=zpd f;obtain⟨w,a,V⟩:=r.get h2;have l:=r.length;have o:=uw;have D:EP X pins σ Q w s:=⟨z,H,I,V,q⟩;by_cases b:0<=i
 ·have Y:i.toNat=j:=by
   rw[seqIndex_of b k] at h1;exact bh h1
  exact item_listR pl.isList b (by omega) (by rw[Y];simpa using a) D Z
 ·have Y:(i+(its.toArray.size:Int)).toNat=j:=by
   rw[seqIndex_neg (by omega) g] at h1;rw[b6,<-l];exact bh h1
  exact subscriptTail_builtinR (x:=w) pl.isList.typeIs slot_list_getitem.lookup
   (wpAny_getItem_list_neg (Q:=λr s'=>r=w/\EP X pins σ Q r s') pl.isList (by omega) (by rw[b6] <;> omega) (by omega) (by rw[Y];simpa using a) ⟨rfl,D⟩) Z
def z2x:IxR X (rIxT X.K):=by
 intro value D pins s σ H x y v u Q I Y Z h a;obtain⟨p,xs,i,z,rfl,rfl,b,c,q⟩:=h;cases Y;obtain⟨t,rfl⟩:=Z;obtain⟨its,r,pl,f⟩:=I.tuple b;obtain⟨j,h1,h2,g,k,l⟩:=zpd c;obtain⟨w,d,U⟩:=r.get h2;have e:=r.length;have m:=uw;have V:EP X pins σ Q w s:=⟨z,H,I,U,q⟩;exact subscriptTail_builtinR (x:=w) pl.typeIs slot_tuple_getitem.lookup
  (getItem_tuple (j:=j) (Q:=λr s'=>r=w/\EP X pins σ Q r s') pl (by omega) (by omega) (by rw[b6,<-e];exact h1) (by simpa using d) ⟨rfl,V⟩) a
def z2y:IxR X rIxS:=by
 intro value D pins s σ H x y v u Q I U V h Y;obtain⟨z,i,c,rfl,rfl,g,Z,q⟩:=h;obtain⟨t,rfl⟩:=U;obtain⟨t',rfl⟩:=V;obtain⟨j,h1,h2,k,a,b⟩:=zpd Z;have d:z.cps.toList.length=z.length:=by simp[Str.length]
 rw[d] at h1 a b;have l:=uw;exact tail_any (typeIs_str s z t) slot_str_getitem.lookup (getItem_str (c:=c) (by
  have e:decide (i < -(2 ^ 63:Int))=false:=decide_eq_false (by omega);have f:decide (i >= 2 ^ 63)=false:=decide_eq_false (by omega);rw[e,f,Bool.or_false]) (by rw[h1];simpa using h2) ⟨.str ⟨#[c]⟩,H,I.tok _,⟨_,rfl⟩,q⟩) Y
def rIx(K:gu):R2:=λx y H Q=>rIxL K x y H Q\/rIxT K x y H Q\/rIxS x y H Q
def ztm:IxR X (rIx X.K):=ztl.or (z2x.or z2y)
def zr3(its:fe)(n j:Nat)(u:Value):Obj.mapSeq (·.setIfInBounds j u) { cls:=.type "list",data:=.seq its.toArray n }={ cls:=.type "list",data:=.seq (its.set j u).toArray n }:=by
 simp[Obj.mapSeq]
def Inv.lst{pins:gx}{σ:St}{H:Hp}{s:Shared}{p:Addr}{xs:g0}(I:Inv X pins σ H s)(h:H p=some (.lst xs)) :
  ∃(its:fe) (n:Nat),Vals xs its/\s.heap.get? p=some { cls:=.type "list",data:=.seq its.toArray n }/\xs.length<=sizeLine:=by
 obtain⟨z,its,n,r,e⟩:=I.hok p _ h;exact⟨its,n,r,e,z⟩
variable{pins:gx}{σ:St}{H:Hp}{s:Shared}{xs ys:g0}{its its':fe}
def Inv.lstUpd{p:Addr}{D:Nat}{f:Obj->Obj}(I:Inv X pins σ H s)(h:H p=some (.lst xs))(V:s.heap.get? p=some { cls:=.type "list",data:=.seq its.toArray n })(U:f { cls:=.type "list",data:=.seq its.toArray n }={ cls:=.type "list",data:=.seq its'.toArray D })(r:Vals ys its')(Y:ys.length<=sizeLine)(t:Nat) :
  Inv X pins σ (upd H p (.lst ys)) { s with heap:=s.heap.update p f,toks:=t }:=by
 have e:(s.heap.update p f).get? p=some { cls:=.type "list",data:=.seq its'.toArray D }:=by
  rw[gh f V (by rw[U] <;> rfl),U]
 refine I.write (x:=p) (e:=p) (by rw[h];trivial) (.inl rfl) (λb u Z q=>(db _ _ (Ne.symm Z)).trans q) ⟨_,e⟩ ?_;exact⟨Y,its',D,r,e⟩
def z2z:V->V->V->Hp->(Hp->Prop)->Prop:=λo i v H Q=>∃p xs k j,o=.ref p/\i=.int k/\H p=some (.lst xs)/\ixN xs.length k=some j/\Q (upd H p (.lst (xs.set j v)))
def zl6:PSet X z2z:=by
 intro pins s σ H o i v l m u Q I ro d e h;obtain⟨p,xs,k,j,rfl,rfl,Y,f,q⟩:=h;cases ro;obtain⟨t,rfl⟩:=d;obtain⟨its,n,r,D,g⟩:=I.lst Y;obtain⟨h1,h2,Z,a⟩:=ztk f;have U:=r.length;have w:=uw;have b:Inv X pins σ (upd H p (.lst (xs.set j v))) { s with heap:=s.heap.update p (Obj.mapSeq (·.setIfInBounds j u)) } :=
  I.lstUpd Y D (zr3 its n j u) (r.set e j) (by rw[du];exact g) s.toks
 by_cases c:0<=k
 ·have V:k.toNat=j:=by
   rw[seqIndex_of c a] at h1;exact bh h1
  exact PySem.W.ki_setAt D c (by omega) (by rw[b6,<-U];exact a) (by rw[V];exact⟨_,b,q⟩)
 ·have V:(k+(its.toArray.size:Int)).toNat=j:=by
   rw[seqIndex_neg (by omega) Z] at h1;rw[b6,<-U];exact bh h1
  exact PySem.W.ki_setBack D (by omega) (by rw[b6,<-U];exact Z) (by omega) (by rw[V];exact⟨_,b,q⟩)
def znr(lo hi:gs)(n:Nat):(sliceBounds lo hi none n).1=((HT.sIx n 0 lo:Nat):Int)/\(sliceBounds lo hi none n).2.1=((HT.sIx n n hi:Nat):Int)/\(sliceBounds lo hi none n).2.2=1:=by
 refine⟨?_,?_,rfl⟩
 ·cases lo with
  | none=>simp[sliceBounds,HT.sIx]
  | some i =>
    simp only[sliceBounds,HT.sIx,Option.getD_none,show(1:Int) > 0 by decide,if_true];by_cases h:i<0
    ·simp only[h,if_true] <;> omega
    ·simp only[h,if_false] <;> omega
 ·cases hi with
  | none=>simp[sliceBounds,HT.sIx]
  | some i =>
    simp only[sliceBounds,HT.sIx,Option.getD_none,show(1:Int) > 0 by decide,if_true];by_cases h:i<0
    ·simp only[h,if_true] <;> omega
    ·simp only[h,if_false] <;> omega
def zl7(its:fe)(lo hi:gs):slicePick its.toArray lo hi none=((its.drop (HT.sIx its.length 0 lo)).take (HT.sIx its.length its.length hi-HT.sIx its.length 0 lo)).toArray:=by
 obtain⟨h1,h2,D⟩:=znr lo hi its.toArray.size;unfold slicePick;rw[h1,h2,D];simp only[sliceRange_one,pick_run,b6] <;> rfl
def rSlL(K:gu):V->gs->gs->Hp->VK->Prop:=λx lo hi H Q=>∃a xs,x=.ref a/\SqL K H a xs/\∀p,H p=none->Q (.ref p) (upd H p (.lst (cutV xs lo hi)))
def zz1:SlR X (rSlL X.K):=by
 intro pins s σ H x v e f lo hi sl Q I V Y pl Z h;obtain⟨a,xs,rfl,c,q⟩:=h;cases V;obtain⟨its,r,U,d⟩:=I.list c;have D:=r.length;refine⟨"list",_,slot_list_getitem.lookup,U.isList.typeIs,?_⟩;refine wpAny_getItem_list_slice U.isList Y pl Z .none (by simp) ?_ (by rw[b6] <;> omega);rw[zl7,<-D];refine⟨.ref s.heap.objs.size,_,I.laid (t':=s.toks) (o:=.lst (cutV xs lo hi)) (λb g q=>av _ q) (bo _) ?_,rfl,q _ (I.hok.fresh (bo _))⟩;exact⟨b8 (zpc xs lo hi) d,_,0,(r.drop (HT.sIx xs.length 0 lo)).take (HT.sIx xs.length xs.length hi-HT.sIx xs.length 0 lo),c8 _ rfl⟩
def zjg:pv X (.builtin "len") (λxs H Q=>∃p ys,xs=[.ref p]/\(SqL X.K H p ys\/SqT X.K H p ys)/\Q (.int ys.length) H):=by
 intro pins s σ H xs us Q I r h;obtain⟨p,ys,rfl,hq,q⟩:=h;obtain⟨u,rfl,V⟩:=ya r;cases V;have Z:=uw;rcases hq with hq | hq
 ·obtain⟨its,U,pl,Y⟩:=I.list hq
  have D:=U.length;exact Calls.call_len_list pl.isList (by simp only[b6] <;> omega) ⟨.int ys.length,H,I.tok _,⟨s.toks+1,by rw[b6,D]⟩,q⟩
 ·obtain⟨its,U,pl,Y⟩:=I.tuple hq
  have D:=U.length;exact len_tuple pl (by simp only[b6] <;> omega) ⟨.int ys.length,H,I.tok _,⟨s.toks+1,by rw[b6,D]⟩,q⟩
def zns:pv X (.type "list") (λxs H Q=>∃p ys,xs=[.ref p]/\(SqL X.K H p ys\/SqT X.K H p ys)/\∀l,H l=none->Q (.ref l) (upd H l (.lst ys))):=by
 intro pins s σ H xs us Q I r h;obtain⟨p,ys,rfl,hq,q⟩:=h;obtain⟨u,rfl,d⟩:=ya r;cases d;have V:∀(its:fe),Vals ys its->ys.length<=sizeLine->∀(h':Heap) (D:Nat),(∀b o',s.heap.get? b=some o'->h'.get? b=some o') ->
   h'.get? s.heap.objs.size=some { cls:=.type "list",dict:=none,data:=.seq its.toArray D,slots:=#[] }->EP X pins σ Q (.ref s.heap.objs.size) { s with heap:=h' }:=λits U Y h' D kp e =>
  ⟨.ref s.heap.objs.size,_,I.laid (t':=s.toks) kp (bo _) (show ObjOk X.prog X.w _ h' _ (.lst ys) from⟨Y,its,D,U,e⟩),rfl,q _ (I.hok.fresh (bo _))⟩
 rcases hq with hq | hq
 ·obtain⟨its,U,pl,Y⟩:=I.list hq
  have Z:=U.length;obtain⟨o,a,c,n,hd⟩:=pl.isList;exact call_list_seq p (.inl rfl) a c hd (λh' D kp e=>V its U Y h' D kp e) (by simp only[b6] <;> omega)
 ·obtain⟨its,U,pl,Y⟩:=I.tuple hq
  have Z:=U.length;obtain⟨o,a,c,n,hd⟩:=pl;exact call_list_seq p (.inr rfl) a c hd (λh' D kp e=>V its U Y h' D kp e) (by simp only[b6] <;> omega)
def tyV(K:gu)(T:String)(x:V)(H:Hp):Prop:=match x with
 | .str _=>T = "str"
 | .int _=>T = "int"
 | .ref p=>(T = "list"/\∃xs,SqL K H p xs)\/(T = "tuple"/\∃o,K.lookup p=some o/\o.cls=.type "tuple"/\o.dict=none) \/
    (T = "dict"/\((∃kvs,H p=some (.dK kvs))\/∃kvs,H p=some (.dT kvs)))\/(T = "set"/\∃S n,H p=some (.set S n))
 | _=>False
variable{T:String}{x:V}
def zym{v:Value}(I:Inv X pins σ H s)(r:RelV x v)(ty:tyV X.K T x H) :
  s.TypeIs v T/\∀a,v=.ref a->∃V,s.heap.get? a=some V/\V.dict=none:=by
 cases x with
 | str z =>
   obtain⟨t,rfl⟩:=r;cases (show T = "str" from ty);exact⟨typeIs_str s z t,λ_ e=>nomatch e⟩
 | int i =>
   obtain⟨t,rfl⟩:=r;cases (show T = "int" from ty);exact⟨typeIs_int s i t,λ_ e=>nomatch e⟩
 | ref p =>
   cases r;rcases ty with⟨rfl,xs,Y⟩ | ⟨rfl,o,D,hc,hd⟩ | ⟨rfl,D⟩ | ⟨rfl,S,n,D⟩
   ·obtain⟨its,_,pl,_⟩:=I.list Y
    refine⟨pl.isList.typeIs,λa e=>?_⟩;cases e;obtain⟨o,n,e,c,hd,_⟩:=pl;exact⟨o,e,hd⟩
   ·refine⟨⟨o,I.kIn p o D,hc⟩,λa e=>?_⟩
    cases e;exact⟨o,I.kIn _ o D,hd⟩
   ·have z:∃o,s.heap.get? p=some o/\o.ExactDict:=by
     rcases D with⟨kvs,D⟩ | ⟨kvs,D⟩
     ·obtain⟨_,_,_,_,o,_,_,e,ex,_⟩:=I.hok p _ D
      exact⟨o,e,ex⟩
     ·obtain⟨_,_,_,_,o,_,_,e,ex,_⟩:=I.hok p _ D
      exact⟨o,e,ex⟩
    obtain⟨o,e,ex⟩:=z;refine⟨⟨o,e,ex.1⟩,λa U=>?_⟩;cases U;exact⟨o,e,ex.2.1⟩
   ·obtain⟨o,_,_,_,e,ex,_⟩:=I.hok p _ D
    refine⟨⟨o,e,ex.1⟩,λa U=>?_⟩;cases U;exact⟨o,e,ex.2.1⟩
 | _=>exact False.elim ty
def tBM0(K:gu)(T:String)(r:V->g0->Hp->VK->Prop)(to:TE):TE:=λσ H Q=>to σ H λx H1=>tyV K T x H1/\r x [] H1 Q
def tBM(K:gu)(T:String)(r:V->g0->Hp->VK->Prop)(to:TE)(t:TA):TE:=λσ H Q=>to σ H λx H1=>tyV K T x H1/\t σ H1 λxs H2=>r x xs H2 Q
variable{r:V->g0->Hp->VK->Prop}{o:Expr}{to:TE}{name:Str}{apos cpos:Pos}{id:String}
def z20(b:PlainAttrs T)(V:Slot T name id)(Y:typeOf (.builtin id)=pure (.type "method_descriptor"))(c:MtR X id r)(d:PE X o to)(D:attributeBase o name X.env (eval o X.env)=eval o X.env:=by rfl)(U:(apos.endLine==cpos.line)=true:=by rfl):PE X (.Call (.Attribute o name apos) [] [] cpos) (tBM0 X.K T r to):=by
 intro pins s σ H Q I h;refine wpAny_Call_method0_late D U (thn (d pins s σ H _ I h) λv e f=>?_);obtain⟨x,H1,Z,a,ty,g⟩:=f;obtain⟨h1,h2⟩:=zym Z a ty;exact⟨T,id,b,V,Y,h1,h2,Calls.callWith_builtin rfl (PySem.evalArgs_none (c pins e σ H1 x [] v [] Q Z a .nil g))⟩
variable{e:Expr}{es:gp}{t:TA}
def wb(d:PlainAttrs T)(Y:Slot T name id)(a:typeOf (.builtin id)=pure (.type "method_descriptor"))(f:MtR X id r)(g:PE X o to)(i:PA X (e::es) t)(U:attributeBase o name X.env (eval o X.env)=eval o X.env:=by rfl)(Z:((backTo cpos (starEach (e::es) X.env)).all (λx=>!x.1) && (backToKw cpos (keywordEach [] X.env)).all (λx=>x.1.isSome)
   && decide ((e::es).length+([]:List Keyword).length+(if ([]:List Keyword).isEmpty then 0 else 1)<30))=true:=by rfl)(V:(apos.endLine==cpos.line)=true:=by rfl)(j:starEach (e::es) X.env=(false,eval e X.env)::starEach es X.env:=by rfl)(D:(backTo cpos (starEach es X.env)).any (·.1)=false:=by rfl) :
  PE X (.Call (.Attribute o name apos) (e::es) [] cpos) (tBM X.K T r to t):=by
 intro pins s σ H Q I h;refine wpAny_Call_method_late U Z V rfl (thn (g pins s σ H _ I h) λv k l=>?_);obtain⟨x,H1,b,c,ty,m⟩:=l;obtain⟨h1,h2⟩:=zym b c ty;refine⟨T,id,d,Y,a,h1,h2,?_⟩;have hA:=i cpos pins k σ H1 _ b m;rw[j] at hA ⊢;refine Calls.callWith_builtin (by show(false || (backTo cpos (starEach es X.env)).any (·.1))=false;rw[D] <;> rfl) (Calls.evalArgs_plain ?_);exact thn hA λus s2 ⟨vs,H2,I2,r2,q2⟩=>f pins s2 σ H2 x vs v us Q I2 c r2 q2
def MtM(X:Cx)(id:String)(r:V->g0->Hp->VK->Prop):Prop :=
 ∀(pins:gx) (s:Shared) (σ:St) (H:Hp) (x:V) (xs:g0) (v:Value) (us:fe) (Q:VK),Inv X pins σ H s->RelV x v->Vals xs us->r x xs H Q ->
  wpAny (model X.prog X.w) X.A (call (.builtin id) (v::us)) (EP X pins σ Q) X.xe s
def VInv:g0->fe->Prop
 | [],us=>us=[]
 | x::xs,us=>∃u t,us=u::t/\RelV x u/\Vals xs t
variable{us:fe}
def Vals.inv(h:Vals xs us):VInv xs us:=by
 cases h with
 | nil=>exact rfl
 | cons r t=>exact⟨_,_,rfl,r,t⟩
def Vals.one(h:Vals [x] us):∃u,us=[u]/\RelV x u:=by
 obtain⟨u,t,e,r,q⟩:=h.inv;exact⟨u,(show t=[] from q.inv) ▸ e,r⟩
def Vals.two{y:V}(h:Vals [x,y] us):∃u v,us=[u,v]/\RelV x u/\RelV y v:=by
 obtain⟨u,t,e,r,q⟩:=h.inv;obtain⟨v,f,q⟩:=q.one;exact⟨u,v,f ▸ e,r,q⟩
def Vals.zero:∀ {us:fe},Vals [] us->us=[]
 | _,.nil=>rfl
def Vals.dropLast(h:Vals xs us):Vals xs.dropLast us.dropLast:=by
 induction h with
 | nil=>exact .nil
 | cons r t ih =>
   cases t with
   | nil=>exact .nil
   | cons q t'=>exact .cons r ih
def Vals.rep{xs:g0}{us:fe}(h:Vals xs us):∀k:Nat,Vals (List.replicate k xs).flatten (List.replicate k us).flatten
 | 0=>.nil
 | k+1=>by
   rw[ja,ja,cf,cf];exact Vals.append h (Vals.rep h k)
def zr5(l:List α):l.eraseIdx (l.length-1)=l.dropLast:=by
 induction l with
 | nil=>rfl
 | cons a r ih =>
   cases r with
   | nil=>rfl
   | cons b r =>
     have e:(a::b::r).length-1=((b::r).length-1)+1:=by
      have h1:(a::b::r).length=r.length+2:=rfl;have h2:(b::r).length=r.length+1:=rfl;omega
     rw[e,List.eraseIdx_cons_succ,ih];all_goals rfl
def znt(its:fe):∀(k:Nat) (D:fe),
  List.foldl (λI U=>I++U) D.toArray (List.replicate k its.toArray)=(D++(List.replicate k its).flatten).toArray
 | 0,D=>by simp
 | k+1,D=>by
   have e:D.toArray++its.toArray=(D++its).toArray:=by simp
   have V:(D++its)++(List.replicate k its).flatten=D++(List.replicate (k+1) its).flatten:=by
    rw[ja,cf,b9]
   rw[<-V,<-znt its k (D++its),<-e,ja,List.foldl_cons]
variable{t':Nat}{l:Addr}
def Inv.lset{f:gy->gy}(I:Inv X pins σ H s)(D:H l=some (.lst xs))(e:s.heap.get? l=some { cls:=.type "list",data:=.seq its.toArray n })(U:f its.toArray=its'.toArray)(V:Vals ys its')(Y:ys.length<=sizeLine) :
  Inv X pins σ (upd H l (.lst ys)) { s with heap:=s.heap.update l (Obj.mapSeq f),toks:=t' }:=by
 have q:=PySem.IsL.update e f;rw[U] at q;refine I.write (x:=l) (e:=l) (by rw[D];exact trivial) (.inl rfl) (λb u Z a=>(db s.heap (Obj.mapSeq f) (Ne.symm Z)).trans a) ⟨_,q⟩ ?_;exact⟨Y,its',_,V,q⟩
def Inv.lnew(I:Inv X pins σ H s)(D:Vals ys its)(U:ys.length<=sizeLine) :
  Inv X pins σ (upd H s.heap.objs.size (.lst ys)) { s with heap:=s.heap.push { cls:=.type "list",data:=.seq its.toArray },toks:=t' } :=
 I.laid (λ_ _ q=>av _ q) (bo _) ⟨U,its,0,D,c8 _ rfl⟩
def Inv.fresh(I:Inv X pins σ H s):H s.heap.objs.size=none:=I.hok.fresh (bo _)
def Inv.lstM(I:Inv X pins σ H s)(D:H l=some (.lst xs)):xs.length<=sizeLine/\∃(its:fe) (n:Nat),Vals xs its/\xs.length=its.length/\s.heap.get? l=some { cls:=.type "list",data:=.seq its.toArray n }:=by
 obtain⟨z,its,n,r,e⟩:=I.hok l _ D;exact⟨z,its,n,r,r.length,e⟩
def zqh(h:n<=sizeLine):Builtin.List.listTooLong n=false:=by
 unfold Builtin.List.listTooLong;exact decide_eq_false (by omega)
def zz2:V->g0->Hp->VK->Prop:=λx vs H Q=>∃l xs y,x=.ref l/\vs=[y]/\H l=some (.lst xs)/\xs.length<sizeLine/\Q .non (upd H l (.lst (xs++[y])))
theorem zkd:MtM X "list.append" zz2:=by
 intro pins s σ H x vs v us Q I U V h;obtain⟨l,xs,y,rfl,rfl,D,Z,q⟩:=h;cases U;obtain⟨u,rfl,Y⟩:=V.one;obtain⟨z,its,n,r,a,e⟩:=I.lstM D;refine call_meets F.slot_list_append ⟨_,e,rfl⟩ F.entry_list_append (F.args_list_append_2 _ _) (PySem.list_append l its.toArray n u (by rw[b6];omega)) ⟨e,?_⟩;refine⟨.non,_,I.lset (its':=its++[u]) D e (by simp) (r.append (.cons Y .nil)) ?_,rfl,q⟩;rw[aj,dg];omega
def zz3:V->g0->Hp->VK->Prop:=λx vs H Q=>∃l b xs D,x=.ref l/\vs=[.ref b]/\H l=some (.lst xs)/\H b=some (.lst D)/\xs.length+D.length<=sizeLine/\Q .non (upd H l (.lst (xs++D)))
theorem ztn:MtM X "list.extend" zz3:=by
 intro pins s σ H x vs v us Q I Z a h;obtain⟨l,b,xs,k,rfl,rfl,Y,c,m,q⟩:=h;cases Z;obtain⟨u,rfl,d⟩:=a.one;cases d;obtain⟨z,its,n,r,o,e⟩:=I.lstM Y;obtain⟨p,D,f,g,i,j⟩:=I.lstM c;have V:its.toArray.size+D.toArray.size<=sizeLine:=by rw[b6,b6];omega
 have U:¬(!its.toArray.isEmpty && Builtin.List.listTooLong (its.toArray.size+D.toArray.size))=true:=by
  rw[zqh V,Bool.and_false];exact ce
 refine call_meets F.slot_list_extend ⟨_,e,rfl⟩ F.entry_list_extend (F.args_list_extend_2 _ _)
  (AutoSeq1.list_extend_list_list_0 l its.toArray n b D.toArray f U (by rw[b6];omega) (by omega)) ⟨e,j,?_⟩
 refine⟨.non,_,I.lset (its':=its++D) Y e (by simp) (r.append g) ?_,rfl,q⟩;rw[aj];omega
def rPop:V->g0->Hp->VK->Prop:=λx vs H Q=>∃l xs y,x=.ref l/\vs=[]/\H l=some (.lst xs)/\xs[xs.length-1]?=some y/\Q y (upd H l (.lst xs.dropLast))
theorem z21:MtM X "list.pop" rPop:=by
 intro pins s σ H x vs v us Q I Y Z h;obtain⟨l,xs,y,rfl,rfl,V,a,q⟩:=h;cases Y;have D:=Z.zero;subst D;obtain⟨z,its,n,r,b,e⟩:=I.lstM V;obtain⟨u,c,d⟩:=r.get a;have U:its.toArray[its.toArray.size-1]?=some u:=by
  show its.toArray[its.length-1]?=some u;rw[<-Array.getElem?_toList,<-b];exact c
 refine call_meets F.slot_list_pop ⟨_,e,rfl⟩ F.entry_list_pop (F.args_list_pop_1 _) (MeetsSeq.list_pop_last l its.toArray n u U (by rw[b6];omega)) ⟨e,?_⟩;refine⟨y,_,I.lset (its':=its.dropLast) V e ?_ r.dropLast ?_,d,q⟩
 ·show its.toArray.eraseIdxIfInBounds (its.toArray.size-1)=its.dropLast.toArray
  rw[b6,List.eraseIdxIfInBounds_toArray,zr5]
 ·rw[md]
  omega
def rRep:R2:=λx y H Q=>∃l k xs,x=.ref l/\y=.int k/\H l=some (.lst xs)/\-(2 ^ 63)<=k/\k<2 ^ 63/\xs.length*k.toNat<=sizeLine /\
 ∀p,H p=none->Q (.ref p) (upd H p (.lst (List.replicate k.toNat xs).flatten))
def zz4(xs:List α)(k:Nat):(List.replicate k xs).flatten.length=k*xs.length:=by
 induction k with
 | zero=>simp
 | succ k ih=>rw[ja,cf,aj,ih,Nat.succ_mul,Nat.add_comm]
theorem z22:OpR X (binaryOp .Mult) rRep:=by
 intro pins s σ H x y v u Q I g i h;obtain⟨l,k,xs,rfl,rfl,j,h1,h2,f,q⟩:=h;cases g;obtain⟨t,rfl⟩:=i;obtain⟨z,its,n,r,o,e⟩:=I.lstM j;have V:its.toArray.size*k.toNat<=sizeLine:=by rw[b6,<-o];exact f
 have Y:¬its.toArray.size*k.toNat > (2 ^ 63-1) / 8:=by
  have:(sizeLine:Nat)<=(2 ^ 63-1) / 8:=by decide
  omega
 have Z:¬(!Builtin.List.listFitsIndex k)=true:=by
  rw[fitsIndex_both h1 h2];exact ce
 have D:¬Builtin.List.listTooLong (its.toArray.size*k.toNat)=true:=by
  rw[zqh V];exact ce
 have b:List.foldl (λc d=>c++d) #[] (List.replicate (if its.toArray.isEmpty=true then 0 else k.toNat) its.toArray)=(List.replicate k.toNat its).flatten.toArray:=by
  have p:∀m:Nat,List.foldl (λc d=>c++d) #[] (List.replicate m its.toArray)=(List.replicate m its).flatten.toArray:=λm=>by
   have:=znt its m [];rw[jh] at this;exact this
  rw[p];cases its with
  | nil=>simp
  | cons a r'=>rw[if_neg (by simp)]
 refine wpAny_binaryOp_repeat_ref (T:="list") (U:="int") (by decide) ⟨_,e,rfl⟩ (λs'=>typeIs_int s' k t) noFill_list_mul F.fills_int_mul F.slot_int_rmul repeat_list F.slot_int_index.lookup
  (call_meets F.slot_int_rmul (typeIs_int s k t) F.entry_int_rmul (F.args_int_rmul_2 _ _) (int___rmul___int_list k t l its.toArray n)
    ⟨e,rfl,⟨_,e,rfl⟩,call_meets F.slot_list_mul ⟨_,e,rfl⟩ F.entry_list_mul (F.args_list_mul_2 _ _) (AutoListH.list___mul___list_int_3 l its.toArray n k t Z Y D) ⟨e,?_⟩⟩)
 rw[b];exact⟨.ref _,_,I.lnew (t':=s.toks) (r.rep k.toNat) (by rw[zz4,Nat.mul_comm];exact f),rfl,q _ I.fresh⟩
end L2
namespace Att
open PySem PySem.W PySem.Calls PyProof.Rows
variable{P:Params}{h:Heap}
def zke:∀(ns:f5) (vs:fe),WellAll P h vs (ns.map WData.int)->IntsAre vs ns:=by
 intro ns;induction ns with
 | nil =>
   intro vs w;rw[cy] at w;cases w;exact .nil
 | cons n ns ih =>
   intro vs w;rw[bg] at w;cases w with
   | cons a b =>
     cases a;exact .cons _ _ (ih _ b)
variable{l:OpenLaw}{n:Nat}
def zto(e:l.most=some n){args:List WData}{D:fe}(I:l.row.toRowW.claim.pre args=true)(Z:WellAll P h D args) :
  ∃a vs ns,D=[Value.ref a]/\args=[WData.list (ns.map WData.int)]/\h.get? a=some { cls:=.type "list",data:=.seq vs.toArray }/\IntsAre vs ns/\ns.length<=n:=by
 have b:WShape.hasAll [] args [.list .int]=true:=(pre_splitW I).1;have c:l.pre.holds [] { args:=args }=true:=(pre_splitW I).2;obtain⟨d,r,rfl,h1,h2⟩:=hasAllW_cons b;obtain rfl:=hasAllW_nil h2;obtain⟨xs,rfl,f⟩:=hasW_list h1;obtain⟨ns,rfl⟩:=items_int f;have U:ns.length<=n:=by
  unfold OpenLaw.pre at c;have V:(WTm.not (.lt (.lit (.int (n:Int))) (.len (.arg 0)))).holds [] { args:=[.list (ns.map .int)] }=true:=by
   have V:=(holds_andW c).1;rw[e] at V;exact V
  have Y:=condW_of V (w_not (w_lt w_lit (w_len_list (w_arg rfl))));rw[ae] at Y;refine js λq=>?_;have g:(n:Int)<((ns.length:Nat):Int):=by omega
  first
   | (rw[decide_eq_true g] at Y;exact absurd Y (by decide))
   | (simp at Y;omega)
 cases Z with
 | cons w1 w2 =>
   cases w2;cases w1 with
   | list ho hall=>exact⟨_,_,ns,rfl,rfl,ho,zke ns _ hall,U⟩
def ztp(l:OpenLaw)(args:List WData):l.row.toRowW.claim.post args (.bool true) args=true :=
 postW_of (r:=l.row.toRowW) (X:=(true==true))
  (show WShape.has [] (.bool true) .bool=true by first | rfl | decide | simp[WShape.has,WShape.arms,WShape.armsAll])
  (show(WTm.eq .res (.lit (.bool true))).value [] { args:=args,res:=some (.bool true),after:=args }=some (.bool (true==true)) from w_eq_bool (w_res rfl) w_lit) rfl
def attach_call{q:Program}{I:c3}{p:(Str->fg)->Heap->Prop}{s:World->Heap->Prop}{d:DefRec}(x:l.most=some n)(g:d.params.defaults=[])(call:∀(w:World) (s₀ D:Shared) (mg h:Str->fg) (fa:Addr) (o:Obj) (i e U:Value) (a:Addr) (vs:fe) (ns:f5),
   Ground q I [] p w s₀ mg h D.heap->s w D.heap ->
   D.heap.get? fa=some o->o.data=.func (docDef d.name d.params d.body d.scope i e U)->D.heap.CodeRec e d.name->mg d.name=some (.ref fa) ->
   D.heap.get? a=some { cls:=.type "list",data:=.seq vs.toArray }->IntsAre vs ns->ns.length<=n->D.gens=#[] ->
   codeAny (model l.prog w) callerA (.call (.ref fa) ⟨[.ref a],[]⟩) (λr s'=>r=.ok (.ret (.bool true))/\OldK D.heap s'.heap/\s'.os=D.os/\AllBare s'.gens) D) :
  WalkO q I p s l.row.toRowW d [] (λf vs=>PySem.call f vs):=by
 intro w s₀ D mg h G Y fa o i e U y kV z hd j t k A args u as Z v B m C;obtain rfl:y=.none:=Dflts.none t g;obtain rfl:kV=.none:=Dflts.noKw t;obtain⟨a,vs,ns,rfl,rfl,b,V,c⟩:=zto x Z m;refine enter_call (codeAny_mono (call w s₀ D mg h fa o i e U a vs ns G Y z (fd_plain hd) j k b V c A) λr s' E=>?_);obtain⟨rfl,h2,F,H⟩:=E;exact⟨.inl ⟨.bool true,.bool true,[],rfl,λ_=>rfl,.bool true,ztp l _,λ_=>⟨List.Pairwise.nil,λ_ J=>(nomatch J)⟩⟩,h2,F,H⟩
end Att
namespace L2
open PySem PySem.Spec PyProof.Rows
def znu:∀ {vs:fe} {ns:f5},IntsAre vs ns->Vals (ns.map V.int) vs
 | _,_,.nil=>.nil
 | _,_,.cons n t h=>.cons ⟨t,rfl⟩ (znu h)
def Only(H:Hp):Prop:=∀b,H b=none\/∃o xs,H b=some (.frz o (.lst xs))
variable{w:World}{K:gu}{k:Nat}{a:Addr}{x:Str}{vs:fe}
def zwe{P:Program}{mg C:Str->fg}{CX:CXT}{fa:Addr}{fd:FuncData}{sp:Sp}{D:Shared}{ns:f5}(M:K.In D.heap)(f:D.heap.Ns mainGlobals mg)(U:D.heap.Ns builtinsNs C)(E:∀x:Str,x ≠ "__name__"->C x=bootBuiltins x)(g:D.heap.NoLimit)(S:D.gens=#[])(B:D.heap.get? a=some { cls:=.type "list",data:=.seq vs.toArray })(hi:IntsAre vs ns)(N:ns.length<=sizeLine)(T:Room k callerA)(F:∀base:Heap,K.In base->base.Ns mainGlobals mg->FnOk P w K mg base CX k fa fd [x] sp)(c:∀(s:Shared) (u:Value),BindsTo s fd ⟨[u],[]⟩ [(x,u)])(G:∀H:Hp,Only H->SqL K H a (ns.map V.int)->sp [.ref a] H (λv _=>v=.bl true) λ_ _ _=>False)(J:∀H e s',CX [] H D (λ_ _ _=>False) e s'->False) :
  codeAny (model P w) callerA (.call (.ref fa) ⟨[.ref a],[]⟩) (λr s'=>r=.ok (.ret (.bool true))/\OldK D.heap s'.heap/\s'.os=D.os/\AllBare s'.gens) D:=by
 have O:=znu hi;have i:=hi.length;have Z:∀H:Hp,Only H->SqL K H a (ns.map V.int)->HOk P w H D.heap->(∀b,H b≠none->b=a)->(H a≠none->K.lookup a=none) ->
   codeAny (model P w) callerA (.call (.ref fa) ⟨[.ref a],[]⟩) (λr s'=>r=.ok (.ret (.bool true))/\OldK D.heap s'.heap/\s'.os=D.os/\AllBare s'.gens) D:=by
  intro H Q W j hA X;have I:∀ {b:Addr} {o:Obj},D.heap.get? b=some o->H b=none->(hidT D.heap H).get? b=some o:=λe n=>zv3 e n;have L:∀ {b:Addr} {o:Obj} {es:Array DictEntry} {l:Nat},D.heap.get? b=some o->o.data=.dict es l->H b=none:=λ{b o es l} e d=>by
   cases q:H b with
   | none=>rfl
   | some u =>
     have e':b=a:=hA b (by rw[q];simp);subst e';rw[B] at e;cases e;have d':Data.seq vs.toArray _=Data.dict es l:=d;cases d'
  have Y:∀ {b:Addr} {m:Str->fg},D.heap.Ns b m->(hidT D.heap H).Ns b m:=λ{b m} ⟨o,es,l,e,d,r⟩=>⟨o,es,l,I e (L e d),d,r⟩;have p:K.In (hidT D.heap H):=λb o e=>I (M b o e) (by
   cases q:H b with
   | none=>rfl
   | some u =>
     have e':b=a:=hA b (by rw[q];simp);subst e';rw[X (by rw[q];simp)] at e;cases e)
  have hM:Mod K mg (hidT D.heap H):=⟨p,Y f,⟨C,Y U,E⟩,let ⟨mc,h1,h2⟩:=g;⟨mc,Y h1,h2⟩⟩;have e0:Env0 P w K mg (hidT D.heap H) callerA [] D H:=⟨rfl,hM,λb o e=>zzg e,Nat.le_of_eq (zs1 _ _),trivial,λb U=>absurd (show b∈([]:fh) from U) (by simp),j,.of_eq S⟩;refine codeAny_mono ((F _ p (Y f)).run callerA [] D H ⟨[.ref a],[]⟩ [.ref a] [.ref a] _ _ T e0 (c D (.ref a)) (.cons rfl .nil) (G H Q W)) λr s' h=>?_;cases r with
  | error e=>exact(J H e s' h).elim
  | ok fl =>
    cases fl with
    | next=>exact False.elim h
    | brk=>exact False.elim h
    | cont=>exact False.elim h
    | ret u =>
      obtain⟨v,H',os,t,un,y,r',q⟩:=h;have q':v=.bl true:=q;subst q';obtain rfl:u=Value.bool true:=r';refine⟨rfl,OldK.of_keep λb o e=>?_,os,t⟩;cases q:H b with
      | none=>exact un.keep b o e q (by intro z;exact absurd (show b∈([]:fh) from z) (by simp)) (by simp)
      | some u =>
        rcases Q b with z | ⟨ob,xs,z⟩
        ·rw[q] at z;cases z
        ·have z2:=un.frzs b ob _ z
         obtain⟨R,_⟩:=j b _ z;obtain⟨e2,_⟩:=y b _ z2;rw[e] at R;cases R;exact e2
 cases hk:K.lookup a with
 | some o =>
   have e:=M a o hk;rw[B] at e;cases e;refine Z (λ_=>none) (λ_=>.inl rfl) (.inr ⟨_,vs.toArray,_,hk,rfl,rfl,rfl,by rw[b6,i];exact N,by simpa using O⟩) (λb u z=>by have A:(none:Option HO)=some u:=z;cases A) (λb z=>absurd rfl z) λz=>absurd rfl z
 | none =>
   refine Z (λb=>if b=a then some (.frz { cls:=.type "list",data:=.seq vs.toArray } (.lst (ns.map V.int))) else none) (λb=>?_) (.inl (.inr ⟨{ cls:=.type "list",data:=.seq vs.toArray },if_pos rfl⟩)) (λb u z=>?_) (λb z=>?_) λ_=>hk
   ·by_cases U:b=a
    ·exact .inr ⟨_,_,if_pos U⟩
    ·exact .inl (if_neg U)
   ·by_cases U:b=a
    ·have A:=(if_pos U).symm.trans z
     cases A;subst U;exact⟨B,by rw[ae];exact N,vs,_,O,B⟩
    ·have A:=(if_neg U).symm.trans z
     cases A
   ·by_cases U:b=a
    ·exact U
    ·exact absurd (if_neg U) z
variable{l:Addr}{d:D}
def zz5{l:PySem.W.OpenLaw}{n:Nat}{q:Program}{I:c3}{z:(Str->fg)->Heap->Prop}{t:World->Heap->Prop}{d:DefRec}{K:Params->gu}{CX:World->CXT}{sp:World->Sp}(A:l.most=some n)(i:n<=sizeLine)(j:d.params.defaults=[])(B:Room k callerA)(C:∀(w:World) (h:Heap),t w h->(K w.params).In h)(F:∀(w:World) (mg:Str->fg) (fa:Addr) (h:Heap),(K w.params).In h->h.Ns mainGlobals mg->mg d.name=some (.ref fa) ->
   ∃fd:FuncData,(∀(s:Shared) (u:Value),BindsTo s fd ⟨[u],[]⟩ [(x,u)]) /\
    ∀base:Heap,(K w.params).In base->base.Ns mainGlobals mg->FnOk l.prog w (K w.params) mg base (CX w) k fa fd [x] (sp w))(m:∀(w:World) (H:Hp) (a:Addr) (ns:f5),ns.length<=n->Only H->SqL (K w.params) H a (ns.map V.int)->sp w [.ref a] H (λv _=>v=.bl true) λ_ _ _=>False)(p:∀(w:World) (H:Hp) (s:Shared) (e:Value) (s':Shared),CX w [] H s (λ_ _ _=>False) e s'->False) :
  PySem.W.WalkO q I z t l.row.toRowW d [] (λf vs=>PySem.call f vs):=by
 refine Att.attach_call A j λw s₀ Z mg Q fa o R S E a vs ns G Y X hd J r c U D L=>?_;have y:=C w _ Y;obtain⟨fd,M,N⟩:=F w mg fa _ y G.T.g r;exact zwe y G.T.g G.T.b G.T.builtins G.T.nolimit L c U (b8 D i) B N M (λH O P=>m w H a ns D O P) λH e s'=>p w H Z e s'
def se(s:Stmt):Arguments:=match s with
 | .FunctionDef _ a _ _ _ _ _ _ _ _=>a
 | _=>{ posonlyargs:=[],args:=[],vararg:=none,kwonlyargs:=[],kw_defaults:=[],kwarg:=none,defaults:=[] }
def mh(s:Stmt):List Stmt:=match s with
 | .FunctionDef _ _ b _ _ _ _ _ _ _=>b
 | _=>[]
def i5(s:Stmt):Scope:=match s with
 | .FunctionDef _ _ _ _ _ _ sc _ _ _=>sc
 | _=>{ kind:=.function,names:=[],isGenerator:=false,isCoroutine:=false }
abbrev CX0:CXT:=λ_ _ _ _ _ _=>False
abbrev E0:XK:=λ_ _ _=>False
variable{X:Cx}
def zz6:zti CX0 X E0:=λ_ _ _ _ _ _ _ h=>h.elim
structure Fun (K:gu) (x qual:Str) (st:Stmt) (f:Addr) (fd:FuncData):Prop where
 ex:∃(oc:Value) (od:Option Addr) (kV doc pm:Value) (an:Option Addr) (cdv ct:Value) (osl:Array fg),
  fd=PySem.W.fnOf x qual (se st) (mh st) (i5 st) .none kV doc pm an cdv ct/\K.lookup f=some ⟨oc,od,.func fd,osl⟩/\PySem.W.codeIn K cdv qual=true
 kp:PySem.W.keepIn K (.ref f)=true
variable{f:FE}
def ztq{qual:Str}{st:Stmt}{f:Addr}{oc:Value}{od an:Option Addr}{osl:Array fg}{kV D I cdv ct:Value}(l:K.lookup f=some ⟨oc,od,.func (PySem.W.fnOf x qual (se st) (mh st) (i5 st) .none kV D I an cdv ct),osl⟩)(c:PySem.W.codeIn K cdv qual=true)(k:PySem.W.keepIn K (.ref f)=true):Fun K x qual st f (PySem.W.fnOf x qual (se st) (mh st) (i5 st) .none kV D I an cdv ct):=⟨⟨oc,od,kV,D,I,an,cdv,ct,osl,rfl,l,c⟩,k⟩
variable{A:Around}
def z5j(D:Room k A):A.units+1<cLine:=m7 (Nat.add_le_add_left (by decide:1<=64) _) D.units
def Same(H H':Hp):Prop:=∀b o,H b=some o->H' b=some o
def Same.refl(H:Hp):Same H H:=λ_ _ h=>h
variable{H H1 H2:Hp}
def Same.trans(a:Same H H1)(b:Same H1 H2):Same H H2:=λc o h=>b c o (a c o h)
variable{H':Hp}
def Same.free(e:Same H H')(h:H' l=Option.none):H l=Option.none:=by
 cases q:H l with
 | none=>rfl
 | some o =>
   rw[e l o q] at h;cases h
def zh7{env:Env}:∀(names:List (Str×NameKind)) (D:List (Str×Addr)),
  (∀y∈names,y.2=.free->∃c,env.cells.lookup y.1=some c)->(∀y c,D.lookup y=some c->env.cells.lookup y=some c) ->
  ∃cl,(forIn names D λ(x:Str×NameKind) (cs:List (Str×Addr))=>if (x.2==NameKind.free)=true then(do let c <-cellOf env x.1;pure (ForInStep.yield ((x.1,c)::cs)):Sem _) else pure (ForInStep.yield cs))=pure cl /\
   (∀y c,cl.lookup y=some c->env.cells.lookup y=some c)/\(∀y c,D.lookup y=some c->∃U,cl.lookup y=some U)/\∀y∈names,y.2=.free->∃c,cl.lookup y.1=some c
 | [],D,_,ha=>⟨D,rfl,ha,λy c e=>⟨c,e⟩,λ_ h=>nomatch h⟩
 | (n,k)::r,D,hn,ha=>by
   by_cases Y:k=.free
   ·subst Y
    obtain⟨c,a⟩:=hn (n,.free) bj rfl;obtain⟨cl,e,h1,h2,Z⟩:=zh7 r ((n,c)::D) (λy hy=>hn y (au _ hy)) (λy U e=>by
     rw[cz] at e;cases hq:y==n with
     | true=>rw[hq] at e;cases e;rw[eq_of_beq hq];exact a
     | false=>rw[hq] at e;exact ha y U e)
    have I:List.lookup n ((n,c)::D)=some c:=by simp[cz]
    refine⟨cl,?_,h1,λy U e'=>?_,λy hy V=>?_⟩
    ·rw[List.forIn_cons]
     have b:cellOf env n=pure c:=by unfold cellOf;rw[a]
     simp only[beq_self_eq_true,if_true,b,pure_bind];exact e
    ·cases hq:y==n with
     | true=>rw[eq_of_beq hq];exact h2 n c I
     | false=>exact h2 y U (by rw[cz,hq];exact e')
    ·rcases b7.mp hy with rfl | hy
     ·exact h2 n c I
     ·exact Z y hy V
   ·obtain⟨cl,e,h1,h2,Z⟩:=zh7 r D (λy hy=>hn y (au _ hy)) ha
    refine⟨cl,?_,h1,h2,λy hy V=>?_⟩
    ·rw[List.forIn_cons]
     have d:(k==NameKind.free)=false:=by cases k <;> first | rfl | exact absurd rfl Y
     simp only[d,dc,if_false,pure_bind];exact e
    ·rcases b7.mp hy with rfl | hy
     ·exact absurd V Y
     ·exact Z y hy V
variable{sc:Scope}{env:Env}
def ziw(h:∀y∈sc.names,y.2=.free->∃c,env.cells.lookup y.1=some c) :
  ∃cl,closureFor sc env=pure cl/\(∀y c,cl.lookup y=some c->env.cells.lookup y=some c)/\∀y∈sc.names,y.2=.free->∃c,cl.lookup y.1=some c:=by
 obtain⟨cl,e,h1,_,D⟩:=zh7 (env:=env) sc.names [] h (λy c e=>by simp at e);refine⟨cl,?_,h1,D⟩;unfold closureFor;rw[show(pure cl:Sem _)=(pure cl >>= λcs=>pure cs) by rw[pure_bind],<-e]
def zd{env:Env}:∀ {names:List (Str×NameKind)} {x:Str} {k:NameKind},
  (names.map λ(n,k)=>if (k==NameKind.free && env.scope.kind==.function && env.kindOf n==some .cell) then(n,NameKind.cell) else(n,k)).lookup x=some k ->
  names.lookup x=some k\/(names.lookup x=some .free/\k=.cell)
 | (n,k0)::r,x,k,h=>by
   have I:=@zd env r x k;have h:List.lookup x ((if (k0==NameKind.free && env.scope.kind==.function && env.kindOf n==some .cell)=true then(n,NameKind.cell) else(n,k0))::_)=_:=h;cases hx:x==n with
   | true =>
     by_cases D:(k0==NameKind.free && env.scope.kind==.function && env.kindOf n==some .cell)=true
     ·rw[if_pos D] at h
      simp only[cz,hx] at h ⊢;simp only[fq,beq_iff_eq] at D;cases h;exact .inr ⟨by rw[D.1.1],rfl⟩
     ·rw[if_neg D] at h
      simp only[cz,hx] at h ⊢;exact .inl h
   | false =>
     by_cases D:(k0==NameKind.free && env.scope.kind==.function && env.kindOf n==some .cell)=true
     ·rw[if_pos D] at h
      simp only[cz,hx] at h ⊢;exact I h
     ·rw[if_neg D] at h
      simp only[cz,hx] at h ⊢;exact I h
def vj{env:Env}:∀ {names:List (Str×NameKind)} {x:Str},names.lookup x=some .free ->
  (names.map λ(n,k)=>if (k==NameKind.free && env.scope.kind==.function && env.kindOf n==some .cell) then(n,NameKind.cell) else(n,k)).lookup x=some .cell \/
  (names.map λ(n,k)=>if (k==NameKind.free && env.scope.kind==.function && env.kindOf n==some .cell) then(n,NameKind.cell) else(n,k)).lookup x=some .free
 | (n,k0)::r,x,h=>by
   have I:=@vj env r x;show List.lookup x ((if (k0==NameKind.free && env.scope.kind==.function && env.kindOf n==some .cell)=true then(n,NameKind.cell) else(n,k0))::_)=_\/List.lookup x ((if (k0==NameKind.free && env.scope.kind==.function && env.kindOf n==some .cell)=true then(n,NameKind.cell) else(n,k0))::_)=_;cases hx:x==n with
   | true =>
     simp only[cz,hx] at h;cases h;by_cases D:(NameKind.free==NameKind.free && env.scope.kind==.function && env.kindOf n==some .cell)=true
     ·rw[if_pos D];simp only[cz,hx];exact .inl trivial
     ·rw[if_neg D];simp only[cz,hx];exact .inr trivial
   | false =>
     simp only[cz,hx] at h;by_cases D:(k0==NameKind.free && env.scope.kind==.function && env.kindOf n==some .cell)=true
     ·rw[if_pos D];simp only[cz,hx];exact I h
     ·rw[if_neg D];simp only[cz,hx];exact I h
def jq(X:Cx)(x:Str)(N':c3)(sc:Scope)(cl:List (Str×Addr))(C:Addr)(s₂:Shared)(H₂:Hp)(fp:fh):Cx :=
 { X with N:=x::N',s₀:=s₂,H₀:=H₂,env:=compEnvC sc cl C X.env,outer:=X.stack,stack:=X.stack,ex:=fp,fn:=λ_=>false,pn:=[],xe:=λ_ _=>False }
def PIfs(X:Cx)(ifs:gp)(tt:TT):Prop :=
 ∀(pins:gx) (s:Shared) (σ:St) (H:Hp) (Q:Bool->Hp->Prop),Inv X pins σ H s->tt σ H Q ->
  wpAny (model X.prog X.w) X.A (forIn ifs true λc r=>if r=true then do let ok <-isTrue c X.env (eval c X.env);pure (ForInStep.yield ok) else pure (ForInStep.yield r)) (TP X pins σ Q) X.xe s
def tYes:TT:=λ_ H Q=>Q true H
def zwf:PIfs X [] tYes:=λ_ _ _ H _ I h=>wpAny_tests_nil ⟨H,I,h⟩
def zwg{c:Expr}{D:TT}(h:PT X c D):PIfs X [c] D:=λpins s σ H Q I q=>wpAny_tests_one (h pins s σ H Q I q)
def ul(wi:TI)(ix:f0)(tt:TT)(te:TE):TE:=λσ H Q=>wi σ H λJ H1=>∃W:Nat->Nat->Hp->g0->Prop,(∃m,W 0 m H1 [])/\∀i m H ys,W i m H ys ->
 (J.stop i H/\ys.length<=sizeLine/\∀D,H D=none->Q (.ref D) (upd H D (.lst ys))) \/
 (J.go i H/\∀x H',J.yld i H x H'->tt (some x::ix.map (λj=>σ.getD j none)) H' λb H2 =>
   if b=true then te (some x::ix.map (λj=>σ.getD j none)) H2 λv U=>ys.length<sizeLine/\∃I,I<m/\W (i+1) I U (ys++[v]) else ∃I,I<m/\W (i+1) I H2 ys)
abbrev lobj(ys:fe):Obj:={ cls:=.type "list",data:=.seq ys.toArray ys.length }
variable{pins:gx}{σ:St}{s2:Shared}{fp:fh}{cl:List (Str×Addr)}{h₁:Heap}{m₁:Str->fg}{ix:f0}{N':c3}
def ztr{tk:Nat}(t:N'=ix.map λi=>X.N.getD i ("" : Str))(L:sc.kind=.function)(Z:∀y∈sc.names,y.2≠.cell)(a:∀y∈sc.names,y.2=.free->X.env.kindOf y.1=some .cell\/X.env.kindOf y.1=some .free)(A:∀y∈N',sc.names.lookup y=some .free)(h1:∀y c,cl.lookup y=some c->X.env.cells.lookup y=some c)(K:∀y∈sc.names,y.2=.free->∃c,cl.lookup y.1=some c)(I:Inv X pins σ H2 s2)(s:∀b∈fp,FpOk X pins H2 b)(B:∀b∈fp,∃o,s2.heap.get? b=some o)(Y:∀b o,s2.heap.get? b=some o->h₁.get? b=some o)(C:h₁.Ns (s2.heap.objs.size+1) m₁)(M:h₁.get? s2.heap.objs.size=some (lobj [])) :
  Inv (jq X x N' sc cl (s2.heap.objs.size+1) s2 H2 fp) [(s2.heap.objs.size,lobj [])] (none::ix.map (λj=>σ.getD j none)) H2 { s2 with heap:=h₁,toks:=tk }:=by
 have E:∀b∈fp,b<s2.heap.objs.size:=λb V=>by obtain⟨o,e⟩:=B b V;exact bw e
 have f:∀b,s2.heap.objs.size<=b->b∉frs X.stack:=λb V z=>by
  rcases b7.mp (I.stkSub b z) with e | z
  ·exact absurd (bq I.lt (e ▸ V)) (ft _)
  ·exact I.nofs V z
 refine⟨⟨I.ok.mod,L,I.ok.glob,I.ok.blt,l8 _,λy z c U D=>I.ok.inj y z c (h1 _ _ U) (h1 _ _ D),λy O=>?_,λy c z _=>(by cases z),I.ok.hd,I.ok.frames,.inl rfl,λb V=>⟨?_,λy c e=>?_⟩,I.bs,b8 I.ok.bsz I.sz,λb o e V=>?_,λb V z=>?_,I.stack,I.stkFree⟩,
  rfl,I.bare,Un.kept Y,⟨m₁,C,λi y v U D W=>?_⟩,λy c e=>?_,I.hok.fresh (l8 _),λy c e=>I.freeC y c (h1 y c e),λp F=>?_,I.hok.kept Y,?_⟩
 ·have G:(relabel sc X.env).names.lookup y=some .cell\/(relabel sc X.env).names.lookup y=some .free:=O
  have P:sc.names.lookup y=some .free:=by
   rcases G with q | q
   ·rcases zd q with q | ⟨q,_⟩
    ·exact absurd rfl (Z _ (dh q))
    ·exact q
   ·rcases zd q with q | ⟨_,q⟩
    ·exact q
    ·cases q
  exact K (y,.free) (dh P) rfl
 ·exact bv (fc (E b V))
 ·exact(s b V).2.2.2.2.1 y c (h1 y c e)
 ·rcases(s b V).2.2.2.1 with z | z
  ·exact I.ok.noex b o e z
  ·exact absurd (bq (bw e) (b8 I.ok.bsz z)) (ft _)
 ·have z:b∈frs X.stack:=z
  rcases b7.mp (I.stkSub b z) with e | z
  ·exact(s b V).2.1 e
  ·exact(s b V).2.2.1 z
 ·cases i with
  | zero=>simp at D
  | succ j =>
    have U:N'[j]?=some y:=by simpa[jq] using U
    have D:(ix.map (λj=>σ.getD j none))[j]?=some (some v):=by simpa using D
    rw[t,az] at U;rw[az] at D;cases q:ix[j]? with
    | none=>rw[q] at U;cases U
    | some k =>
      rw[q] at U D;have U:X.N.getD k "" = y:=bh U;have D:σ.getD k none=some v:=bh D;have g:σ[k]?=some (some v):=by
       rw[aq] at D;cases q2:σ[k]? with
       | none=>rw[q2] at D;cases D
       | some z=>rw[q2] at D;rw[show z=some v from D]
      have h:k<X.N.length:=by rw[<-I.len];exact(am.mp g).1
      have H:X.N[k]?=some y:=by
       rw[aq,ak h] at U;rw[ak h];exact congrArg some U
      have J:y∈N':=by
       rw[t,<-U];exact cx.mpr ⟨k,bc q,rfl⟩
      have d:=A y J;have l:=a (y,.free) (dh d) rfl;have n:Vis X.env.scope y:=by
       rcases l with z | z
       ·exact .inr (.inl z)
       ·exact .inr (.inr z)
      obtain⟨m,hn,Q⟩:=I.loc;obtain⟨u,R,S⟩:=Q k y v H g n;refine⟨u,R,.inr ⟨?_,?_⟩⟩
      ·exact vj d
      ·rcases S with⟨z,_⟩ | ⟨_,c,hc,hcv⟩
       ·rcases l with w | w <;> rw[show X.env.kindOf y=_ from w] at z <;> cases z
       ·obtain⟨T,r⟩:=K (y,.free) (dh d) rfl
        have:=h1 y T r;rw[hc] at this;cases this;exact⟨c,r,hcv.keeps Y⟩
 ·obtain⟨v,q⟩:=I.cell y c (h1 y c e)
  exact⟨v,q.keeps Y⟩
 ·have F:p∈[(s2.heap.objs.size,lobj [])]:=F
  rw[cj.mp F];exact⟨M,I.hok.fresh (bo _),bv (di _),f _ (bo _),λv z=>by cases z⟩
 ·simp[jq,t]
variable{ys:g0}{y:Str}
def Vals.snoc{y:V}{u:Value}(h:Vals ys vs)(r:RelV y u):Vals (ys++[y]) (vs++[u]):=Vals.append h (.cons r .nil)
def znv(vs:fe)(u:Value):({ cls:=.type "list",data:=.seq (vs.toArray.push u) (vs.length+1) }:Obj)=lobj (vs++[u]):=LCg.lst_snoc vs u
variable{σ':St}{s4:Shared}{h':Heap}
def zqi(I:Inv X pins σ H2 s2)(i:∀b∈fp,FpOk X pins H2 b)(j:∀b∈fp,∃o,s2.heap.get? b=some o)(J:Inv (jq X x N' sc cl (s2.heap.objs.size+1) s2 H2 fp) [(s2.heap.objs.size,lobj vs)] σ' H' s4)(k:Vals ys vs)(l:ys.length<=sizeLine)(a:Heap.SameBut (s2.heap.objs.size+1) s4.heap h') :
  Inv X pins σ (upd H' s2.heap.objs.size (.lst ys)) { s4 with heap:=h' }:=by
 have h:=J.pin (s2.heap.objs.size,lobj vs) (bn _ bj);have Y:H' s2.heap.objs.size=none:=h.2.1;have Z:H' (s2.heap.objs.size+1)=none:=J.free;have U:Un (frs X.stack) fp H2 H' s2.heap s4.heap:=J.base;have d:∀b o,s2.heap.get? b=some o->b≠s2.heap.objs.size/\b≠s2.heap.objs.size+1:=λb o e=>by
  have:=bw e;exact⟨bv this,bv (fc this)⟩
 have m:∀b,s2.heap.objs.size<=b->H2 b=none:=λb D=>I.hok.fresh D;have f:∀b o,H2 b=some o->b≠s2.heap.objs.size:=λb o e z=>by rw[z,m _ (bo _)] at e;cases e
 have p:Un (frs X.stack) fp H2 (upd H' s2.heap.objs.size (.lst ys)) s2.heap h':=by
  refine⟨λb o e n D V=>(a.2 b (d b o e).2).trans (U.keep b o e n D V),λb o e n D V=>?_,λb o e n V=>?_,λb o e V=>?_,λb xs e=>?_,λb o u e=>?_,λb ps e=>?_⟩
  ·obtain⟨sl,q⟩:=U.slot b o e n D V
   exact⟨sl,(a.2 b (d b o e).2).trans q⟩
  ·rw[gi (d b o e).1];exact U.free b o e n V
  ·obtain⟨o',q⟩:=U.there b o e V
   exact⟨o',(a.2 b (d b o e).2).trans q⟩
  ·rw[gi (f b _ e)];exact U.tups b xs e
  ·rw[gi (f b _ e)];exact U.frzs b o u e
  ·rw[gi (f b _ e)];exact U.tbls b ps e
 have kk:∀b u,b≠s2.heap.objs.size+1->s4.heap.get? b=some u->h'.get? b=some u:=λb u D q=>(a.2 b D).trans q;have g:HOk X.prog X.w (upd H' s2.heap.objs.size (.lst ys)) h':=λb u e=>by
  by_cases D:b=s2.heap.objs.size
  ·subst D
   rw[li] at e;cases e;exact⟨l,vs,vs.length,k,kk _ _ (bv (di _)) h.1⟩
  ·rw[gi D] at e
   have r:b≠s2.heap.objs.size+1:=λz=>by rw[z,Z] at e;cases e
   refine(J.hok b u e).stay (λc v hc q=>kk c v ?_ q) (λc q=>?_) λc xs q=>?_
   ·rcases hc with rfl | hc
    ·exact r
    ·intro z;rw[z,Z] at hc;cases hc
   ·rw[gi (λz=>by rw[z,Y] at q;cases q)];exact q
   ·rw[gi (λz=>by rw[z,Y] at q;cases q)];exact q
 refine I.call' (s':={ s4 with heap:=h' }) (ch:=fp) J.os p g J.bare λb D=>?_;obtain⟨_,s,_,t,y,A⟩:=i b D;exact⟨t,s,y,A⟩
variable{it:Addr}{tn:Nat->Heap->Prop}{J:It}{Q:VK}{R:Result->Shared->Prop}{m0:Nat}{W:Nat->Nat->Hp->g0->Prop}{Cm:Cx->Prop}{px pos:Pos}{iter elt:Expr}{ifs:gp}{tt:TT}{te:TE}
theorem znw(hc:∀cl C s₂ H₂ fp pins σ,Inv X pins σ H₂ s₂->(∀b∈fp,FpOk X pins H₂ b)->Cm (jq X x N' sc cl C s₂ H₂ fp))(a2:∀cl C s₂ H₂ fp,Cm (jq X x N' sc cl C s₂ H₂ fp)->PIfs (jq X x N' sc cl C s₂ H₂ fp) ifs tt)(a3:∀cl C s₂ H₂ fp,Cm (jq X x N' sc cl C s₂ H₂ fp)->PE (jq X x N' sc cl C s₂ H₂ fp) elt te)(hN:N'=ix.map λi=>X.N.getD i ("" : Str))(a4:(x::N').Nodup)(hk:sc.kind=.function)(hx:sc.names.lookup x=some .local)(F:∀y∈sc.names,y.2≠.cell)(a1:∀y∈sc.names,y.2=.local->sc.names.lookup y.1=some .local)(G:∀y∈sc.names,y.2=.free->X.env.kindOf y.1=some .cell\/X.env.kindOf y.1=some .free)(a5:∀y∈N',sc.names.lookup y=some .free)(h1:∀y c,cl.lookup y=some c->X.env.cells.lookup y=some c)(h3:∀y∈sc.names,y.2=.free->∃c,cl.lookup y.1=some c)(f:Inv X pins σ H2 s2)(T:vx Cm X.prog X.w X.K (.Name x px) J fp it tn)(P:tn 0 s2.heap)(s:∀b∈fp,FpOk X pins H2 b)(w0:W 0 m0 H2 [])(turn:∀i m H ys,W i m H ys ->
   (J.stop i H/\ys.length<=sizeLine/\∀D,H D=none->Q (.ref D) (upd H D (.lst ys))) \/
   (J.go i H/\∀x H',J.yld i H x H'->tt (some x::ix.map (λj=>σ.getD j none)) H' λb H2 =>
     if b=true then te (some x::ix.map (λj=>σ.getD j none)) H2 λv H3=>ys.length<sizeLine/\∃g,g<m/\W (i+1) g H3 (ys++[v]) else ∃g,g<m/\W (i+1) g H2 ys))(S:∀b o,s2.heap.get? b=some o->h₁.get? b=some o)(h:h₁.Ns (s2.heap.objs.size+1) m₁)(aa:h₁.get? s2.heap.objs.size=some (lobj []))(hR:∀O t ys vs σ',Inv (jq X x N' sc cl (s2.heap.objs.size+1) s2 H2 fp) [(s2.heap.objs.size,lobj vs)] σ' t O->Vals ys vs->ys.length<=sizeLine->(∀D,t D=none->Q (.ref D) (upd t D (.lst ys)))->R (.ok .next) O) :
  codeAny (model X.prog X.w) X.A (.compStart (.ListComp elt [⟨.Name x px,iter,ifs,0⟩] sc pos) 0 (.ref it) (.ref s2.heap.objs.size) (compEnvC sc cl (s2.heap.objs.size+1) X.env)) R { s2 with heap:=h₁,toks:=s2.toks+([]:List (Str×Value)).length }:=by
 have ab:∀b∈fp,∃o,s2.heap.get? b=some o:=λb I=>by obtain⟨o,e,_⟩:=T.obj _ _ P b I;exact⟨o,e⟩
 have L:∀b∈fp,b<s2.heap.objs.size:=λb I=>by obtain⟨o,e⟩:=ab b I;exact bw e
 have I3:=ztr (x:=x) (tk:=s2.toks+([]:List (Str×Value)).length) hN hk F G a5 h1 h3 f s ab S h aa;have ag:tn 0 h₁:=T.keep _ _ _ P λb I o e=>S b o e;generalize V:jq X x N' sc cl (s2.heap.objs.size+1) s2 H2 fp=X' at I3;have eP:X'.prog=X.prog:=by rw[<-V];rfl
 have eW:X'.w=X.w:=by rw[<-V];rfl
 have eK:X'.K=X.K:=by rw[<-V];rfl
 have eA:X'.A=X.A:=by rw[<-V];rfl
 have B:X'.env=compEnvC sc cl (s2.heap.objs.size+1) X.env:=by rw[<-V];rfl
 have eC:Cm X':=by rw[<-V];exact hc _ _ _ _ _ _ _ f s
 have ai:X'.pn=[]:=by rw[<-V];rfl
 have al:X'.xe=λ_ _=>False:=by rw[<-V];rfl
 have an:X'.fs=frs X.stack:=by rw[<-V];rfl
 have a6:X'.ex=fp:=by rw[<-V];rfl
 have eN:X'.N=x::N':=by rw[<-V];rfl
 have eS:X'.s₀=s2:=by rw[<-V];rfl
 have a7:∀b∈fp,b∉frs X.stack:=λb I z=>by
  rcases b7.mp (f.stkSub b z) with e | z
  ·exact(s b I).2.1 e
  ·exact(s b I).2.2.1 z
 have ap:s2.heap.objs.size∉frs X.stack:=λz=>by
  rcases b7.mp (f.stkSub _ z) with e | z
  ·exact absurd (e ▸ f.lt) (ft _)
  ·exact f.nofs (bo _) z
 have Z:∀ {H':Hp} {vs:fe},(∀b∈fp,H' b=none)->∀b∈fp,FpOk X' [(s2.heap.objs.size,lobj vs)] H' b:=λ{H' vs} hn b I=>by
  refine⟨hn b I,?_,?_,.inl (by rw[a6];exact I),λy c e=>?_,λp k=>?_⟩
  ·rw[B];exact bv (fc (L b I))
  ·rw[an];exact a7 b I
  ·rw[B] at e;exact(s b I).2.2.2.2.1 y c (h1 y c e)
  ·rw[ai] at k
   rw[cj.mp (show p∈[(s2.heap.objs.size,lobj vs)] from k)];exact i6 (L b I)
 have loop:∀U:Shared,U={ s2 with heap:=h₁,toks:=s2.toks+([]:List (Str×Value)).length } ->
   codeAny (model X.prog X.w) X.A (.compLoop (.ListComp elt [⟨.Name x px,iter,ifs,0⟩] sc pos) 0 (.ref it) (.ref s2.heap.objs.size) (compEnvC sc cl (s2.heap.objs.size+1) X.env))
    (R) U:=by
  rintro U rfl;refine codeAny_compLoop_tests (λn s'=>∃i Y H' ys vs,Inv X' [(s2.heap.objs.size,lobj vs)] (Y::ix.map (λj=>σ.getD j none)) H' s'/\Vals ys vs/\tn i s'.heap/\(∀b∈fp,H' b=none)/\W i n H' ys) ?_ m0
   ⟨0,none,H2,[],[],I3,.nil,ag,λb I=>(s b I).1,w0⟩
  rintro n s4 ⟨i,Y,t,ys,vs,I4,hv4,st4,fr4,w4⟩;rcases turn i n t ys w4 with⟨ar,hl,qn⟩ | ⟨go,step⟩
  ·have D:=T.done X' eP eW eK eC i _ s4 _ t (notedBy (model X.prog X.w) X.A (compEnvC sc cl (s2.heap.objs.size+1) X.env) λe s'=>R (.error e) s') I4 (Z fr4) st4 ar
   rw[eA] at D;refine thn D λr O l=>?_;obtain⟨hr,I5⟩:=l;subst hr;exact hR O t ys vs _ (V ▸ I5) hv4 hl qn
  ·have D:=T.item X' eP eW eK eC i _ s4 _ t (notedBy (model X.prog X.w) X.A (compEnvC sc cl (s2.heap.objs.size+1) X.env) λe s'=>R (.error e) s') I4 (Z fr4) st4 go
   rw[eA] at D;refine thn D λr O l=>?_;obtain⟨u,hr,h5⟩:=l;subst hr;have a8:wpAny (model X.prog X.w) X.A (letOwnedTupleGo (.Name x px) (.ref it) u >>= λ_=>assign (.Name x px) (compEnvC sc cl (s2.heap.objs.size+1) X.env) u) (λ_ s₂ =>
     wpAny (model X.prog X.w) X.A (forIn ifs true λc r=>if r=true then do let ok <-isTrue c (compEnvC sc cl (s2.heap.objs.size+1) X.env) (eval c (compEnvC sc cl (s2.heap.objs.size+1) X.env));pure (ForInStep.yield ok) else pure (ForInStep.yield r)) (λok U =>
      if ok=true then wpAny (model X.prog X.w) X.A (eval elt (compEnvC sc cl (s2.heap.objs.size+1) X.env)) (λx a0 =>
       wpAny (model X.prog X.w) X.A (call (.builtin "list.append") [.ref s2.heap.objs.size,x]) (λ_ E=>∃m,m<n/\∃i Y H' ys vs,Inv X' [(s2.heap.objs.size,lobj vs)] (Y::ix.map (λj=>σ.getD j none)) H' E/\Vals ys vs/\tn i E.heap/\(∀b∈fp,H' b=none)/\W i m H' ys)
        (notedBy (model X.prog X.w) X.A (compEnvC sc cl (s2.heap.objs.size+1) X.env) λe s'=>R (.error e) s') a0)
       (notedBy (model X.prog X.w) X.A (compEnvC sc cl (s2.heap.objs.size+1) X.env) λe s'=>R (.error e) s') U
      else ∃m,m<n/\∃i Y H' ys vs,Inv X' [(s2.heap.objs.size,lobj vs)] (Y::ix.map (λj=>σ.getD j none)) H' U/\Vals ys vs/\tn i U.heap/\(∀b∈fp,H' b=none)/\W i m H' ys)
      (notedBy (model X.prog X.w) X.A (compEnvC sc cl (s2.heap.objs.size+1) X.env) λe s'=>R (.error e) s') s₂)
     (notedBy (model X.prog X.w) X.A (compEnvC sc cl (s2.heap.objs.size+1) X.env) λe s'=>R (.error e) s') O:=by
    refine wpAny_bind (thn h5 λ_ s6 l=>?_);obtain⟨z,H6,I6,r6,y6,M,a9⟩:=l;have ba:=I6.pinned (Z a9) (T.obj _ _ M);have q6:=step z H6 y6;refine wpAny_assign_Name (?_:wpAny _ _ (storeName (compEnvC sc cl (s2.heap.objs.size+1) X.env) x u) _ _ s6);rw[<-B];refine zju (i:=0) ba (by rw[eN];exact a4) (by rw[eN];rfl) (.inl (by rw[B];exact lookup_relabel_local hx)) r6 (λs7 I7=>?_) (.inr (by rw[B];exact lookup_relabel_local hx));have t7:=(V ▸ a2 cl (s2.heap.objs.size+1) s2 H2 fp (hc _ _ _ _ _ _ _ f s):PIfs X' ifs tt) _ s7 _ H6 _ I7 q6;rw[eP,eW,eA] at t7;refine wpAny_mono t7 (λb s8 l=>?_) (λe s' z=>by rw[al] at z;exact z.elim);obtain⟨H8,I8,q8⟩:=l;have a:∀ {s':Shared} {H':Hp} {σ':St},Inv X' ([(s2.heap.objs.size,lobj vs)]++we fp s6.heap) σ' H' s'->tn (i+1) s'.heap/\∀b∈fp,H' b=none:=λ{s' H' σ'} J'=>by
     refine⟨T.keep _ _ _ M λb I o e=>(J'.pin (b,o) (bn _ (bn _ (xk I e)))).1,λb I=>?_⟩;obtain⟨o,e,d⟩:=T.obj _ _ M b I;exact(J'.pin (b,o) (bn _ (bn _ (xk I e)))).2.1
    cases b with
    | false =>
      rw[if_neg ce] at q8 ⊢;obtain⟨g,hm,w8⟩:=q8;obtain⟨k1,k2⟩:=a I8;exact⟨g,hm,i+1,some z,H8,ys,vs,I8.unpinned,hv4,k1,k2,w8⟩
    | true =>
      rw[if_pos rfl] at q8 ⊢;have t8:=(V ▸ a3 cl (s2.heap.objs.size+1) s2 H2 fp (hc _ _ _ _ _ _ _ f s):PE X' elt te) _ s8 _ H8 _ I8 q8;rw[eP,eW,eA] at t8;refine wpAny_mono t8 (λv s9 l=>?_) (λe s' z=>by rw[al] at z;exact z.elim);obtain⟨y,H9,I9,r9,bk,g,hm,w9⟩:=l;have pD:=I9.pin (s2.heap.objs.size,lobj vs) (bn _ (e7 _ bj));obtain⟨k1,k2⟩:=a I9;have bl:=hv4.length;refine append_at (D:=s2.heap.objs.size) (its:=vs.toArray) (n:=vs.length) pD.1 (λh' sb hD=>?_) (by rw[b6];lia);have bb:Inv X' [] (some z::ix.map (λj=>σ.getD j none)) H9 s9:=I9.pins_of λp k=>nomatch k;have cne:∀y c,X'.env.cells.lookup y=some c->c≠s2.heap.objs.size:=λy c e=>by
       rw[B] at e;obtain⟨v',q⟩:=f.cell y c (h1 y c e);exact bv q.lt
      have bd:Inv X' [] (some z::ix.map (λj=>σ.getD j none)) H9 { s9 with heap:=h' }:=bb.turned (t':=s9.toks) (it:=s2.heap.objs.size) (λb o I e=>(sb.2 b I).trans e) pD.2.1 (by rw[B];exact bv (di _)) (.inr (by rw[eS];exact bo _)) cne (λp k=>by rw[ai] at k;exact nomatch k);have be:Inv X' [(s2.heap.objs.size,lobj (vs++[v]))] (some z::ix.map (λj=>σ.getD j none)) H9 { s9 with heap:=h' }:=bd.pins_of λp k=>by
       rw[cj.mp k];exact⟨hD.trans (congrArg some (znv vs v)),pD.2.1,by rw[B];exact bv (di _),by rw[an];exact ap,λv' z'=>by cases z'⟩
      exact⟨g,hm,i+1,some z,H9,ys++[y],vs++[v],be,hv4.snoc r9,T.keep _ _ _ k1 (λb I o e=>(sb.2 b (bv (L b I))).trans e),k2,w9⟩
   exact a8
 exact codeAny_compStart_list (loop _ rfl) (T.self X.A 0 _ _ _ ag (loop _ rfl))
variable{h:Heap}
def Heap.SameBut.rf(e:∃o,h.get? a=some o):Heap.SameBut a h h:=by
 first | exact⟨rfl,λ_ _=>rfl⟩ | exact⟨e,λ_ _=>rfl⟩
structure zts (X:Cx) (x:Str) (N':c3) (ix:f0) (sc:Scope):Prop where
 nm:N'=ix.map λi=>X.N.getD i ("" : Str)
 nd:(x::N').Nodup
 kind:sc.kind=.function
 hx:sc.names.lookup x=some .local
 cell:∀y∈sc.names,y.2≠.cell
 names:∀y∈sc.names,y.2=.local->sc.names.lookup y.1=some .local
 free:∀y∈sc.names,y.2=.free->X.env.kindOf y.1=some .cell\/X.env.kindOf y.1=some .free
 fv:∀y∈N',sc.names.lookup y=some .free
variable{wi:TI}
def zpf(c:zts X x N' ix sc)(r:∀cl C s₂ H₂ fp pins σ,Inv X pins σ H₂ s₂->(∀b∈fp,FpOk X pins H₂ b)->Cm (jq X x N' sc cl C s₂ H₂ fp))(hi:PIC Cm X (.Name x px) iter wi)(a:∀cl C s₂ H₂ fp,Cm (jq X x N' sc cl C s₂ H₂ fp)->PIfs (jq X x N' sc cl C s₂ H₂ fp) ifs tt)(d:∀cl C s₂ H₂ fp,Cm (jq X x N' sc cl C s₂ H₂ fp)->PE (jq X x N' sc cl C s₂ H₂ fp) elt te)(t:∀v,foldedSetIterable iter X.env v=pure v:=by intro _;rfl) :
  PE X (.ListComp elt [⟨.Name x px,iter,ifs,0⟩] sc pos) (ul wi ix tt te):=by
 intro pins s σ H Q I h;obtain⟨cl,f,h1,u⟩:=ziw (sc:=sc) (env:=X.env) (λy g w=>I.ok.has y.1 (c.free y g w));rw[eval_ListComp];refine wpAny_comprehension_free (use:=none) rfl t f c.kind c.names (thn (hi pins s σ H _ I h) λv M z=>thn z λA s2 h2=>?_);obtain⟨it,fp,tn,J,H2,rfl,p,T,V,q,W,⟨m0,B⟩,turn⟩:=h2;refine wpAny_newObj_type (wpAny_newFunctionEnv c.cell (by intro y g;simp at g) (λh₁ U D=>?_) c.kind);dsimp only at U D ⊢;have Y:(s2.heap.push { cls:=.type "list",dict:=none,data:=.seq ([]:fe).toArray }).objs.size=s2.heap.objs.size+1:=jv ..;rw[Y] at U D ⊢;have i:∀b o,s2.heap.get? b=some o->h₁.get? b=some o:=λb o e=>D.extBut b o (bv (fc (bw e))) (av _ (av _ e));have Z:h₁.get? s2.heap.objs.size=some (lobj []):=D.extBut _ _ (bv (di _)) (av _ (c8 _ rfl));have j:∀b∈fp,∃o,s2.heap.get? b=some o:=λb E=>by obtain⟨o,e,_⟩:=T.obj _ _ V b E;exact⟨o,e⟩
 refine znw r a d c.nm c.nd c.kind c.hx c.cell c.names c.free c.fv h1 u p T V q B turn i U Z λN O ys vs σ' k l F G=>?_;obtain⟨K,m,_⟩:=k.loc;refine⟨K,m,λh' L=>?_⟩;have n:=(k.pin (s2.heap.objs.size,lobj vs) (bn _ bj)).2.1;exact⟨.ref s2.heap.objs.size,_,zqi p q j k l F L,rfl,G _ n⟩
variable{i:Nat}
def zpg{d spos:Pos}(c:zts X x N' ix sc)(hc:∀cl C s₂ H₂ fp pins σ,Inv X pins σ H₂ s₂->(∀b∈fp,FpOk X pins H₂ b)->Cm (jq X x N' sc cl C s₂ H₂ fp))(q:X.N.Nodup)(r:X.N[i]?=some y)(t:Loc X.env.scope y)(hi:PIC Cm X (.Name x px) iter wi)(u:∀cl C s₂ H₂ fp,Cm (jq X x N' sc cl C s₂ H₂ fp)->PIfs (jq X x N' sc cl C s₂ H₂ fp) ifs tt)(w:∀cl C s₂ H₂ fp,Cm (jq X x N' sc cl C s₂ H₂ fp)->PE (jq X x N' sc cl C s₂ H₂ fp) elt te)(B:swapsWith (.ListComp elt [⟨.Name x px,iter,ifs,0⟩] sc pos) (some (.Name y d)) spos.line X.env=pure true)(E:X.fn y=true\/X.env.scope.names.lookup y=some .local:=by first | exact .inl rfl | exact .inr rfl | assumption)(hs:∀v,foldedSetIterable iter X.env v=pure v:=by intro _;rfl) :
  PS X (.Assign [.Name y d] (.ListComp elt [⟨.Name x px,iter,ifs,0⟩] sc pos) spos) (tAsg (ul wi ix tt te) (ng i)):=by
 intro pins s σ H Dn I h;have h:ul wi ix tt te σ H λv H1=>Dn.nx (σ.set i (some v)) H1:=h;obtain⟨cl,F,h1,h3⟩:=ziw (sc:=sc) (env:=X.env) (λy G E=>I.ok.has y.1 (c.free y G E));rw[exec_Assign_Name_used _ _ _ _ B];refine wpAny_bind (wpAny_standAt (wpAny_bind ?_));show wpAny _ X.A (do let _ <-comprehension (.ListComp elt [⟨.Name x px,iter,ifs,0⟩] sc pos) sc X.env _ (newList []) false (eval iter X.env) (some (assign (.Name y d) X.env))) _ _ s;refine wpAny_bind (wpAny_mono (wpAny_comprehension_free (use:=some (assign (.Name y d) X.env)) (Q:=λ_ s'=>SP X pins Dn .next s') rfl hs F c.kind c.names
  (thn (hi pins s σ H _ I h) λv s1 g1=>thn g1 λaa s2 h2=>?_)) (λ_ s' hq=>wpAny_pure (wpAny_pure hq)) λ_ _ e=>e)
 obtain⟨it,fp,tn,J,H2,rfl,Z,T,f,f2,W,⟨m0,w0⟩,turn⟩:=h2;refine wpAny_newObj_type (wpAny_newFunctionEnv c.cell (by intro y G;simp at G) (λh₁ U D=>?_) c.kind);dsimp only at U D ⊢;have g:(s2.heap.push { cls:=.type "list",dict:=none,data:=.seq ([]:fe).toArray }).objs.size=s2.heap.objs.size+1:=jv ..;rw[g] at U D ⊢;have K:∀b o,s2.heap.get? b=some o->h₁.get? b=some o:=λb o e=>D.extBut b o (bv (fc (bw e))) (av _ (av _ e));have j:h₁.get? s2.heap.objs.size=some (lobj []):=D.extBut _ _ (bv (di _)) (av _ (c8 _ rfl));have L:∀b∈fp,∃o,s2.heap.get? b=some o:=λb M=>by obtain⟨o,e,_⟩:=T.obj _ _ f b M;exact⟨o,e⟩
 refine znw (Q:=λv H1=>Dn.nx (σ.set i (some v)) H1) hc u w c.nm c.nd c.kind c.hx c.cell c.names c.free c.fv h1 h3 Z T f f2 w0 turn K U j λk H4 ys vs σ' l O hl qn=>?_;obtain⟨m5,V,_⟩:=l.loc;have V:k.heap.Ns (s2.heap.objs.size+1) m5:=V;have P:=(l.pin (s2.heap.objs.size,lobj vs) (bn _ bj)).2.1;have oC:∃o,k.heap.get? (s2.heap.objs.size+1)=some o:=let ⟨o,_,_,e,_⟩:=V;⟨o,e⟩;have I6:Inv X pins σ (upd H4 s2.heap.objs.size (.lst ys)) { k with heap:=k.heap }:=zqi Z f2 L l O hl (Heap.SameBut.rf oC);show wpAny _ X.A (assign (.Name y d) X.env (.ref s2.heap.objs.size)) _ _ k;have HC:upd H4 s2.heap.objs.size (.lst ys) (s2.heap.objs.size+1)=none:=by rw[gi (i6 (di _))];exact l.free
 have Y:∀a o,s2.heap.get? a=some o->s2.heap.objs.size+1≠a:=λa o e=>i6 (fc (bw e));have oL:∃o,s2.heap.get? X.env.locals=some o:=let ⟨m,hn,_⟩:=Z.loc;let ⟨o,_,_,e,_⟩:=hn;⟨o,e⟩;have cL:s2.heap.objs.size+1≠X.env.locals:=let ⟨o,e⟩:=oL;Y _ o e;have cC:∀z n,X.env.cells.lookup z=some n->n≠s2.heap.objs.size+1:=λz n e=>by
  obtain⟨v',o,e',_⟩:=Z.cell z n e;exact Ne.symm (Y _ o e')
 refine wpAny_assign_Name (znl (v:=.ref s2.heap.objs.size) I6 q r t rfl (λs7 I7 zq=>?_) E);obtain⟨a,sb,ha⟩:=zq;have R:s2.heap.objs.size+1≠a:=by
  rcases ha with rfl | ha
  ·exact cL
  ·exact Ne.symm (cC _ _ ha)
 refine⟨m5,V.sameBut sb R,λh' S=>?_⟩;refine⟨_,_,I7.turned (t':=s7.toks) (it:=s2.heap.objs.size+1) (λb o M e=>(S.2 b M).trans e) HC cL (.inr ?_) cC (λp hp=>?_),qn _ P⟩
 ·exact nz Z.sz
 ·exact Ne.symm (Y _ _ (Z.pin p hp).1)
variable{s:Sl}
def zph{prog:Program}{s:Shared}{D:Expr}{scope:Scope}{it d:Value}(I:Nat->Shared->Prop)(turn:∀n s,I n s->wpAny (model prog w) A (pyNext it) (λr U=>match r with
   | none=>R (.ok .next) U
   | some v => wpAny (model prog w) A (letOwnedTupleGo D it v) (λ_ V => wpAny (model prog w) A (assign D env v) (λ_ s₂ => wpAny (model prog w) A (forIn ifs true λc r => if r = true then do let ok <-isTrue c env (eval c env);pure (ForInStep.yield ok) else pure (ForInStep.yield r)) (λok Y =>
       if ok=true then wpAny (model prog w) A (eval elt env) (λx Z=>wpAny (model prog w) A (call (.builtin "list.append") [d,x]) (λ_ a=>∃m,m<n/\I m a) (notedBy (model prog w) A env λe s'=>R (.error e) s') Z) (notedBy (model prog w) A env λe s'=>R (.error e) s') Y
       else ∃m,m<n/\I m Y) (notedBy (model prog w) A env λe s'=>R (.error e) s') s₂) (notedBy (model prog w) A env λe s'=>R (.error e) s') V) (notedBy (model prog w) A env λe s'=>R (.error e) s') U) (notedBy (model prog w) A env λe s'=>R (.error e) s') s)(n:Nat)(h:I n s):codeAny (model prog w) A (.compLoop (.ListComp elt [⟨D,iter,ifs,0⟩] scope pos) 0 it d env) R s:=by
 refine codeAny_loop rfl I (λn s k=>?_) n h;refine(show wpAny _ A ((compTurn (.ListComp elt [⟨D,iter,ifs,0⟩] scope pos) 0 it d env).onRaise (λx=>do noteFrame x env;theTreesLotGoes x)) _ _ s from wpAny_noted ?_);rw[compTurn_list];refine wpAny_bind (wpAny_standAt (wpAny_bind (thn (turn n s k) λr U h₁=>?_)));cases r with
 | none=>exact wpAny_pure h₁
 | some v =>
   refine wpAny_bind (thn h₁ λ_ V f=>wpAny_bind (thn f λ_ s₂ g=>wpAny_bind (thn g λok Y b=>?_)));cases ok with
   | false=>exact wpAny_pure ⟨rfl,b⟩
   | true=>exact wpAny_bind (wpAny_bind (thn b λx Z i=>wpAny_bind (thn i λ_ a j=>wpAny_pure (wpAny_pure ⟨rfl,j⟩))))
def ly(X:Cx)(xs N':c3)(sc:Scope)(cl:List (Str×Addr))(C:Addr)(s₂:Shared)(H₂:Hp)(fp:fh):Cx :=
 { X with N:=xs++N',s₀:=s₂,H₀:=H₂,env:=compEnvC sc cl C X.env,outer:=X.stack,stack:=X.stack,ex:=fp,fn:=λ_=>false,pn:=[],xe:=λ_ _=>False }
def zyn(a:Nat)(wi:TI)(g:TG)(ix:f0)(tt:TT)(te:TE):TE:=λσ H Q=>wi σ H λJ H1=>∃W:Nat->Nat->Hp->g0->Prop,(∃m,W 0 m H1 [])/\∀i m H ys,W i m H ys ->
 (J.stop i H/\ys.length<=sizeLine/\∀D,H D=none->Q (.ref D) (upd H D (.lst ys))) \/
 (J.go i H/\∀x H',J.yld i H x H'->∀U:St,U.length=a->g x (U++ix.map (λj=>σ.getD j none)) H' λI H1=>∃Y:St,Y.length=a/\I=Y++ix.map (λj=>σ.getD j none)/\tt I H1 λb H2 =>
   if b=true then te I H2 λv c=>ys.length<sizeLine/\∃Z,Z<m/\W (i+1) Z c (ys++[v]) else ∃Z,Z<m/\W (i+1) Z H2 ys)
variable{xs:c3}
theorem zr6{tk:Nat}(x:N'=ix.map λi=>X.N.getD i ("" : Str))(L:sc.kind=.function)(Z:∀y∈sc.names,y.2≠.cell)(a:∀y∈sc.names,y.2=.free->X.env.kindOf y.1=some .cell\/X.env.kindOf y.1=some .free)(A:∀y∈N',sc.names.lookup y=some .free)(h1:∀y c,cl.lookup y=some c->X.env.cells.lookup y=some c)(K:∀y∈sc.names,y.2=.free->∃c,cl.lookup y.1=some c)(I:Inv X pins σ H2 s2)(t:∀b∈fp,FpOk X pins H2 b)(B:∀b∈fp,∃o,s2.heap.get? b=some o)(Y:∀b o,s2.heap.get? b=some o->h₁.get? b=some o)(C:h₁.Ns (s2.heap.objs.size+1) m₁)(M:h₁.get? s2.heap.objs.size=some (lobj [])) :
  Inv (ly X xs N' sc cl (s2.heap.objs.size+1) s2 H2 fp) [(s2.heap.objs.size,lobj [])] (xs.map (λ_=>none)++ix.map (λj=>σ.getD j none)) H2 { s2 with heap:=h₁,toks:=tk }:=by
 have E:∀b∈fp,b<s2.heap.objs.size:=λb V=>by obtain⟨o,e⟩:=B b V;exact bw e
 have f:∀b,s2.heap.objs.size<=b->b∉frs X.stack:=λb V z=>by
  rcases b7.mp (I.stkSub b z) with e | z
  ·exact absurd (bq I.lt (e ▸ V)) (ft _)
  ·exact I.nofs V z
 refine⟨⟨I.ok.mod,L,I.ok.glob,I.ok.blt,l8 _,λy z c U D=>I.ok.inj y z c (h1 _ _ U) (h1 _ _ D),λy O=>?_,λy c z _=>(by cases z),I.ok.hd,I.ok.frames,.inl rfl,λb V=>⟨?_,λy c e=>?_⟩,I.bs,b8 I.ok.bsz I.sz,λb o e V=>?_,λb V z=>?_,I.stack,I.stkFree⟩,
  rfl,I.bare,Un.kept Y,⟨m₁,C,λi y v U D W=>?_⟩,λy c e=>?_,I.hok.fresh (l8 _),λy c e=>I.freeC y c (h1 y c e),λp F=>?_,I.hok.kept Y,?_⟩
 ·have G:(relabel sc X.env).names.lookup y=some .cell\/(relabel sc X.env).names.lookup y=some .free:=O
  have P:sc.names.lookup y=some .free:=by
   rcases G with q | q
   ·rcases zd q with q | ⟨q,_⟩
    ·exact absurd rfl (Z _ (dh q))
    ·exact q
   ·rcases zd q with q | ⟨_,q⟩
    ·exact q
    ·cases q
  exact K (y,.free) (dh P) rfl
 ·exact bv (fc (E b V))
 ·exact(t b V).2.2.2.2.1 y c (h1 y c e)
 ·rcases(t b V).2.2.2.1 with z | z
  ·exact I.ok.noex b o e z
  ·exact absurd (bq (bw e) (b8 I.ok.bsz z)) (ft _)
 ·have z:b∈frs X.stack:=z
  rcases b7.mp (I.stkSub b z) with e | z
  ·exact(t b V).2.1 e
  ·exact(t b V).2.2.1 z
 ·by_cases g:i<xs.length
  ·rw[bf (by simpa using g),az] at D
   cases hq0:xs[i]? with
   | none=>rw[hq0] at D;cases D
   | some z0=>rw[hq0] at D;cases D
  ·have U:(xs++N')[i]?=some y:=U
   rw[ci (by lia)] at U;rw[ci (by rw[ae];lia),ae] at D;generalize i-xs.length=j at U D;rw[x,az] at U;rw[az] at D;cases q:ix[j]? with
   | none=>rw[q] at U;cases U
   | some k =>
     rw[q] at U D;have U:X.N.getD k "" = y:=bh U;have D:σ.getD k none=some v:=bh D;have h:σ[k]?=some (some v):=by
      rw[aq] at D;cases q2:σ[k]? with
      | none=>rw[q2] at D;cases D
      | some z=>rw[q2] at D;rw[show z=some v from D]
     have l:k<X.N.length:=by rw[<-I.len];exact(am.mp h).1
     have H:X.N[k]?=some y:=by
      rw[aq,ak l] at U;rw[ak l];exact congrArg some U
     have J:y∈N':=by
      rw[x,<-U];exact cx.mpr ⟨k,bc q,rfl⟩
     have d:=A y J;have n:=a (y,.free) (dh d) rfl;have r:Vis X.env.scope y:=by
      rcases n with z | z
      ·exact .inr (.inl z)
      ·exact .inr (.inr z)
     obtain⟨m,hn,Q⟩:=I.loc;obtain⟨u,R,S⟩:=Q k y v H h r;refine⟨u,R,.inr ⟨?_,?_⟩⟩
     ·exact vj d
     ·rcases S with⟨z,_⟩ | ⟨_,c,hc,hcv⟩
      ·rcases n with w | w <;> rw[show X.env.kindOf y=_ from w] at z <;> cases z
      ·obtain⟨T,s⟩:=K (y,.free) (dh d) rfl
       have:=h1 y T s;rw[hc] at this;cases this;exact⟨c,s,hcv.keeps Y⟩
 ·obtain⟨v,q⟩:=I.cell y c (h1 y c e)
  exact⟨v,q.keeps Y⟩
 ·have F:p∈[(s2.heap.objs.size,lobj [])]:=F
  rw[cj.mp F];exact⟨M,I.hok.fresh (bo _),bv (di _),f _ (bo _),λv z=>by cases z⟩
 ·simp[ly,x]
def ztt(I:Inv X pins σ H2 s2)(i:∀b∈fp,FpOk X pins H2 b)(j:∀b∈fp,∃o,s2.heap.get? b=some o)(J:Inv (ly X xs N' sc cl (s2.heap.objs.size+1) s2 H2 fp) [(s2.heap.objs.size,lobj vs)] σ' H' s4)(k:Vals ys vs)(l:ys.length<=sizeLine)(a:Heap.SameBut (s2.heap.objs.size+1) s4.heap h') :
  Inv X pins σ (upd H' s2.heap.objs.size (.lst ys)) { s4 with heap:=h' }:=by
 have h:=J.pin (s2.heap.objs.size,lobj vs) (bn _ bj);have Y:H' s2.heap.objs.size=none:=h.2.1;have Z:H' (s2.heap.objs.size+1)=none:=J.free;have U:Un (frs X.stack) fp H2 H' s2.heap s4.heap:=J.base;have d:∀b o,s2.heap.get? b=some o->b≠s2.heap.objs.size/\b≠s2.heap.objs.size+1:=λb o e=>by
  have:=bw e;exact⟨bv this,bv (fc this)⟩
 have m:∀b,s2.heap.objs.size<=b->H2 b=none:=λb D=>I.hok.fresh D;have f:∀b o,H2 b=some o->b≠s2.heap.objs.size:=λb o e z=>by rw[z,m _ (bo _)] at e;cases e
 have p:Un (frs X.stack) fp H2 (upd H' s2.heap.objs.size (.lst ys)) s2.heap h':=by
  refine⟨λb o e n D V=>(a.2 b (d b o e).2).trans (U.keep b o e n D V),λb o e n D V=>?_,λb o e n V=>?_,λb o e V=>?_,λb xs e=>?_,λb o u e=>?_,λb ps e=>?_⟩
  ·obtain⟨sl,q⟩:=U.slot b o e n D V
   exact⟨sl,(a.2 b (d b o e).2).trans q⟩
  ·rw[gi (d b o e).1];exact U.free b o e n V
  ·obtain⟨o',q⟩:=U.there b o e V
   exact⟨o',(a.2 b (d b o e).2).trans q⟩
  ·rw[gi (f b _ e)];exact U.tups b xs e
  ·rw[gi (f b _ e)];exact U.frzs b o u e
  ·rw[gi (f b _ e)];exact U.tbls b ps e
 have kk:∀b u,b≠s2.heap.objs.size+1->s4.heap.get? b=some u->h'.get? b=some u:=λb u D q=>(a.2 b D).trans q;have g:HOk X.prog X.w (upd H' s2.heap.objs.size (.lst ys)) h':=λb u e=>by
  by_cases D:b=s2.heap.objs.size
  ·subst D
   rw[li] at e;cases e;exact⟨l,vs,vs.length,k,kk _ _ (bv (di _)) h.1⟩
  ·rw[gi D] at e
   have r:b≠s2.heap.objs.size+1:=λz=>by rw[z,Z] at e;cases e
   refine(J.hok b u e).stay (λc v hc q=>kk c v ?_ q) (λc q=>?_) λc xs q=>?_
   ·rcases hc with rfl | hc
    ·exact r
    ·intro z;rw[z,Z] at hc;cases hc
   ·rw[gi (λz=>by rw[z,Y] at q;cases q)];exact q
   ·rw[gi (λz=>by rw[z,Y] at q;cases q)];exact q
 refine I.call' (s':={ s4 with heap:=h' }) (ch:=fp) J.os p g J.bare λb D=>?_;obtain⟨_,s,_,t,x,y⟩:=i b D;exact⟨t,s,x,y⟩
variable{tg:Expr}{g:TG}
theorem zr7(hc:X.calm=true)(a4:∀cl C s₂ H₂ fp,PIfs (ly X xs N' sc cl C s₂ H₂ fp) ifs tt)(a5:∀cl C s₂ H₂ fp,PE (ly X xs N' sc cl C s₂ H₂ fp) elt te)(hg:∀cl C s₂ H₂ fp,PG (ly X xs N' sc cl C s₂ H₂ fp) tg g)(hN:N'=ix.map λi=>X.N.getD i ("" : Str))(hk:sc.kind=.function)(L:∀y∈sc.names,y.2≠.cell)(a3:∀y∈sc.names,y.2=.local->sc.names.lookup y.1=some .local)(M:∀y∈sc.names,y.2=.free->X.env.kindOf y.1=some .cell\/X.env.kindOf y.1=some .free)(a6:∀y∈N',sc.names.lookup y=some .free)(h1:∀y c,cl.lookup y=some c->X.env.cells.lookup y=some c)(h3:∀y∈sc.names,y.2=.free->∃c,cl.lookup y.1=some c)(I2:Inv X pins σ H2 s2)(T:Turn X.prog X.w X.K tg J fp it tn)(ab:tn 0 s2.heap)(f2:∀b∈fp,FpOk X pins H2 b)(w0:W 0 m0 H2 [])(turn:∀i m H ys,W i m H ys ->
   (J.stop i H/\ys.length<=sizeLine/\∀D,H D=none->Q (.ref D) (upd H D (.lst ys))) \/
   (J.go i H/\∀x H',J.yld i H x H'->∀I:St,I.length=xs.length->g x (I++ix.map (λj=>σ.getD j none)) H' λk H1=>∃Y:St,Y.length=xs.length/\k=Y++ix.map (λj=>σ.getD j none)/\tt k H1 λb H2 =>
     if b=true then te k H2 λv H3=>ys.length<sizeLine/\∃l,l<m/\W (i+1) l H3 (ys++[v]) else ∃l,l<m/\W (i+1) l H2 ys))(ag:∀b o,s2.heap.get? b=some o->h₁.get? b=some o)(s:h₁.Ns (s2.heap.objs.size+1) m₁)(ai:h₁.get? s2.heap.objs.size=some (lobj []))(hR:∀s5 B ys vs σ',Inv (ly X xs N' sc cl (s2.heap.objs.size+1) s2 H2 fp) [(s2.heap.objs.size,lobj vs)] σ' B s5->Vals ys vs->ys.length<=sizeLine->(∀D,B D=none->Q (.ref D) (upd B D (.lst ys)))->R (.ok .next) s5) :
  codeAny (model X.prog X.w) X.A (.compStart (.ListComp elt [⟨tg,iter,ifs,0⟩] sc pos) 0 (.ref it) (.ref s2.heap.objs.size) (compEnvC sc cl (s2.heap.objs.size+1) X.env)) R { s2 with heap:=h₁,toks:=s2.toks+([]:List (Str×Value)).length }:=by
 have al:∀b∈fp,∃o,s2.heap.get? b=some o:=λb U=>by obtain⟨o,e,_⟩:=T.obj _ _ ab b U;exact⟨o,e⟩
 have O:∀b∈fp,b<s2.heap.objs.size:=λb U=>by obtain⟨o,e⟩:=al b U;exact bw e
 have I3:=zr6 (xs:=xs) (tk:=s2.toks+([]:List (Str×Value)).length) hN hk L M a6 h1 h3 I2 f2 al ag s ai;have an:tn 0 h₁:=T.keep _ _ _ ab λb U o e=>ag b o e;generalize Z:ly X xs N' sc cl (s2.heap.objs.size+1) s2 H2 fp=X' at I3;have eP:X'.prog=X.prog:=by rw[<-Z];rfl
 have eW:X'.w=X.w:=by rw[<-Z];rfl
 have eK:X'.K=X.K:=by rw[<-Z];rfl
 have eA:X'.A=X.A:=by rw[<-Z];rfl
 have E:X'.env=compEnvC sc cl (s2.heap.objs.size+1) X.env:=by rw[<-Z];rfl
 have eC:X'.calm=true:=by rw[<-Z];exact hc
 have ap:X'.pn=[]:=by rw[<-Z];rfl
 have P:X'.xe=λ_ _=>False:=by rw[<-Z];rfl
 have ar:X'.fs=frs X.stack:=by rw[<-Z];rfl
 have a7:X'.ex=fp:=by rw[<-Z];rfl
 have eS:X'.s₀=s2:=by rw[<-Z];rfl
 have a8:∀b∈fp,b∉frs X.stack:=λb U z=>by
  rcases b7.mp (I2.stkSub b z) with e | z
  ·exact(f2 b U).2.1 e
  ·exact(f2 b U).2.2.1 z
 have a0:s2.heap.objs.size∉frs X.stack:=λz=>by
  rcases b7.mp (I2.stkSub _ z) with e | z
  ·exact absurd (e ▸ I2.lt) (ft _)
  ·exact I2.nofs (bo _) z
 have a:∀ {H':Hp} {vs:fe},(∀b∈fp,H' b=none)->∀b∈fp,FpOk X' [(s2.heap.objs.size,lobj vs)] H' b:=λ{H' vs} hn b U=>by
  refine⟨hn b U,?_,?_,.inl (by rw[a7];exact U),λy c e=>?_,λp t=>?_⟩
  ·rw[E];exact bv (fc (O b U))
  ·rw[ar];exact a8 b U
  ·rw[E] at e;exact(f2 b U).2.2.2.2.1 y c (h1 y c e)
  ·rw[ap] at t
   rw[cj.mp (show p∈[(s2.heap.objs.size,lobj vs)] from t)];exact i6 (O b U)
 have loop:∀V:Shared,V={ s2 with heap:=h₁,toks:=s2.toks+([]:List (Str×Value)).length } ->
   codeAny (model X.prog X.w) X.A (.compLoop (.ListComp elt [⟨tg,iter,ifs,0⟩] sc pos) 0 (.ref it) (.ref s2.heap.objs.size) (compEnvC sc cl (s2.heap.objs.size+1) X.env))
    (R) V:=by
  rintro V rfl;refine zph (λn s'=>∃i I H' ys vs,I.length=xs.length/\Inv X' [(s2.heap.objs.size,lobj vs)] (I++ix.map (λj=>σ.getD j none)) H' s'/\Vals ys vs/\tn i s'.heap/\(∀b∈fp,H' b=none)/\W i n H' ys) ?_ m0
   ⟨0,xs.map (λ_=>none),H2,[],[],by simp,I3,.nil,an,λb U=>(f2 b U).1,w0⟩
  rintro n s4 ⟨i,I,B,ys,vs,hσp,I4,hv4,st4,fr4,w4⟩;rcases turn i n B ys w4 with⟨a1,hl,qn⟩ | ⟨go,step⟩
  ·have D:=T.done X' eP eW eK eC i _ s4 _ B (notedBy (model X.prog X.w) X.A (compEnvC sc cl (s2.heap.objs.size+1) X.env) λe s'=>R (.error e) s') I4 (a fr4) st4 a1
   rw[eA] at D;refine thn D λr s5 f=>?_;obtain⟨hr,I5⟩:=f;subst hr;exact hR s5 B ys vs _ (Z ▸ I5) hv4 hl qn
  ·have D:=T.item X' eP eW eK eC i _ s4 _ B (notedBy (model X.prog X.w) X.A (compEnvC sc cl (s2.heap.objs.size+1) X.env) λe s'=>R (.error e) s') I4 (a fr4) st4 go
   rw[eA] at D;refine thn D λr s5 f=>?_;obtain⟨u,hr,h5⟩:=f;subst hr;have a9:wpAny (model X.prog X.w) X.A (letOwnedTupleGo tg (.ref it) u) (λ_ S=>wpAny (model X.prog X.w) X.A (assign tg (compEnvC sc cl (s2.heap.objs.size+1) X.env) u) (λ_ s₂ =>
     wpAny (model X.prog X.w) X.A (forIn ifs true λc r=>if r=true then do let ok <-isTrue c (compEnvC sc cl (s2.heap.objs.size+1) X.env) (eval c (compEnvC sc cl (s2.heap.objs.size+1) X.env));pure (ForInStep.yield ok) else pure (ForInStep.yield r)) (λok V =>
      if ok=true then wpAny (model X.prog X.w) X.A (eval elt (compEnvC sc cl (s2.heap.objs.size+1) X.env)) (λx a2 =>
       wpAny (model X.prog X.w) X.A (call (.builtin "list.append") [.ref s2.heap.objs.size,x]) (λ_ F=>∃m,m<n/\∃i I H' ys vs,I.length=xs.length/\Inv X' [(s2.heap.objs.size,lobj vs)] (I++ix.map (λj=>σ.getD j none)) H' F/\Vals ys vs/\tn i F.heap/\(∀b∈fp,H' b=none)/\W i m H' ys)
        (notedBy (model X.prog X.w) X.A (compEnvC sc cl (s2.heap.objs.size+1) X.env) λe s'=>R (.error e) s') a2)
       (notedBy (model X.prog X.w) X.A (compEnvC sc cl (s2.heap.objs.size+1) X.env) λe s'=>R (.error e) s') V
      else ∃m,m<n/\∃i I H' ys vs,I.length=xs.length/\Inv X' [(s2.heap.objs.size,lobj vs)] (I++ix.map (λj=>σ.getD j none)) H' V/\Vals ys vs/\tn i V.heap/\(∀b∈fp,H' b=none)/\W i m H' ys)
      (notedBy (model X.prog X.w) X.A (compEnvC sc cl (s2.heap.objs.size+1) X.env) λe s'=>R (.error e) s') s₂)
     (notedBy (model X.prog X.w) X.A (compEnvC sc cl (s2.heap.objs.size+1) X.env) λe s'=>R (.error e) s') S) (notedBy (model X.prog X.w) X.A (compEnvC sc cl (s2.heap.objs.size+1) X.env) λe s'=>R (.error e) s') s5:=by
    refine thn h5 λ_ s6 f=>?_;obtain⟨z,H6,I6,r6,y6,aa,ba⟩:=f;have bb:=I6.pinned (a ba) (T.obj _ _ aa);have q6:=step z H6 y6 I hσp;have g6:=(Z ▸ hg cl (s2.heap.objs.size+1) s2 H2 fp:PG X' tg g) _ s6 _ H6 z u _ bb r6 q6;rw[eP,eW,eA,E] at g6;refine wpAny_mono g6 (λ_ s7 f=>?_) (λe s' z=>by rw[P] at z;exact z.elim);obtain⟨k,H7,I7,Y,G,bd,q7⟩:=f;subst bd;have t7:=(Z ▸ a4 cl (s2.heap.objs.size+1) s2 H2 fp:PIfs X' ifs tt) _ s7 _ H7 _ I7 q7;rw[eP,eW,eA,E] at t7;refine wpAny_mono t7 (λb s8 f=>?_) (λe s' z=>by rw[P] at z;exact z.elim);obtain⟨H8,I8,q8⟩:=f;have h:∀ {s':Shared} {H':Hp} {σ':St},Inv X' ([(s2.heap.objs.size,lobj vs)]++we fp s6.heap) σ' H' s'->tn (i+1) s'.heap/\∀b∈fp,H' b=none:=λ{s' H' σ'} J'=>by
     refine⟨T.keep _ _ _ aa λb U o e=>(J'.pin (b,o) (bn _ (bn _ (xk U e)))).1,λb U=>?_⟩;obtain⟨o,e,d⟩:=T.obj _ _ aa b U;exact(J'.pin (b,o) (bn _ (bn _ (xk U e)))).2.1
    cases b with
    | false =>
      rw[if_neg ce] at q8 ⊢;obtain⟨l,hm,w8⟩:=q8;obtain⟨k1,k2⟩:=h I8;exact⟨l,hm,i+1,Y,H8,ys,vs,G,I8.unpinned,hv4,k1,k2,w8⟩
    | true =>
      rw[if_pos rfl] at q8 ⊢;have t8:=(Z ▸ a5 cl (s2.heap.objs.size+1) s2 H2 fp:PE X' elt te) _ s8 _ H8 _ I8 q8;rw[eP,eW,eA,E] at t8;refine wpAny_mono t8 (λv s9 f=>?_) (λe s' z=>by rw[P] at z;exact z.elim);obtain⟨y,H9,I9,r9,bm,l,hm,w9⟩:=f;have pD:=I9.pin (s2.heap.objs.size,lobj vs) (bn _ (e7 _ bj));obtain⟨k1,k2⟩:=h I9;have bp:=hv4.length;refine append_at (D:=s2.heap.objs.size) (its:=vs.toArray) (n:=vs.length) pD.1 (λh' sb hD=>?_) (by rw[b6];lia);have be:Inv X' [] (Y++ix.map (λj=>σ.getD j none)) H9 s9:=I9.pins_of λp t=>nomatch t;have cne:∀y c,X'.env.cells.lookup y=some c->c≠s2.heap.objs.size:=λy c e=>by
       rw[E] at e;obtain⟨v',q⟩:=I2.cell y c (h1 y c e);exact bv q.lt
      have bk:Inv X' [] (Y++ix.map (λj=>σ.getD j none)) H9 { s9 with heap:=h' }:=be.turned (t':=s9.toks) (it:=s2.heap.objs.size) (λb o U e=>(sb.2 b U).trans e) pD.2.1 (by rw[E];exact bv (di _)) (.inr (by rw[eS];exact bo _)) cne (λp t=>by rw[ap] at t;exact nomatch t);have bl:Inv X' [(s2.heap.objs.size,lobj (vs++[v]))] (Y++ix.map (λj=>σ.getD j none)) H9 { s9 with heap:=h' }:=bk.pins_of λp t=>by
       rw[cj.mp t];exact⟨hD.trans (congrArg some (znv vs v)),pD.2.1,by rw[E];exact bv (di _),by rw[ar];exact a0,λv' z'=>by cases z'⟩
      exact⟨l,hm,i+1,Y,H9,ys++[y],vs++[v],G,bl,hv4.snoc r9,T.keep _ _ _ k1 (λb U o e=>(sb.2 b (bv (O b U))).trans e),k2,w9⟩
   exact a9
 exact codeAny_compStart_list (loop _ rfl) (T.self X.A 0 _ _ _ an (loop _ rfl))
structure ztu (X:Cx) (xs N':c3) (ix:f0) (sc:Scope):Prop where
 nm:N'=ix.map λi=>X.N.getD i ("" : Str)
 nd:(xs++N').Nodup
 kind:sc.kind=.function
 hx:∀y∈xs,sc.names.lookup y=some .local
 cell:∀y∈sc.names,y.2≠.cell
 names:∀y∈sc.names,y.2=.local->sc.names.lookup y.1=some .local
 free:∀y∈sc.names,y.2=.free->X.env.kindOf y.1=some .cell\/X.env.kindOf y.1=some .free
 fv:∀y∈N',sc.names.lookup y=some .free
def zwh(c:ztu X xs N' ix sc)(t:X.calm=true)(hi:PI X tg iter wi)(a:∀cl C s₂ H₂ fp,PIfs (ly X xs N' sc cl C s₂ H₂ fp) ifs tt)(d:∀cl C s₂ H₂ fp,PE (ly X xs N' sc cl C s₂ H₂ fp) elt te)(u:∀cl C s₂ H₂ fp,PG (ly X xs N' sc cl C s₂ H₂ fp) tg g)(w:∀v,foldedSetIterable iter X.env v=pure v:=by intro _;rfl) :
  PE X (.ListComp elt [⟨tg,iter,ifs,0⟩] sc pos) (zyn xs.length wi g ix tt te):=by
 intro pins s σ H Q I h;obtain⟨cl,f,h1,x⟩:=ziw (sc:=sc) (env:=X.env) (λy i z=>I.ok.has y.1 (c.free y i z));rw[eval_ListComp];refine wpAny_comprehension_free (use:=none) rfl w f c.kind c.names (thn (hi pins s σ H _ I h) λv N A=>thn A λB s2 h2=>?_);obtain⟨it,fp,tn,J,H2,rfl,q,T,V,r,W,⟨m0,E⟩,turn⟩:=h2;refine wpAny_newObj_type (wpAny_newFunctionEnv c.cell (by intro y i;simp at i) (λh₁ U D=>?_) c.kind);dsimp only at U D ⊢;have Y:(s2.heap.push { cls:=.type "list",dict:=none,data:=.seq ([]:fe).toArray }).objs.size=s2.heap.objs.size+1:=jv ..;rw[Y] at U D ⊢;have j:∀b o,s2.heap.get? b=some o->h₁.get? b=some o:=λb o e=>D.extBut b o (bv (fc (bw e))) (av _ (av _ e));have Z:h₁.get? s2.heap.objs.size=some (lobj []):=D.extBut _ _ (bv (di _)) (av _ (c8 _ rfl));have k:∀b∈fp,∃o,s2.heap.get? b=some o:=λb F=>by obtain⟨o,e,_⟩:=T.obj _ _ V b F;exact⟨o,e⟩
 refine zr7 t a d u c.nm c.kind c.cell c.names c.free c.fv h1 x q T V r E turn j U Z λO P ys vs σ' l m G K=>?_;obtain⟨L,n,_⟩:=l.loc;refine⟨L,n,λh' M=>?_⟩;have p:=(l.pin (s2.heap.objs.size,lobj vs) (bn _ bj)).2.1;exact⟨.ref s2.heap.objs.size,_,ztt q r k l m G M,rfl,K _ p⟩
inductive D where
 | non | bl (b:Bool) | int (i:Int) | str (s:Str) | tup (ds:List D) | lst (ds:List D)
 | dct (ks:f5) (ds:List D)
 | exc (a:Addr)
abbrev g2:=List D
abbrev g3:=Option D
inductive Im where
 | t (vs:g0) | d (kvs:List (Key×V))
@[reducible] noncomputable def Im.out:Im->HO | .t vs=>.tup vs | .d kvs=>.dK kvs
def dkv(ks:f5)(vs:g0):List (Key×V):=ks.zipWith (λk v=>(Sum.inl k,v)) vs
def KL(K:gu)(a:Addr)(xs:g0):Prop :=
 ∃(o:Obj) (its:gy) (n:Nat),K.lookup a=some o/\o.cls=.type "list"/\o.dict=none/\o.data=.seq its n/\its.size<=sizeLine/\Vals xs its.toList
mutual
inductive Rep (K:gu) (H:Hp) (O:Addr->Prop):D->V->Prop
 | non:Rep K H O .non .non
 | bl (b:Bool):Rep K H O (.bl b) (.bl b)
 | int (i:Int):Rep K H O (.int i) (.int i)
 | str (s:Str):Rep K H O (.str s) (.str s)
 | tup {a:Addr} {vs:g0} {ds:g2}:H a=some (.tup vs)->Reps K H O ds vs->Rep K H O (.tup ds) (.ref a)
 | lst {a:Addr} {vs:g0} {ds:g2}:O a->Rd H a (.lst vs)->Reps K H O ds vs->Rep K H O (.lst ds) (.ref a)
 | klst {a:Addr} {vs:g0} {ds:g2}:KL K a vs->Reps K H O ds vs->Rep K H O (.lst ds) (.ref a)
 | dct {a:Addr} {ks:f5} {vs:g0} {ds:g2}:H a=some (.dK (dkv ks vs))->Reps K H O ds vs->Rep K H O (.dct ks ds) (.ref a)
 | exc (a:Addr):Rep K H O (.exc a) (.ref a)
inductive Reps (K:gu) (H:Hp) (O:Addr->Prop):g2->g0->Prop
 | nil:Reps K H O [] []
 | cons {d:D} {v:V} {ds:g2} {vs:g0}:Rep K H O d v->Reps K H O ds vs->Reps K H O (d::ds) (v::vs)
end
variable{vs:g0}{ds:g2}{O:Addr->Prop}
def Reps.ind{P:g2->g0->Prop}(n:P [] [])(c:∀ {d v ds vs},Rep K H O d v->Reps K H O ds vs->P ds vs->P (d::ds) (v::vs)):Reps K H O ds vs->P ds vs :=
 Reps.rec (motive_1:=λ_ _ _=>True) (motive_2:=λds vs _=>P ds vs) ⟨⟩ (λ_=>⟨⟩) (λ_=>⟨⟩) (λ_=>⟨⟩) (λ_ _ _=>⟨⟩) (λ_ _ _ _=>⟨⟩) (λ_ _ _=>⟨⟩) (λ_ _ _=>⟨⟩) (λ_=>⟨⟩) n λr t _=>c r t
variable{v:V}{O':Addr->Prop}
def Rep.mono(D:∀a (u:Im),H a=some u.out->H' a=some u.out)(I:∀a vs,O a->Rd H a (.lst vs)->O' a/\Rd H' a (.lst vs)):Rep K H O d v->Rep K H' O' d v :=
 Rep.rec (motive_1:=λd v _=>Rep K H' O' d v) (motive_2:=λds vs _=>Reps K H' O' ds vs) .non .bl .int .str (λh _=>.tup (D _ (.t _) h)) (λo h _=>.lst (I _ _ o h).1 (I _ _ o h).2) (λh _=>.klst h) (λh _=>.dct (D _ (.d _) h)) .exc .nil λ_ _=>.cons
def Reps.mono(I:∀a (u:Im),H a=some u.out->H' a=some u.out)(U:∀a vs,O a->Rd H a (.lst vs)->O' a/\Rd H' a (.lst vs)){ds:g2}{vs:g0}:Reps K H O ds vs->Reps K H' O' ds vs:=Reps.ind .nil λr _=>.cons (r.mono I U)
def Reps.length{ds:g2}{vs:g0}:Reps K H O ds vs->ds.length=vs.length:=Reps.ind (P:=λds vs=>ds.length=vs.length) rfl λ_ _=>congrArg Nat.succ
def Reps.get(h:Reps K H O ds vs):ds[i]?=some d->∃v,vs[i]?=some v/\Rep K H O d v :=
 Reps.ind (P:=λds vs=>∀ {i:Nat},ds[i]?=some d->∃v,vs[i]?=some v/\Rep K H O d v) nofun (λr _ q i e=>match i with
  | 0=>⟨_,rfl,bh e ▸ r⟩
  | i+1=>q (i:=i) e) h
def Reps.append{es:g2}{ws:g0}(h:Reps K H O ds vs)(s:Reps K H O es ws):Reps K H O (ds++es) (vs++ws):=Reps.ind (P:=λds vs=>Reps K H O (ds++es) (vs++ws)) s (λr _=>.cons r) h
def Reps.take{ds:g2}{vs:g0}(n:Nat)(h:Reps K H O ds vs):Reps K H O (ds.take n) (vs.take n) :=
 Reps.ind (P:=λds vs=>∀n,Reps K H O (ds.take n) (vs.take n)) (λn=>by cases n <;> exact .nil) (λr _ q n=>by cases n;exact .nil;exact .cons r (q _)) h n
def Reps.drop{ds:g2}{vs:g0}(n:Nat)(h:Reps K H O ds vs):Reps K H O (ds.drop n) (vs.drop n) :=
 Reps.ind (P:=λds vs=>∀n,Reps K H O (ds.drop n) (vs.drop n)) (λn=>by cases n <;> exact .nil) (λr t q n=>by cases n;exact .cons r t;exact q _) h n
def Reps.set{d:D}{v:V}(r:Rep K H O d v){ds:g2}{vs:g0}(i:Nat)(h:Reps K H O ds vs):Reps K H O (ds.set i d) (vs.set i v) :=
 Reps.ind (P:=λds vs=>∀i,Reps K H O (ds.set i d) (vs.set i v)) (λ_=>.nil) (λp t q n=>by cases n;exact .cons r t;exact .cons p (q _)) h i
def Reps.dropLast(h:Reps K H O ds vs):Reps K H O ds.dropLast vs.dropLast:=by
 rw[lr,lr,h.length];exact h.take _
def Rep.int_{i:Int}(h:Rep K H O (.int i) v):v=.int i:=by cases h;rfl
def Rep.bl_{i:Bool}(h:Rep K H O (.bl i) v):v=.bl i:=by cases h;rfl
def Rep.str_{i:Str}(h:Rep K H O (.str i) v):v=.str i:=by cases h;rfl
def Rep.non_(h:Rep K H O .non v):v=.non:=by cases h;rfl
def Rep.tup_(h:Rep K H O (.tup ds) v):∃a vs,v=.ref a/\H a=some (.tup vs)/\Reps K H O ds vs:=by cases h with | tup a b=>exact⟨_,_,rfl,a,b⟩
def LsOk(K:gu)(H:Hp)(O:Addr->Prop)(a:Addr)(vs:g0):Prop:=(O a/\Rd H a (.lst vs))\/KL K a vs
def LsOk.sq(h:LsOk K H O a vs):SqL K H a vs:=h.elim (λz=>.inl z.2) .inr
def Rep.lst_(h:Rep K H O (.lst ds) v):∃a vs,v=.ref a/\LsOk K H O a vs/\Reps K H O ds vs:=by
 cases h with
 | lst o a b=>exact⟨_,_,rfl,.inl ⟨o,a⟩,b⟩
 | klst a b=>exact⟨_,_,rfl,.inr a,b⟩
inductive Mo where
 | l (vs:g0) | i (C dx:Addr) (fs:List (Str×V))
@[reducible] noncomputable def Mo.out:Mo->HO | .l vs=>.lst vs | .i C dx fs=>.ins C dx fs
inductive Pt where
 | d (d:D) | o (ds:g2)
abbrev g4:=List Pt
inductive AK where
 | ls | ins (b:Bool) (c:Str) (fs:c3)
inductive Sl where
 | sh (d:D) | ow (ds:g2) | o2 (dss:List g2) | ag (k:AK) (r:Option Nat) (ps:g4) | al (r j:Nat) | ro (k:AK) (ps:g4)
abbrev g5:=Option Sl
structure Gd where
 g:Addr->Prop
 r:Nat->fh
instance:CoeFun Gd (λ_=>Addr->Prop):=⟨Gd.g⟩
abbrev gd(g:Addr->Prop):Gd:=⟨g,λ_=>[]⟩
abbrev DE0:=List g5
def Ow(G:Gd)(W:Addr->Prop):Addr->Prop:=λa=>G a/\¬W a
def Inn(K:gu)(G:Gd)(W:Addr->Prop)(H:Hp)(dss:List g2)(ls:fh):Prop :=
 ls.length=dss.length/\∀(j:Nat) (ds:g2) (a:Addr),dss[j]?=some ds->ls[j]?=some a->W a/\∃vs,H a=some (.lst vs)/\Reps K H (Ow G W) ds vs
inductive PtsOk (K:gu) (G:Gd) (W:Addr->Prop) (H:Hp):g4->fh->g0->Prop
 | nil:PtsOk K G W H [] [] []
 | d {d:D} {v:V} {ps:g4} {as:fh} {us:g0}:Rep K H (Ow G W) d v->PtsOk K G W H ps as us->PtsOk K G W H (.d d::ps) as (v::us)
 | o {ds:g2} {a:Addr} {vs:g0} {ps:g4} {as:fh} {us:g0}:W a->H a=some (.lst vs)->Reps K H (Ow G W) ds vs->PtsOk K G W H ps as us->PtsOk K G W H (.o ds::ps) (a::as) (.ref a::us)
inductive PtsRo (K:gu) (G:Gd) (W:Addr->Prop) (H:Hp):g4->g0->Prop
 | nil:PtsRo K G W H [] []
 | d {d:D} {v:V} {ps:g4} {us:g0}:Rep K H (Ow G W) d v->PtsRo K G W H ps us->PtsRo K G W H (.d d::ps) (v::us)
 | o {ds:g2} {a:Addr} {vs:g0} {ps:g4} {us:g0}:¬W a->H a=some (.lst vs)->Reps K H (Ow G W) ds vs->PtsRo K G W H ps us->PtsRo K G W H (.o ds::ps) (.ref a::us)
def AkOk(K:gu)(H:Hp):AK->Addr->g0->Prop
 | .ls,p,us=>H p=some (.lst us)
 | .ins _ c fs,p,us=>∃C dx,PySem.W.nsIn K mainGlobals c=some (some (.ref C))/\H p=some (.ins C dx (fs.zip us))/\fs.length=us.length
def Lab:AK->fh->Addr->fh->Prop
 | .ins true _ _,l,p,_=>l=[p]
 | _,l,p,as=>l=p::as
inductive OwOk (K:gu) (G:Gd) (W:Addr->Prop) (H:Hp) (ds:g2) (v:V):Prop
 | mk (l:Addr) (vs:g0) (e:v=.ref l) (w:W l) (h:H l=some (.lst vs)) (r:Reps K H (Ow G W) ds vs):OwOk K G W H ds v
inductive O2Ok (K:gu) (G:Gd) (W:Addr->Prop) (H:Hp) (dss:List g2) (v:V):Prop
 | mk (l:Addr) (ls:fh) (e:v=.ref l) (w:W l) (h:H l=some (.lst (ls.map V.ref))) (n:(l::ls).Nodup) (r:Inn K G W H dss ls):O2Ok K G W H dss v
inductive AgOk (K:gu) (G:Gd) (W:Addr->Prop) (H:Hp) (k:AK) (r:Option Nat) (ps:g4) (v:V):Prop
 | mk (p:Addr) (as:fh) (us:g0) (e:v=.ref p) (w:W p) (n:(p::as).Nodup) (l:∀n,r=some n->Lab k (G.r n) p as) (h:AkOk K H k p us) (q:PtsOk K G W H ps as us):AgOk K G W H k r ps v
def SlOk(K:gu)(G:Gd)(W:Addr->Prop)(H:Hp):Sl->V->Prop
 | .sh d,v=>Rep K H (Ow G W) d v
 | .ow ds,v=>OwOk K G W H ds v
 | .o2 dss,v=>O2Ok K G W H dss v
 | .ag k r ps,v=>AgOk K G W H k r ps v
 | .al r j,v=>∃p as a,G.r r=p::as/\as[j]?=some a/\v=.ref a
 | .ro k ps,v=>∃(p:Addr) (us:g0),v=.ref p/\¬W p/\AkOk K H k p us/\PtsRo K G W H ps us
def zr:g4->g0->Addr->Prop:=λps us a=>∃(j:Nat) (ds:g2),ps[j]?=some (.o ds)/\us[j]?=some (.ref a)
def AkH(H:Hp):AK->Addr->g0->Prop
 | .ls,p,us=>H p=some (.lst us)
 | .ins _ _ fs,p,us=>fs.length=us.length/\∃C dx,H p=some (.ins C dx (fs.zip us))
def Owns(H:Hp):Sl->V->Addr->Prop
 | .sh _,_,_=>False
 | .ow _,v,a=>v=.ref a
 | .o2 _,v,a=>v=.ref a\/∃(l:Addr) (ls:fh),v=.ref l/\H l=some (.lst (ls.map V.ref))/\a∈ls
 | .ag k _ ps,v,a=>v=.ref a\/∃(p:Addr) (us:g0),v=.ref p/\AkH H k p us/\zr ps us a
 | .al _ _,_,_=>False
 | .ro _ _,_,_=>False
structure Ok (K:gu) (G:Gd) (H0:Hp) (W:Addr->Prop) (env:DE0) (σ:St) (H:Hp):Prop where
 stay:Same H0 H
 good:∀a,H0 a=none->G a
 wl:∀l,W l->H0 l=none/\∃m:Mo,H l=some m.out
 slot:∀(i:Nat) (s:Sl),env[i]?=some (some s)->∃v,σ[i]?=some (some v)/\SlOk K G W H s v
 uniq:∀(i j:Nat) (s s':Sl) (v v':V) (a:Addr),env[i]?=some (some s)->env[j]?=some (some s')->σ[i]?=some (some v)->σ[j]?=some (some v')->Owns H s v a->Owns H s' v' a->i=j
 len:env.length=σ.length
variable{ls:fh}
def yr{D:fh}(h:ls.map V.ref=D.map V.ref):ls=D:=by
 induction ls generalizing D with
 | nil=>cases D with | nil=>rfl | cons b r=>cases h
 | cons a t ih=>cases D with | nil=>cases h | cons b r=>simp[List.cons.injEq,V.ref.injEq] at h;rw[h.1,ih h.2]
variable{W:Addr->Prop}{G:Gd}{ps:g4}{as:fh}{us:g0}
def PtsOk.own(h:PtsOk K G W H ps as us)(ha:a∈as):W a/\∃vs,H a=some (.lst vs):=by
 induction h with
 | nil=>cases ha
 | d _ _ ih=>exact ih ha
 | o hW hl _ _ ih =>
   rcases b7.mp ha with rfl | ha
   ·exact⟨hW,_,hl⟩
   ·exact ih ha
def PtsOk.parts_iff(h:PtsOk K G W H ps as us):zr ps us a↔a∈as:=by
 induction h with
 | nil=>exact⟨λ⟨j,ds,e,_⟩=>by simp at e,λz=>by cases z⟩
 | d _ _ ih =>
   rw[<-ih];constructor
   ·rintro⟨j,ds,I,D⟩
    cases j with
    | zero=>simp at I
    | succ j=>exact⟨j,ds,by simpa using I,by simpa using D⟩
   ·rintro⟨j,ds,I,D⟩
    exact⟨j+1,ds,by simpa using I,by simpa using D⟩
 | o _ _ _ _ ih =>
   rw[b7,<-ih];constructor
   ·rintro⟨j,ds,I,D⟩
    cases j with
    | zero=>simp at D;exact .inl D.symm
    | succ j=>exact .inr ⟨j,ds,by simpa using I,by simpa using D⟩
   ·rintro(rfl | ⟨j,ds,I,D⟩)
    ·exact⟨0,_,rfl,rfl⟩
    ·exact⟨j+1,ds,by simpa using I,by simpa using D⟩
variable{G':Gd}{W':Addr->Prop}
def PtsOk.step(h:PtsOk K G W H ps as us)(k:∀a vs,a∈as->H a=some (.lst vs)->W' a/\H' a=some (.lst vs))(r:∀d v,Rep K H (Ow G W) d v->Rep K H' (Ow G' W') d v)(D:∀ds vs,Reps K H (Ow G W) ds vs->Reps K H' (Ow G' W') ds vs):PtsOk K G' W' H' ps as us:=by
 induction h with
 | nil=>exact .nil
 | d q _ ih=>exact .d (r _ _ q) (ih k)
 | o hW hl q _ ih =>
   obtain⟨I,U⟩:=k _ _ bj hl;exact .o I U (D _ _ q) (ih λa vs V=>k a vs (au _ V))
def PtsRo.step(h:PtsRo K G W H ps us)(k:∀a vs,¬W a->H a=some (.lst vs)->¬W' a/\H' a=some (.lst vs))(r:∀d v,Rep K H (Ow G W) d v->Rep K H' (Ow G' W') d v)(D:∀ds vs,Reps K H (Ow G W) ds vs->Reps K H' (Ow G' W') ds vs):PtsRo K G' W' H' ps us:=by
 induction h with
 | nil=>exact .nil
 | d q _ ih=>exact .d (r _ _ q) ih
 | o hW hl q _ ih=>obtain⟨I,U⟩:=k _ _ hW hl;exact .o I U (D _ _ q) ih
variable{j:Nat}
def PtsRo.get(h:PtsRo K G W H ps us)(e:ps[j]?=some (.o ds)):∃a vs,us[j]?=some (.ref a)/\¬W a/\H a=some (.lst vs)/\Reps K H (Ow G W) ds vs:=by
 induction h generalizing j with
 | nil=>simp at e
 | d _ _ ih =>
   cases j with
   | zero=>simp at e
   | succ j=>obtain⟨a,vs,h1,h2⟩:=ih (j:=j) (by simpa using e);exact⟨a,vs,by simpa using h1,h2⟩
 | @o _ a vs _ _ hW hl r _ ih =>
   cases j with
   | zero=>simp at e;subst e;exact⟨a,vs,rfl,hW,hl,r⟩
   | succ j=>obtain⟨a,vs,h1,h2⟩:=ih (j:=j) (by simpa using e);exact⟨a,vs,by simpa using h1,h2⟩
def PtsRo.getD(h:PtsRo K G W H ps us)(e:ps[j]?=some (.d d)):∃v,us[j]?=some v/\Rep K H (Ow G W) d v:=by
 induction h generalizing j with
 | nil=>simp at e
 | d q _ ih =>
   cases j with
   | zero=>simp at e;subst e;exact⟨_,rfl,q⟩
   | succ j=>obtain⟨a,h1,h2⟩:=ih (j:=j) (by simpa using e);exact⟨a,by simpa using h1,h2⟩
 | o _ _ _ _ ih =>
   cases j with
   | zero=>simp at e
   | succ j=>obtain⟨a,h1,h2⟩:=ih (j:=j) (by simpa using e);exact⟨a,by simpa using h1,h2⟩
variable{k:AK}{p:Addr}
theorem uv{D:g0}(h:AkOk K H k p us)(h':AkH H k p D):D=us:=by
 cases k with
 | ls=>have h:H p=_:=h;have h':H p=_:=h';rw[h] at h';cases h';rfl
 | ins b c fs =>
   obtain⟨C,dx,_,I,Y⟩:=h;obtain⟨Z,a,U,e⟩:=h';rw[I] at e;have e:fs.zip us=fs.zip D:=by injection e with e;injection e
   have:=congrArg (List.map Prod.snd) e;rw[ph (by lia),ph (by lia)] at this;exact this.symm
protected def AkOk.o{K:gu}{H:Hp}{k:AK}{p:Addr}{us:g0}(h:AkOk K H k p us):AkH H k p us:=by
 cases k with
 | ls=>exact h
 | ins b c fs=>obtain⟨C,dx,_,D,I⟩:=h;exact⟨I,C,dx,D⟩
def AkOk.mo(h:AkOk K H k p us):∃m:Mo,H p=some m.out/\∀H',H' p=some m.out->AkOk K H' k p us:=by
 cases k with
 | ls=>exact⟨.l us,h,λH' e=>e⟩
 | ins b c fs=>obtain⟨C,dx,D,I,U⟩:=h;exact⟨.i C dx (fs.zip us),I,λH' e=>⟨C,dx,D,e,U⟩⟩
def SlOk.owns(h:SlOk K G W H s v)(o:Owns H s v a):W a:=by
 cases s with
 | sh d=>exact o.elim
 | ow ds=>obtain⟨l,vs,e,D,_⟩:=h;rw[show v=.ref a from o] at e;cases e;exact D
 | o2 dss =>
   obtain⟨l,ls,e,D,Y,nd,hi⟩:=h;rcases o with o | ⟨l',ls',e',hl',ha⟩
   ·rw[o] at e;cases e;exact D
   ·rw[e] at e';cases e'
    rw[Y] at hl';have:=yr (by simpa using hl');subst this;obtain⟨j,U,Z⟩:=gl ha;have I:j<dss.length:=by rw[<-hi.1];exact U
    exact(hi.2 j dss[j] a (by simp[I]) (by simp[U,Z])).1
 | ag k r ps =>
   obtain⟨p,as,us,e,D,nd,c,b,V⟩:=h;rcases o with o | ⟨p',us',e',hk',ha⟩
   ·rw[o] at e;cases e;exact D
   ·rw[e] at e';cases e'
    rw[uv b hk'] at ha;exact(V.own (V.parts_iff.mp ha)).1
 | al _ _=>exact o.elim
 | ro _ _=>exact o.elim
def SlOk.back(h:SlOk K G W H s v)(k:∀l,v=.ref l->W l->∀m:Mo,H l=some m.out->H' l=some m.out)(o:Owns H' s v a):Owns H s v a:=by
 cases s with
 | sh d=>exact o.elim
 | ow ds=>exact o
 | o2 dss =>
   obtain⟨l,ls,e,D,I,nd,hi⟩:=h;rcases o with o | ⟨l',ls',e',hl',ha⟩
   ·exact .inl o
   ·rw[e] at e';cases e'
    rw[k l e D (.l _) I] at hl';have:=yr (by simpa using hl');subst this;exact .inr ⟨l,ls,e,I,ha⟩
 | ag q r ps =>
   obtain⟨p,as,us,e,D,nd,Z,U,b⟩:=h;rcases o with o | ⟨p',us',e',hk',ha⟩
   ·exact .inl o
   ·rw[e] at e';cases e'
    obtain⟨m,V,Y⟩:=U.mo;rw[uv (Y H' (k p e D m V)) hk'] at ha;exact .inr ⟨p,us,e,U.o,ha⟩
 | al _ _=>exact o.elim
 | ro _ _=>exact o.elim
structure Step (W:Addr->Prop) (H:Hp) (W':Addr->Prop) (H':Hp):Prop where
 keep:∀b o,H b=some o->¬W b->H' b=some o
 ws:∀l,W' l->W l\/H l=none
def Step.refl:Step W H W H:=⟨λ_ _ e _=>e,λ_ h=>.inl h⟩
def Step.trans{W1 D:Addr->Prop}(a:Step W H W1 H1)(b:Step W1 H1 D H2):Step W H D H2 where
 keep:=λc o e n=>b.keep c o (a.keep c o e n) λz=>(a.ws c z).elim n λq=>by rw[q] at e;cases e
 ws:=λl h=>by
  rcases b.ws l h with z | z
  ·exact a.ws l z
  ·by_cases n:W l
   ·exact .inl n
   ·cases e:H l with
    | none=>exact .inr rfl
    | some o=>rw[a.keep l o e n] at z;cases z
def Step.same(h:Same H H'):Step W H W H':=⟨λb o e _=>h b o e,λ_ h=>.inl h⟩
variable{env:DE0}{H0:Hp}
def Ok.wkeep(ok:Ok K G H0 W env σ H)(st:Step W H W' H'):∀b o,H b=some o->(∀m:Mo,o≠m.out)->H' b=some o:=λb o e n =>
 st.keep b o e λz=>by obtain⟨_,m,q⟩:=ok.wl b z;rw[e] at q;exact n m (bh q)
def Rd.keep{u:HO}(h:Rd H a u)(k:∀o,H a=some o->H' a=some o):Rd H' a u:=by
 rcases h with h | ⟨o,h⟩
 ·exact .inl (k _ h)
 ·exact .inr ⟨o,k _ h⟩
def Ok.tstep(ok:Ok K G H0 W env σ H)(st:Step W H W' H'):∀a vs,H a=some (.tup vs)->H' a=some (.tup vs):=λ_ _ h=>ok.wkeep st _ _ h λm z=>by cases m <;> cases z
def Ok.istep(ok:Ok K G H0 W env σ H)(st:Step W H W' H'):∀a (u:Im),H a=some u.out->H' a=some u.out:=λ_ u h=>ok.wkeep st _ _ h λm z=>by cases u <;> cases m <;> cases z
def Ok.lstep(ok:Ok K G H0 W env σ H)(st:Step W H W' H'):∀a vs,Ow G W a->Rd H a (.lst vs)->Ow G W' a/\Rd H' a (.lst vs):=λa vs o h=>by
 refine⟨⟨o.1,λz=>?_⟩,h.keep λu e=>st.keep a u e o.2⟩;rcases st.ws a z with q | q
 ·exact o.2 q
 ·rcases h with h | ⟨_,h⟩ <;> rw[q] at h <;> cases h
def Ok.lsstep(ok:Ok K G H0 W env σ H)(st:Step W H W' H')(h:LsOk K H (Ow G W) a vs):LsOk K H' (Ow G W') a vs:=h.elim (λz=>.inl (ok.lstep st a vs z.1 z.2)) .inr
def Ok.rep(ok:Ok K G H0 W env σ H)(st:Step W H W' H')(r:Rep K H (Ow G W) d v):Rep K H' (Ow G W') d v:=r.mono (ok.istep st) (ok.lstep st)
def Ok.reps(ok:Ok K G H0 W env σ H)(st:Step W H W' H'){d:g2}{v:g0}(r:Reps K H (Ow G W) d v):Reps K H' (Ow G W') d v:=r.mono (ok.istep st) (ok.lstep st)
def Ok.slstep(ok:Ok K G H0 W env σ H)(st:Step W H W' H')(h:SlOk K G W H s v)(k:∀a (m:Mo),Owns H s v a->H a=some m.out->W' a/\H' a=some m.out):SlOk K G W' H' s v:=by
 cases s with
 | sh d=>exact ok.rep st h
 | ow ds =>
   obtain⟨l,vs,e,I,V,r⟩:=h;obtain⟨h1,h2⟩:=k l (.l vs) e V;exact⟨l,vs,e,h1,h2,ok.reps st r⟩
 | o2 dss =>
   obtain⟨l,ls,e,I,V,nd,hi⟩:=h;obtain⟨h1,h2⟩:=k l (.l _) (.inl e) V;have i:∀a vs,a∈ls->H a=some (.lst vs)->W' a/\H' a=some (.lst vs):=λa vs U D=>k a (.l vs) (.inr ⟨l,ls,e,V,U⟩) D;refine⟨l,ls,e,h1,h2,nd,hi.1,λj ds a t D=>?_⟩;obtain⟨_,vs,U,u⟩:=hi.2 j ds a t D;obtain⟨k1,k2⟩:=i a vs (bc D) U;exact⟨k1,vs,k2,ok.reps st u⟩
 | ag q r ps =>
   obtain⟨p,as,us,e,I,nd,w,Y,Z⟩:=h;obtain⟨m,b,c⟩:=Y.mo;obtain⟨h1,h2⟩:=k p m (.inl e) b;exact⟨p,as,us,e,h1,nd,w,c H' h2,Z.step (λa vs U D=>k a (.l vs) (.inr ⟨p,us,e,Y.o,Z.parts_iff.mpr U⟩) D) (λ_ _ r=>ok.rep st r) λ_ _ r=>ok.reps st r⟩
 | al _ _=>exact h
 | ro q ps =>
   obtain⟨p,us,e,I,Y,Z⟩:=h;have f:∀a o,¬W a->H a=some o->¬W' a:=λa o n e z=>(st.ws a z).elim n λy=>by rw[y] at e;cases e
   obtain⟨m,b,c⟩:=Y.mo;exact⟨p,us,e,f p _ I b,c H' (st.keep p _ b I),Z.step (λa vs g D=>⟨f a _ g D,st.keep a _ D g⟩) (λ_ _ r=>ok.rep st r) λ_ _ r=>ok.reps st r⟩
def Ok.same(ok:Ok K G H0 W env σ H)(s:Same H H'):Ok K G H0 W env σ H':=by
 have st:Step W H W H':=Step.same s;have bk:∀ {i:Nat} {sl:Sl} {v:V} {a:Addr},env[i]?=some (some sl)->σ[i]?=some (some v)->Owns H' sl v a->Owns H sl v a:=λ{i sl v a} e I o=>by
  obtain⟨f,D,h⟩:=ok.slot i sl e;rw[I] at D;cases D;exact h.back (λl _ _ vs q=>s l _ q) o
 refine⟨ok.stay.trans s,ok.good,λl h=>?_,λi sl e=>?_,λi j Z s2 v1 v2 a I D U Y c d=>ok.uniq i j Z s2 v1 v2 a I D U Y (bk I U c) (bk D Y d),ok.len⟩
 ·obtain⟨a,vs,b⟩:=ok.wl l h
  exact⟨a,vs,s _ _ b⟩
 ·obtain⟨v,I,h⟩:=ok.slot i sl e
  exact⟨v,I,ok.slstep st h λa vs o D=>⟨h.owns o,s _ _ D⟩⟩
def yq{o:HO}(h:H a=none):Same H (upd H a o):=λb u e=>by rw[gi (m6 e h)];exact e
def addW(W:Addr->Prop)(l:Addr):Addr->Prop:=λa=>W a\/a=l
def Ok.fresh0(ok:Ok K G H0 W env σ H)(s:Same H H')(D:H l=none)(I:H' l=some (.lst vs)) :
  ¬W l/\H0 l=none/\Ok K G H0 (addW W l) env σ H'/\Step W H (addW W l) H':=by
 have V:H0 l=none:=ok.stay.free D;have Y:¬W l:=λz=>by obtain⟨_,vs,q⟩:=ok.wl l z;rw[D] at q;cases q
 have st:Step W H (addW W l) H':=⟨λb o e _=>s b o e,λa z=>z.elim .inl λq=>.inr (by rw[q];exact D)⟩;have U:=ok.same s;refine⟨Y,V,⟨ok.stay.trans s,ok.good,λa z=>?_,λi sl e=>?_,U.uniq,ok.len⟩,st⟩
 ·rcases z with z | rfl
  ·obtain⟨q,us,b⟩:=ok.wl a z
   exact⟨q,us,s _ _ b⟩
  ·exact⟨V,.l vs,I⟩
 ·obtain⟨v,Z,h⟩:=ok.slot i sl e
  exact⟨v,Z,ok.slstep st h λa vs o c=>⟨.inl (h.owns o),s _ _ c⟩⟩
def Ok.fresh(ok:Ok K G H0 W env σ H)(s:Same H H')(D:H l=none)(I:H' l=some (.lst vs))(r:Reps K H' (λa=>(Ow G W a\/H a=none)/\a≠l) ds vs) :
  ¬W l/\H0 l=none/\Ok K G H0 (addW W l) env σ H'/\Reps K H' (Ow G (addW W l)) ds vs/\Step W H (addW W l) H':=by
 have V:H0 l=none:=ok.stay.free D;have Y:¬W l:=λz=>by obtain⟨_,vs,q⟩:=ok.wl l z;rw[D] at q;cases q
 have st:Step W H (addW W l) H':=⟨λb o e _=>s b o e,λa z=>z.elim .inl λq=>.inr (by rw[q];exact D)⟩;have Z:∀a,W a->H a≠none:=λa z q=>by obtain⟨_,vs,e⟩:=ok.wl a z;rw[q] at e;cases e
 have U:=ok.same s;refine⟨Y,V,⟨ok.stay.trans s,ok.good,λa z=>?_,λi sl e=>?_,U.uniq,ok.len⟩,r.mono (λ_ _ h=>h) λa us o h=>⟨⟨?_,?_⟩,h⟩,st⟩
 ·rcases z with z | rfl
  ·obtain⟨q,us,b⟩:=ok.wl a z
   exact⟨q,us,s _ _ b⟩
  ·exact⟨V,.l vs,I⟩
 ·obtain⟨v,c,h⟩:=ok.slot i sl e
  exact⟨v,c,ok.slstep st h λa vs o d=>⟨.inl (h.owns o),s _ _ d⟩⟩
 ·rcases o.1 with q | q
  ·exact q.1
  ·exact ok.good a (ok.stay.free q)
 ·rintro(z | z)
  ·rcases o.1 with q | q
   ·exact q.2 z
   ·exact Z a z q
  ·exact o.2 z
def Ok.noOwn(ok:Ok K G H0 W env σ H)(I:¬W l):∀(j:Nat) (s:Sl) (v:V),env[j]?=some (some s)->σ[j]?=some (some v)->¬Owns H s v l:=λj s v e U o=>by
 obtain⟨Y,D,h⟩:=ok.slot j s e;rw[U] at D;cases D;exact I (h.owns o)
variable{α:Type}
def zqj{N:List α}(D:N.Nodup){x:α}(a:N[i]?=some x)(b:N[j]?=some x):i=j:=by
 obtain⟨h1,I⟩:=am.mp a;obtain⟨h2,U⟩:=am.mp b;exact(ku D).mp (I.trans U.symm)
theorem oj{xs:List α}{x y:α}(h:(xs.set i x)[j]?=some y):(i=j/\y=x/\i<xs.length)\/(i≠j/\xs[j]?=some y):=by
 by_cases D:i=j
 ·subst D
  by_cases hi:i<xs.length
  ·rw[fx hi] at h;cases h;exact .inl ⟨rfl,rfl,hi⟩
  ·rw[c7 (by rw[du];lia)] at h;cases h
 ·rw[d7 D] at h;exact .inr ⟨D,h⟩
def Ok.put(ok:Ok K G H0 W env σ H)(h:SlOk K G W H s v)(d:∀(j:Nat) (s':Sl) (f:V) (a:Addr),env[j]?=some (some s')->σ[j]?=some (some f)->Owns H s v a->¬Owns H s' f a) :
  Ok K G H0 W (env.set i (some s)) (σ.set i (some v)) H:=by
 refine⟨ok.stay,ok.good,ok.wl,λj sl e=>?_,λj k g s2 v1 v2 a Z l D I b c=>?_,by rw[du,du,ok.len]⟩
 ·rcases oj e with⟨rfl,q,hi⟩ | ⟨hj,q⟩
  ·cases q
   exact⟨v,fx (by rw[<-ok.len];exact hi),h⟩
  ·obtain⟨u,Z,r⟩:=ok.slot j sl q
   exact⟨u,by rw[d7 hj];exact Z,r⟩
 ·rcases oj Z with⟨a1,b1,c1⟩ | ⟨a1,b1⟩ <;> rcases oj l with⟨U,Y,m⟩ | ⟨U,Y⟩
  ·rw[<-a1,<-U]
  ·subst a1
   cases b1;rw[fx (by rw[<-ok.len];exact c1)] at D;cases D;rw[d7 U] at I;exact absurd c (d k s2 v2 a Y I b)
  ·subst U
   cases Y;rw[fx (by rw[<-ok.len];exact m)] at I;cases I;rw[d7 a1] at D;exact absurd b (d j g v1 a b1 D c)
  ·rw[d7 a1] at D
   rw[d7 U] at I;exact ok.uniq j k g s2 v1 v2 a b1 Y D I b c
def Ok.set(ok:Ok K G H0 W env σ H)(r:Rep K H (Ow G W) d v):Ok K G H0 W (env.set i (some (.sh d))) (σ.set i (some v)) H :=
 ok.put (s:=.sh d) r λ_ _ _ _ _ _ o=>o.elim
def Ok.setO(ok:Ok K G H0 W env σ H)(D:W l)(I:H l=some (.lst vs))(r:Reps K H (Ow G W) ds vs)(U:∀(j:Nat) (s:Sl) (v:V),env[j]?=some (some s)->σ[j]?=some (some v)->¬Owns H s v l) :
  Ok K G H0 W (env.set i (some (.ow ds))) (σ.set i (some (.ref l))) H :=
 ok.put (s:=.ow ds) ⟨l,vs,rfl,D,I,r⟩ λj s' Y a e Z o=>by
  have:l=a:=by have o:V.ref l=V.ref a:=o;simpa using o
  subst this;exact U j s' Y e Z
def Ok.let(ok:Ok K G H0 W env σ H)(e:env[i]?=some (some s))(Z:σ[i]?=some (some v))(W':Addr->Prop)(I:∀a,W' a↔W a/\¬Owns H s v a)(r:Rep K H (Ow G W') d v) :
  Step W H W' H/\Ok K G H0 W' (env.set i (some (.sh d))) σ H:=by
 have st:Step W H W' H:=⟨λb o q _=>q,λa z=>.inl ((I a).mp z).1⟩;refine⟨st,⟨ok.stay,ok.good,λa z=>ok.wl a ((I a).mp z).1,λj sl q=>?_,λj k l s2 v1 v2 a m U n p c f=>?_,by rw[du,ok.len]⟩⟩
 ·rcases oj q with⟨rfl,D,_⟩ | ⟨hj,D⟩
  ·cases D
   exact⟨v,Z,r⟩
  ·obtain⟨u,g,h⟩:=ok.slot j sl D
   exact⟨u,g,ok.slstep st h λa vs o U=>⟨(I a).mpr ⟨h.owns o,λz=>hj (ok.uniq i j s sl v u a e D Z g z o)⟩,U⟩⟩
 ·rcases oj m with⟨_,V,_⟩ | ⟨a1,V⟩
  ·cases V;exact c.elim
  ·rcases oj U with⟨_,Y,_⟩ | ⟨a2,Y⟩
   ·cases Y;exact f.elim
   ·exact ok.uniq j k l s2 v1 v2 a V Y n p c f
def Ok.share(ok:Ok K G H0 W env σ H)(e:env[i]?=some (some (.ow ds))) :
  ∃W' v,σ[i]?=some (some v)/\Step W H W' H/\Ok K G H0 W' (env.set i (some (.sh (.lst ds)))) σ H/\Rep K H (Ow G W') (.lst ds) v:=by
 obtain⟨v,I,l,vs,rfl,V,Y,r⟩:=ok.slot i _ e;have U:Rep K H (Ow G λa=>W a/\¬Owns H (.ow ds) (.ref l) a) (.lst ds) (.ref l) :=
  .lst ⟨ok.good l (ok.wl l V).1,λz=>z.2 rfl⟩ (.inl Y) (r.mono (λ_ _ h=>h) λa us o h=>⟨⟨o.1,λz=>o.2 z.1⟩,h⟩)
 obtain⟨st,D⟩:=ok.let e I _ (λa=>Iff.rfl) U;exact⟨_,.ref l,I,st,D,U⟩
def zl8:∀ {dss:List g2} {ls:fh},Inn K G W H dss ls->(∀a,a∈ls->W a->G a/\¬W' a)->(∀ds vs,Reps K H (Ow G W) ds vs->Reps K H (Ow G W') ds vs)->Reps K H (Ow G W') (dss.map D.lst) (ls.map V.ref)
 | [],[],_,_,_=>.nil
 | ds::dss,a::ls,h,g,r=>by
   obtain⟨Y,vs,Z,b⟩:=h.2 0 ds a rfl rfl;refine .cons (.lst (g a bj Y) (.inl Z) (r _ _ b)) (zl8 (dss:=dss) (ls:=ls) ⟨lg h.1,λj ds' I c d=>h.2 (j+1) ds' I (by simpa using c) (by simpa using d)⟩ (λI U=>g I (au _ U)) r)
variable{dss:List g2}
def Ok.share2(ok:Ok K G H0 W env σ H)(e:env[i]?=some (some (.o2 dss))) :
  ∃W' v,σ[i]?=some (some v)/\Step W H W' H/\Ok K G H0 W' (env.set i (some (.sh (.lst (dss.map D.lst))))) σ H/\Rep K H (Ow G W') (.lst (dss.map D.lst)) v:=by
 obtain⟨v,U,l,ls,rfl,Z,V,nd,hi⟩:=ok.slot i _ e;have Y:Rep K H (Ow G λa=>W a/\¬Owns H (.o2 dss) (.ref l) a) (.lst (dss.map D.lst)) (.ref l) :=
  .lst ⟨ok.good l (ok.wl l Z).1,λz=>z.2 (.inl rfl)⟩ (.inl V) (zl8 hi (λa b c=>⟨ok.good a (ok.wl a c).1,λz=>z.2 (.inr ⟨l,ls,rfl,V,b⟩)⟩) λds vs r=>r.mono (λ_ _ h=>h) λa us o h=>⟨⟨o.1,λz=>o.2 z.1⟩,h⟩)
 obtain⟨st,I⟩:=ok.let e U _ (λa=>Iff.rfl) Y;exact⟨_,.ref l,U,st,I,Y⟩
def Ok.chg(ok:Ok K G H0 W env σ H){s':Sl}(U:Mo)(e:env[i]?=some (some s))(t:σ[i]?=some (some v))(y:Owns H s v a)(A:SlOk K G W (upd H a U.out) s' v)(w:∀b,Owns (upd H a U.out) s' v b->Owns H s v b):Ok K G H0 W (env.set i (some s')) σ (upd H a U.out)/\Step W H W (upd H a U.out):=by
 have f:W a:=by obtain⟨N,g,h⟩:=ok.slot i s e;rw[t] at g;cases g;exact h.owns y
 have st:Step W H W (upd H a U.out):=⟨λb o q n=>by rw[gi (λz:b=a=>n (by rw[z];exact f))];exact q,λb z=>.inl z⟩;have x:∀ {j:Nat} {sl:Sl} {u:V} {b:Addr},i≠j->env[j]?=some (some sl)->σ[j]?=some (some u)->Owns H sl u b->b≠a:=λ{j sl u b} hj q D o z=>by
  subst z;exact hj (ok.uniq i j s sl v u b e q t D y o)
 have bk:∀ {j:Nat} {sl:Sl} {u:V} {b:Addr},i≠j->env[j]?=some (some sl)->σ[j]?=some (some u)->Owns (upd H a U.out) sl u b->Owns H sl u b:=λ{j sl u b} hj q D o=>by
  obtain⟨O,Y,h⟩:=ok.slot j sl q;rw[D] at Y;cases Y;cases sl with
  | sh d=>exact o.elim
  | ow ds=>exact o
  | o2 dss=>exact h.back (λl Z _ vs c=>by rw[gi (x hj q D (.inl Z))];exact c) o
  | ag k p ps=>exact h.back (λl Z _ vs c=>by rw[gi (x hj q D (.inl Z))];exact c) o
  | al _ _=>exact o.elim
  | ro _ _=>exact o.elim
 refine⟨⟨λb o q=>?_,ok.good,λb z=>?_,λj sl q=>?_,λj k P s2 v1 v2 b D Y Z c B o2=>?_,by rw[du,ok.len]⟩,st⟩
 ·rw[gi (λz=>by rw[z,(ok.wl a f).1] at q;cases q)];exact ok.stay b o q
 ·obtain⟨q,us,w⟩:=ok.wl b z
  by_cases h:b=a
  ·exact⟨q,U,by rw[h,li]⟩
  ·exact⟨q,us,by rw[gi h];exact w⟩
 ·rcases oj q with⟨rfl,I,_⟩ | ⟨hj,I⟩
  ·cases I
   exact⟨v,t,A⟩
  ·obtain⟨u,g,h⟩:=ok.slot j sl I
   exact⟨u,g,ok.slstep st h λb vs o Y=>⟨h.owns o,by rw[gi (x hj I g o)];exact Y⟩⟩
 ·have back:∀ {m:Nat} {sl:Sl} {u:V},(env.set i (some s'))[m]?=some (some sl)->σ[m]?=some (some u)->Owns (upd H a U.out) sl u b->∃r,env[m]?=some (some r)/\Owns H r u b:=λ{m sl u} q D o=>by
   rcases oj q with⟨rfl,I,_⟩ | ⟨hj,I⟩
   ·cases I
    rw[t] at D;cases D;exact⟨s,e,w b o⟩
   ·exact⟨sl,I,bk hj I D o⟩
  obtain⟨C,E,F⟩:=back D Z B;obtain⟨J,L,M⟩:=back Y c o2;exact ok.uniq j k C J v1 v2 b E L Z c F M
variable{ds':g2}{vs':g0}
def Ok.turn(ok:Ok K G H0 W env σ H)(e:env[i]?=some (some (.ow ds)))(I:σ[i]?=some (some (.ref l)))(r:Reps K H (Ow G W) ds' vs') :
  Ok K G H0 W (env.set i (some (.ow ds'))) σ (upd H l (.lst vs'))/\Step W H W (upd H l (.lst vs')):=by
 obtain⟨v,D,V,vs,rfl,U,Y,_⟩:=ok.slot i _ e;rw[I] at D;cases D;have st:Step W H W (upd H l (.lst vs')):=⟨λb o q n=>by rw[gi (λz:b=l=>n (by rw[z];exact U))];exact q,λb z=>.inl z⟩;exact ok.chg (.l vs') e I (show Owns H (.ow ds) (.ref l) l from rfl) ⟨l,vs',rfl,U,li,ok.reps st r⟩ λb o=>o
def Ok.turn2(ok:Ok K G H0 W env σ H)(e:env[i]?=some (some (.o2 dss)))(s:σ[i]?=some (some (.ref l)))(Z:H l=some (.lst (ls.map V.ref)))(u:dss[j]?=some ds)(c:ls[j]?=some a)(r:Reps K H (Ow G W) ds' vs'):Ok K G H0 W (env.set i (some (.o2 (dss.set j ds')))) σ (upd H a (.lst vs'))/\Step W H W (upd H a (.lst vs')):=by
 obtain⟨v,D,w,f,rfl,x,I,nd,hi⟩:=ok.slot i _ e;rw[s] at D;cases D;rw[Z] at I;have:=yr (by simpa using I);subst this;have t:a∈ls:=bc c;have U:W a:=(hi.2 j ds a u c).1;have st:Step W H W (upd H a (.lst vs')):=⟨λb o q n=>by rw[gi (λz:b=a=>n (by rw[z];exact U))];exact q,λb z=>.inl z⟩;have g:l≠a:=λz=>by subst z;exact(cq.mp nd).1 t
 have Y:upd H a (.lst vs') l=some (.lst (ls.map V.ref)):=by rw[gi g];exact Z
 refine ok.chg (.l vs') e s (.inr ⟨l,ls,rfl,Z,t⟩) ⟨l,ls,rfl,x,Y,nd,by rw[du];exact hi.1,λk es b y d=>?_⟩ λb o=>?_
 ·rcases oj y with⟨rfl,z,_⟩ | ⟨hk,q'⟩
  ·cases z
   rw[c] at d;cases d;exact⟨U,vs',li,ok.reps st r⟩
  ·obtain⟨h,us,m,A⟩:=hi.2 k es b q' d
   refine⟨h,us,?_,ok.reps st A⟩;have p:b≠a:=λz=>hk (by
    subst z;exact zqj (cq.mp nd).2 c d)
   rw[gi p];exact m
 ·rcases o with o | ⟨w,f,z,q,m⟩
  ·exact .inl o
  ·cases z
   rw[Y] at q;have:=yr (by simpa using q);subst this;exact .inr ⟨l,ls,rfl,Z,m⟩
def PtsOk.get(h:PtsOk K G W H ps as us)(e:ps[j]?=some (.o ds)):∃a vs,us[j]?=some (.ref a)/\a∈as/\W a/\H a=some (.lst vs)/\Reps K H (Ow G W) ds vs:=by
 induction h generalizing j with
 | nil=>simp at e
 | d _ _ ih =>
   cases j with
   | zero=>simp at e
   | succ j=>obtain⟨a,vs,h1,h2⟩:=ih (j:=j) (by simpa using e);exact⟨a,vs,by simpa using h1,h2⟩
 | @o _ a vs _ _ _ hW hl r _ ih =>
   cases j with
   | zero=>simp at e;subst e;exact⟨a,vs,rfl,bj,hW,hl,r⟩
   | succ j=>obtain⟨a,vs,h1,h2,D⟩:=ih (j:=j) (by simpa using e);exact⟨a,vs,by simpa using h1,au _ h2,D⟩
def PtsOk.getD(h:PtsOk K G W H ps as us)(e:ps[j]?=some (.d d)):∃v,us[j]?=some v/\Rep K H (Ow G W) d v:=by
 induction h generalizing j with
 | nil=>simp at e
 | d q _ ih =>
   cases j with
   | zero=>simp at e;subst e;exact⟨_,rfl,q⟩
   | succ j=>obtain⟨a,h1,h2⟩:=ih (j:=j) (by simpa using e);exact⟨a,by simpa using h1,h2⟩
 | o _ _ _ _ ih =>
   cases j with
   | zero=>simp at e
   | succ j=>obtain⟨a,h1,h2⟩:=ih (j:=j) (by simpa using e);exact⟨a,by simpa using h1,h2⟩
def PtsOk.set(st:Step W H W (upd H a (.lst vs')))(ok:Ok K G H0 W env σ H)(h:PtsOk K G W H ps as us)(nd:as.Nodup)(e:ps[j]?=some (.o ds))(D:us[j]?=some (.ref a))(r:Reps K H (Ow G W) ds' vs') :
  PtsOk K G W (upd H a (.lst vs')) (ps.set j (.o ds')) as us:=by
 induction h generalizing j with
 | nil=>simp at e
 | d q t ih =>
   cases j with
   | zero=>simp at e
   | succ j=>exact .d (ok.rep st q) (ih nd (by simpa using e) (by simpa using D))
 | @o es b vs ps' as' us' hW hl q t ih =>
   cases j with
   | zero =>
     simp at D;subst D;refine .o hW li (ok.reps st r) (t.step (λb vs I D=>⟨(t.own I).1,?_⟩) (λ_ _ r=>ok.rep st r) λ_ _ r=>ok.reps st r);rw[gi (λz:b=_=>by subst z;exact(cq.mp nd).1 I)];exact D
   | succ j =>
     have U:a∈as':=t.parts_iff.mp ⟨j,ds,e,D⟩;have V:b≠a:=λz=>by subst z;exact(cq.mp nd).1 U
     exact .o hW (by rw[gi V];exact hl) (ok.reps st q) (ih (cq.mp nd).2 e D)
variable{b:Expr}
def ztv{b:Addr}(e:ps[j]?=some (.o ds))(h:zr (ps.set j (.o ds')) us b):zr ps us b:=by
 obtain⟨i,es,h1,h2⟩:=h;rcases oj h1 with⟨rfl,_,_⟩ | ⟨_,z⟩
 ·exact⟨j,ds,e,h2⟩
 ·exact⟨i,es,z,h2⟩
variable{r:R2}
def Ok.turnP(ok:Ok K G H0 W env σ H){r:Option Nat}(e:env[i]?=some (some (.ag k r ps)))(s:σ[i]?=some (some (.ref p)))(U:AkOk K H k p us)(V:ps[j]?=some (.o ds))(Y:us[j]?=some (.ref a))(u:Reps K H (Ow G W) ds' vs') :
  Ok K G H0 W (env.set i (some (.ag k r (ps.set j (.o ds'))))) σ (upd H a (.lst vs'))/\Step W H W (upd H a (.lst vs')):=by
 obtain⟨v,D,p',as,Z,rfl,w,nd,x,c,d⟩:=ok.slot i _ e;rw[s] at D;cases D;have:=uv c U.o;subst this;have t:a∈as:=d.parts_iff.mp ⟨j,ds,V,Y⟩;have f:=(d.own t).1;have st:Step W H W (upd H a (.lst vs')):=⟨λb o q n=>by rw[gi (λz:b=a=>n (by rw[z];exact f))];exact q,λb z=>.inl z⟩;have g:p≠a:=λz=>by subst z;exact(cq.mp nd).1 t
 have h:=PtsOk.set st ok d (cq.mp nd).2 V Y u;obtain⟨m,y,A⟩:=U.mo;have I:AkOk K (upd H a (.lst vs')) k p us:=A _ (by rw[gi g];exact y);refine ok.chg (.l vs') e s (.inr ⟨p,us,rfl,U.o,j,ds,V,Y⟩) ⟨p,as,us,rfl,w,nd,x,I,h⟩ λb o=>?_;rcases o with o | ⟨p',Z,z,q,hb⟩
 ·exact .inl o
 ·cases z
  rw[uv I q] at hb;exact .inr ⟨p,us,rfl,U.o,ztv V hb⟩
structure At (X:Cx) (i:Nat) (x:Str):Prop where
 n:X.N[i]?=some x
 v:Vis X.env.scope x
 d:(x==("__debug__" : Str))=false
 c:(x==("__classdict__" : Str))=false
def At.pe(h:At X i x):PE X (.Name x pos) (tVar i):=z11 h.n h.v h.d h.c
structure To (X:Cx) (i:Nat) (x:Str):Prop where
 nd:X.N.Nodup
 n:X.N[i]?=some x
 l:Loc X.env.scope x
 f:X.fn x=true\/X.env.scope.names.lookup x=some .local
structure Bn (X:Cx) (x:Str):Prop where
 g:Gl X x
 m:X.mg x=none
structure Ats (N cs:c3) (X:Cx):Prop where
 n:X.N=N
 get:∀i x,N[i]?=some x->At X i x
 ck:∀u∈cs,X.env.kindOf u=some .cell\/X.env.kindOf u=some .free
structure Tos (N:c3) (X:Cx):Prop where
 to:∀i x,N[i]?=some x->To X i x
variable{N cs:c3}
protected def Ats.a(h:Ats N cs X)(e:N[i]?=some x):At X i x:=h.get i x e
protected def Tos.t(h:Tos N X)(e:N[i]?=some x):To X i x:=h.to i x e
def Ats.nox(h:Ats N cs X):Ats N cs X.nox:=⟨h.n,λi x e=>let z:=h.get i x e;⟨z.n,z.v,z.d,z.c⟩,h.ck⟩
def Tos.nox(h:Tos N X):Tos N X.nox:=⟨λi x e=>let z:=h.to i x e;⟨z.nd,z.n,z.l,z.f⟩⟩
def okN(x:Str):Bool:=!(x==("__debug__" : Str)) && !(x==("__classdict__" : Str))
def qf(h:okN x=true):(x==("__debug__" : Str))=false/\(x==("__classdict__" : Str))=false:=by
 unfold okN at h;rwa [fq,kg,kg] at h
def nc{o:Option NameKind}{k:NameKind}(h:(o==some k)=true):o=some k:=by
 cases o with
 | none=>cases h
 | some a=>cases a <;> cases k <;> first | rfl | cases h
def subN(N:c3)(ix:f0):c3:=ix.map λi=>N.getD i ("" : Str)
def qe(N cs:c3)(ix:f0)(y:Str)(sc:Scope):Bool:=decide ((y::subN N ix).Nodup) && decide (sc.kind=.function) && (sc.names.lookup y==some .local) && decide (∀z∈sc.names,z.2≠.cell) && decide (∀z∈sc.names,z.2=.local->sc.names.lookup z.1=some .local) && decide (∀z∈sc.names,z.2=.free->z.1∈subN N ix) && (subN N ix).all (λu=>(sc.names.lookup u==some .free) && cs.elem u) && (y::subN N ix).all okN
def gl_d(h:X.env.scope.names.lookup x=some .globalImplicit):Gl X x:=h
variable{s:Shared}{C:Addr}
def z23(h:sc.names.lookup x=some .local):Vis (jq X y N' sc cl C s H fp).env.scope x:=.inl (lookup_relabel_local h)
def z24(h:sc.names.lookup x=some .free):Vis (jq X y N' sc cl C s H fp).env.scope x:=.inr (vj h)
def wj(hA:Ats N cs X)(h:qe N cs ix y sc=true):zts X y (subN N ix) ix sc:=by
 unfold qe at h;simp only[fq,decide_eq_true_eq,gn] at h;obtain⟨⟨⟨⟨⟨⟨⟨h1,h2⟩,I⟩,U⟩,V⟩,Y⟩,D⟩,_⟩:=h;exact⟨by rw[hA.n];rfl,h1,h2,nc I,U,V,λz Z a=>hA.ck z.1 (xw (D z.1 (Y z Z a)).2),λu b=>nc (D u b).1⟩
variable{s₂:Shared}{H₂:Hp}
def t5(h:qe N cs ix y sc=true):Ats (y::subN N ix) (subN N ix) (jq X y (subN N ix) sc cl C s₂ H₂ fp):=by
 unfold qe at h;simp only[fq,decide_eq_true_eq,gn] at h;obtain⟨⟨⟨⟨⟨⟨⟨h1,h2⟩,U⟩,Y⟩,Z⟩,a⟩,D⟩,I⟩:=h;refine⟨rfl,λi x e=>⟨e,?_,(qf (I x (bc e))).1,(qf (I x (bc e))).2⟩,λu V=>?_⟩
 ·rcases b7.mp (bc e) with rfl | hm
  ·exact z23 (nc U)
  ·exact z24 (nc (D x hm).1)
 ·exact vj (env:=X.env) (nc (D u V).1)
abbrev FE:=DE0->Option (D×DE0)
abbrev FT:=DE0->Option (Bool×DE0)
abbrev FA:=DE0->Option (g2×DE0)
inductive DP (K:gu) (G:Gd) (H0:Hp) {β:Type} (f:DE0->Option (β×DE0)) (P:(Addr->Prop)->DE0->β->DE0->Prop) (σ:St) (H:Hp):Prop
 | mk (W:Addr->Prop) (env:DE0) (d:β) (env':DE0) (ok:Ok K G H0 W env σ H) (q:f env=some (d,env')) (k:P W env d env'):DP K G H0 f P σ H
def tD(K:gu)(G:Gd)(H0:Hp)(f:FE):TE:=λσ H Q=>DP K G H0 f (λW env d env' =>
 ∀W' v H',Step W H W' H'->Ok K G H0 W' env' σ H'->Rep K H' (Ow G W') d v->Q v H') σ H
def tDT(K:gu)(G:Gd)(H0:Hp)(f:FT):TT:=λσ H Q=>DP K G H0 f (λW env b env' =>
 ∀W' H',Step W H W' H'->Ok K G H0 W' env' σ H'->Q b H') σ H
def tDA(K:gu)(G:Gd)(H0:Hp)(f:FA):TA:=λσ H Q=>DP K G H0 f (λW env ds env' =>
 ∀W' vs H',Step W H W' H'->Ok K G H0 W' env' σ H'->Reps K H' (Ow G W') ds vs->Q vs H') σ H
def tDF(K:gu)(G:Gd)(H0:Hp)(f:FA):TE:=λσ H Q=>DP K G H0 f (λW env ds env' =>
 ∀W' l vs H',Step W H (addW W' l) H'->Ok K G H0 W' env' σ H'->Ok K G H0 (addW W' l) env' σ H'->¬W' l->H' l=some (.lst vs)->Reps K H' (Ow G (addW W' l)) ds vs->Q (.ref l) H') σ H
structure DEx (X:Cx) (G:Gd) (H0:Hp) (e:Expr) (f:FE):Prop where
 out:PE X e (tD X.K G H0 f)
structure DTx (X:Cx) (G:Gd) (H0:Hp) (e:Expr) (f:FT):Prop where
 out:PT X e (tDT X.K G H0 f)
structure DAx (X:Cx) (G:Gd) (H0:Hp) (es:gp) (f:FA):Prop where
 out:PA X es (tDA X.K G H0 f)
structure DFx (X:Cx) (G:Gd) (H0:Hp) (e:Expr) (f:FA):Prop where
 out:PE X e (tDF X.K G H0 f)
variable{e:Expr}{t:TE}
def PE.imp{t':TE}(h:PE X e t)(i:∀σ H Q,t' σ H Q->t σ H Q):PE X e t':=λpins s σ H Q I q=>h pins s σ H Q I (i σ H Q q)
def PT.imp{t t':TT}(h:PT X e t)(i:∀σ H Q,t' σ H Q->t σ H Q):PT X e t':=λpins s σ H Q I q=>h pins s σ H Q I (i σ H Q q)
def PA.imp{e:gp}{t t':TA}(h:PA X e t)(i:∀σ H Q,t' σ H Q->t σ H Q):PA X e t':=λpos pins s σ H Q I q=>h pos pins s σ H Q I (i σ H Q q)
@[simp] noncomputable def fVar(i:Nat):FE:=λe=>match e[i]? with
 | some (some (.sh d))=>some (d,e)
 | some (some (.ow ds))=>some (.lst ds,e.set i (some (.sh (.lst ds))))
 | some (some (.o2 dss))=>some (.lst (dss.map D.lst),e.set i (some (.sh (.lst (dss.map D.lst)))))
 | _=>none
@[simp] noncomputable def fC(d:D):FE:=λe=>some (d,e)
@[simp] noncomputable def fBin(op:D->D->g3)(f g:FE):FE:=λe=>(f e).bind λr=>(g r.2).bind λq=>(op r.1 q.1).map λd=>(d,q.2)
@[simp] noncomputable def fUn(op:D->g3)(f:FE):FE:=λe=>(f e).bind λr=>(op r.1).map λd=>(d,r.2)
@[simp] noncomputable def fAnd(f g:FT):FT:=λe=>(f e).bind λr=>if r.1=true then g r.2 else some (false,r.2)
@[simp] noncomputable def fOr(f g:FT):FT:=λe=>(f e).bind λr=>if r.1=true then some (true,r.2) else g r.2
@[simp] noncomputable def fNot(f:FT):FT:=λe=>(f e).map λr=>(!r.1,r.2)
@[simp] noncomputable def fTst(f:FE):FT:=λe=>(f e).bind λr=>match r.1 with | .bl b=>some (b,r.2) | _=>none
@[simp] noncomputable def vz(f g:FE):FE:=λe=>(f e).bind λr=>match r.1 with | .bl true=>g r.2 | .bl false=>some (.bl false,r.2) | _=>none
@[simp] noncomputable def zz7(f:FE):FE:=λe=>(f e).bind λr=>match r.1 with | .bl b=>some (.bl (!b),r.2) | _=>none
@[simp] noncomputable def fNil:FA:=λe=>some ([],e)
@[simp] noncomputable def bz(f:FE)(g:FA):FA:=λe=>(f e).bind λr=>(g r.2).bind λq=>some (r.1::q.1,q.2)
@[simp] noncomputable def fTup(g:FA):FE:=λe=>(g e).bind λr=>if r.1.length<=64 then some (.tup r.1,r.2) else none
@[simp] noncomputable def il(g:FA):FA:=λe=>(g e).bind λr=>if r.1.length<=64 then some (r.1,r.2) else none
@[simp] noncomputable def fLst(g:FA):FE:=λe=>(g e).map λr=>(.lst r.1,r.2)
@[simp] noncomputable def h9:D->D->g3 | .int i,.int j=>some (.int (i+j)) | _,_=>none
@[simp] noncomputable def dSub:D->D->g3 | .int i,.int j=>some (.int (i-j)) | _,_=>none
def ln(i:Int):Prop:=-(2 ^ 64)<i/\i<2 ^ 64
noncomputable instance (i:Int):Decidable (ln i):=Classical.propDecidable _
def Few(n:Nat):Prop:=n<=2 ^ 20
noncomputable instance (n:Nat):Decidable (Few n):=Classical.propDecidable _
def Bnd(lo hi i:Int):Prop:=lo<=i/\i<hi
noncomputable instance (lo hi i:Int):Decidable (Bnd lo hi i):=Classical.propDecidable _
def dMul:D->D->g3 | .int i,.int j=>if ln i\/ln j then some (.int (i*j)) else none | _,_=>none
def dMod:D->D->g3 | .int i,.int j=>if 0<j then some (.int (i % j)) else none | _,_=>none
def dDiv:D->D->g3 | .int i,.int j=>if Bnd 1 1073741824 j then some (.int (i / j)) else none | _,_=>none
@[simp] noncomputable def dNeg:D->g3 | .int i=>some (.int (-i)) | _=>none
@[simp] noncomputable def dLt:D->D->g3 | .int i,.int j=>some (.bl (decide (i<j))) | _,_=>none
@[simp] noncomputable def dGt:D->D->g3 | .int i,.int j=>some (.bl (decide (j<i))) | _,_=>none
@[simp] noncomputable def dGe:D->D->g3 | .int i,.int j=>some (.bl (decide (j<=i))) | _,_=>none
@[simp] noncomputable def dEq:D->D->g3
 | .int i,.int j=>some (.bl (decide (i=j))) | .str i,.str j=>some (.bl (decide (i=j))) | .bl i,.bl j=>some (.bl (decide (i=j))) | _,_=>none
@[simp] noncomputable def dNe:D->D->g3
 | .int i,.int j=>some (.bl (!decide (i=j))) | .str i,.str j=>some (.bl (!decide (i=j))) | .bl i,.bl j=>some (.bl (!decide (i=j))) | _,_=>none
@[simp] noncomputable def dIx:D->D->g3 | .tup ds,.int i=>atI ds i | .lst ds,.int i=>atI ds i | _,_=>none
def OpD(X:Cx)(G:Gd)(H0:Hp)(r:R2)(op:D->D->g3):Prop :=
 ∀W env σ H x y d1 d2 d (Q:VK),Ok X.K G H0 W env σ H->Rep X.K H (Ow G W) d1 x->Rep X.K H (Ow G W) d2 y->op d1 d2=some d ->
  (∀v H',Step W H W H'->Ok X.K G H0 W env σ H'->Rep X.K H' (Ow G W) d v->Q v H')->r x y H Q
variable{g:FE}{op:D->D->g3}
def x9(Y:OpD X G H0 r op):∀σ H Q,tD X.K G H0 (fBin op f g) σ H Q->tOp r (tD X.K G H0 f) (tD X.K G H0 g) σ H Q:=by
 rintro σ H Q ⟨W,env,d,env',ok,e,k⟩;cases e1:f env with
 | none=>simp[e1] at e
 | some r1 =>
   cases e2:g r1.2 with
   | none=>simp[e1,e2] at e
   | some r2 =>
     have e:(op r1.1 r2.1).map (λd=>(d,r2.2))=some (d,env'):=by simpa[fBin,e1,e2] using e
     cases e3:op r1.1 r2.1 with
     | none=>rw[e3] at e;cases e
     | some d' =>
       rw[e3] at e;have Z:(d',r2.2)=(d,env'):=bh e;cases Z;refine⟨W,env,r1.1,r1.2,ok,e1,λW1 v1 H1 a D p1=>⟨W1,r1.2,r2.1,r2.2,D,e2,λV v2 H2 s2 I p2=>?_⟩⟩;exact Y V _ σ H2 v1 v2 _ _ _ Q I (D.rep s2 p1) p2 e3 λv b c U h=>k V v b ((a.trans s2).trans c) U h
variable{a:Expr}{p:D->D->g3}
def yd{op:Operator}(D:OpR X (binaryOp op) r)(hd:OpD X G H0 r p)(I:DEx X G H0 a f)(U:DEx X G H0 b g):DEx X G H0 (.BinOp a op b pos) (fBin p f g) :=
 ⟨(zzp D I.out U.out).imp (x9 hd)⟩
def zyo{op:CmpOp}(D:OpR X (compareOp op) r)(hd:OpD X G H0 r p)(I:DEx X G H0 a f)(U:DEx X G H0 b g)(V:behindInMarks op b=false):DEx X G H0 (.Compare a [op] [b] pos) (fBin p f g) :=
 ⟨(zzr D I.out U.out V).imp (x9 hd)⟩
def z25(D:IxR X r)(hd:OpD X G H0 r p)(I:DEx X G H0 a f)(U:DEx X G H0 b g)(V:wn b):DEx X G H0 (.Subscript a b pos) (fBin p f g) :=
 ⟨(zt D I.out U.out V).imp (x9 hd)⟩
def z26(h:∀σ H Q,tD X.K G H0 f σ H Q->t σ H Q):∀σ H Q,tDT X.K G H0 (fTst f) σ H Q->z2q t σ H Q:=by
 rintro σ H Q ⟨W,env,b,env',ok,e,k⟩;refine h σ H _ ?_;cases e1:f env with
 | none=>simp[e1] at e
 | some r1 =>
   obtain⟨d,D⟩:=r1;cases d with
   | bl b' =>
     have e:some (b',D)=some (b,env'):=by simpa[fTst,e1] using e
     cases e;exact⟨W,env,_,_,ok,e1,λW1 v1 H1 U I p1=>⟨_,p1.bl_,k W1 H1 U I⟩⟩
   | _=>simp[e1] at e
def yc{op:CmpOp}(D:OpR X (compareOp op) r)(hd:OpD X G H0 r p)(I:DEx X G H0 a f)(U:DEx X G H0 b g)(V:behindInMarks op b=false):DTx X G H0 (.Compare a [op] [b] pos) (fTst (fBin p f g)) :=
 ⟨(zzs D I.out U.out V).imp (z26 (x9 hd))⟩
variable{g:Int->Int->Int}
def od_I{C:Int->Int->Prop}(h:∀D I d,op D I=some d->∃i j,D=.int i/\I=.int j/\C i j/\d=.int (g i j)):OpD X G H0 (rI C λi j=>.int (g i j)) op:=by
 intro W env σ H x y D I d Q ok p1 p2 e k;obtain⟨i,j,rfl,rfl,U,rfl⟩:=h _ _ _ e;exact⟨i,j,p1.int_,p2.int_,U,k _ H Step.refl ok (.int _)⟩
def z27(h:∀D I d,op D I=some d->∃i j,D=.int i/\I=.int j/\d=.int (g i j)):OpD X G H0 (rI0 λi j=>.int (g i j)) op:=by
 intro W env σ H x y D I d Q ok p1 p2 e k;obtain⟨i,j,rfl,rfl,rfl⟩:=h _ _ _ e;exact⟨i,j,p1.int_,p2.int_,k _ H Step.refl ok (.int _)⟩
variable{g:FE}
def zz8{g:Int->Int->Bool}(h:∀D I d,op D I=some d->∃i j,D=.int i/\I=.int j/\d=.bl (g i j)):OpD X G H0 (rI0 λi j=>.bl (g i j)) op:=by
 intro W env σ H x y D I d Q ok p1 p2 e k;obtain⟨i,j,rfl,rfl,rfl⟩:=h _ _ _ e;exact⟨i,j,p1.int_,p2.int_,k _ H Step.refl ok (.bl _)⟩
def z28:OpD X G H0 (rI0 λi j=>.int (i+j)) h9:=z27 λD I d e=>by
 cases D <;> try (cases e;done)
 all_goals cases I <;> first | (cases e;done) | exact⟨_,_,rfl,rfl,(bh e).symm⟩
def z29:OpD X G H0 (rI0 λi j=>.int (i-j)) dSub:=z27 λD I d e=>by
 cases D <;> try (cases e;done)
 all_goals cases I <;> first | (cases e;done) | exact⟨_,_,rfl,rfl,(bh e).symm⟩
def z3a:OpD X G H0 (rI CMul λi j=>.int (i*j)) dMul:=od_I λD I d e=>by
 cases D <;> try (cases e;done)
 all_goals cases I <;> first
  | (cases e;done)
  | (rename_i i j
     by_cases h:ln i\/ln j
     ·simp only[dMul,if_pos h] at e;exact⟨_,_,rfl,rfl,h,(bh e).symm⟩
     ·simp only[dMul,if_neg h] at e;cases e)
def z3b:OpD X G H0 (rI (λ_ j=>0<j) λi j=>.int (i % j)) dMod:=od_I λD I d e=>by
 cases D <;> try (cases e;done)
 all_goals cases I <;> first
  | (cases e;done)
  | (rename_i i j
     by_cases h:0<j
     ·simp only[dMod,if_pos h] at e;exact⟨_,_,rfl,rfl,h,(bh e).symm⟩
     ·simp only[dMod,if_neg h] at e;cases e)
theorem z3c:OpD X G H0 (rI CDiv λi j=>.int (i / j)) dDiv:=od_I λD I d e=>by
 cases D <;> try (cases e;done)
 all_goals cases I <;> first
  | (cases e;done)
  | (rename_i i j
     by_cases h:Bnd 1 1073741824 j
     ·simp only[dDiv,if_pos h] at e;exact⟨_,_,rfl,rfl,⟨by have:=h.1;lia,h.2⟩,(bh e).symm⟩
     ·simp only[dDiv,if_neg h] at e;cases e)
def z5k:OpD X G H0 (rI0 λi j=>.bl (decide (i<j))) dLt:=zz8 λD I d e=>by
 cases D <;> try (cases e;done)
 all_goals cases I <;> first | (cases e;done) | exact⟨_,_,rfl,rfl,(bh e).symm⟩
def z3d:OpD X G H0 (rI0 λi j=>.bl (decide (j<i))) dGt:=zz8 λD I d e=>by
 cases D <;> try (cases e;done)
 all_goals cases I <;> first | (cases e;done) | exact⟨_,_,rfl,rfl,(bh e).symm⟩
def z5l:OpD X G H0 (rI0 λi j=>.bl (decide (j<=i))) dGe:=zz8 λD I d e=>by
 cases D <;> try (cases e;done)
 all_goals cases I <;> first | (cases e;done) | exact⟨_,_,rfl,rfl,(bh e).symm⟩
def zyp(i j:Int):decide (V.int i=V.int j)=decide (i=j):=by simp
def zyq(i j:Str):decide (V.str i=V.str j)=decide (i=j):=by simp
def z3e(i j:Bool):decide (V.bl i=V.bl j)=decide (i=j):=by simp
def z3f:OpD X G H0 rEq dEq:=by
 intro W env σ H x y D I d Q ok p1 p2 e k;cases D <;> try (cases e;done)
 all_goals cases I <;> first
  | (cases e;done)
  | (cases p1.int_;cases p2.int_;cases e;refine⟨rfl,?_⟩;rw[zyp];exact k _ H Step.refl ok (.bl _))
  | (cases p1.str_;cases p2.str_;cases e;refine⟨rfl,?_⟩;rw[zyq];exact k _ H Step.refl ok (.bl _))
  | (cases p1.bl_;cases p2.bl_;cases e;refine⟨rfl,?_⟩;rw[z3e];exact k _ H Step.refl ok (.bl _))
def z5m:OpD X G H0 rNe dNe:=by
 intro W env σ H x y D I d Q ok p1 p2 e k;cases D <;> try (cases e;done)
 all_goals cases I <;> first
  | (cases e;done)
  | (cases p1.int_;cases p2.int_;cases e;refine⟨rfl,?_⟩;rw[zyp];exact k _ H Step.refl ok (.bl _))
  | (cases p1.str_;cases p2.str_;cases e;refine⟨rfl,?_⟩;rw[zyq];exact k _ H Step.refl ok (.bl _))
  | (cases p1.bl_;cases p2.bl_;cases e;refine⟨rfl,?_⟩;rw[z3e];exact k _ H Step.refl ok (.bl _))
def wg{i:Int}(r:Reps K H O ds vs)(h:atI ds i=some d):∃v,atI vs i=some v/\Rep K H O d v:=by
 unfold atI at h ⊢;rw[<-r.length];cases q:ixN ds.length i with
 | none=>rw[q] at h;cases h
 | some j=>rw[q] at h;exact r.get h
def z5n:OpD X G H0 (rIx X.K) dIx:=by
 intro W env σ H x y U V d Q ok p1 p2 e k;cases U <;> first
  | (cases e;done)
  | (cases V <;> first
      | (cases e;done)
      | (cases p2
         first
          | (obtain⟨a, vs, rfl, h, r⟩ := p1.tup_
             obtain⟨v,D,I⟩:=wg r e;exact .inr (.inl ⟨a,vs,_,v,rfl,rfl,SqT.of h,D,k _ H Step.refl ok I⟩))
          | (obtain⟨a, vs, rfl, h, r⟩ := p1.lst_
             obtain⟨v,D,I⟩:=wg r e;exact .inl ⟨a,vs,_,v,rfl,rfl,h.sq,D,k _ H Step.refl ok I⟩)))
def kr(D:DEx X G H0 a f)(I:DEx X G H0 b g):DEx X G H0 (.BinOp a .Add b pos) (fBin h9 f g):=yd z2k z28 D I
def lf(D:DEx X G H0 a f)(I:DEx X G H0 b g):DEx X G H0 (.BinOp a .Sub b pos) (fBin dSub f g):=yd z2l z29 D I
def oh(D:DEx X G H0 a f)(I:DEx X G H0 b g):DEx X G H0 (.BinOp a .Mult b pos) (fBin dMul f g):=yd z2m z3a D I
def p4(D:DEx X G H0 a f)(I:DEx X G H0 b g):DEx X G H0 (.BinOp a .Mod b pos) (fBin dMod f g):=yd z2n z3b D I
def wd(D:DEx X G H0 a f)(I:DEx X G H0 b g):DEx X G H0 (.BinOp a .FloorDiv b pos) (fBin dDiv f g):=yd zzq z3c D I
def z5o(D:DEx X G H0 a f)(I:DEx X G H0 b g):DEx X G H0 (.Compare a [.Gt] [b] pos) (fBin dGt f g):=zyo z2p z3d D I (uz _)
def z5p(D:DEx X G H0 a f)(I:DEx X G H0 b g):DEx X G H0 (.Compare a [.Eq] [b] pos) (fBin dEq f g):=zyo z2o z3f D I (uz _)
def n8(D:DEx X G H0 a f)(I:DEx X G H0 b g):DTx X G H0 (.Compare a [.Lt] [b] pos) (fTst (fBin dLt f g)):=yc z5f z5k D I (uz _)
def o0(D:DEx X G H0 a f)(I:DEx X G H0 b g):DTx X G H0 (.Compare a [.Gt] [b] pos) (fTst (fBin dGt f g)):=yc z2p z3d D I (uz _)
def zz9(D:DEx X G H0 a f)(I:DEx X G H0 b g):DTx X G H0 (.Compare a [.GtE] [b] pos) (fTst (fBin dGe f g)):=yc z5g z5l D I (uz _)
def zp(D:DEx X G H0 a f)(I:DEx X G H0 b g):DTx X G H0 (.Compare a [.Eq] [b] pos) (fTst (fBin dEq f g)):=yc z2o z3f D I (uz _)
def tw(ha:DEx X G H0 a f)(hb:DEx X G H0 b g):DTx X G H0 (.Compare a [.NotEq] [b] pos) (fTst (fBin dNe f g)):=yc z5e z5m ha hb (uz _)
def pq(D:DEx X G H0 a f)(I:DEx X G H0 b g)(U:wn b:=by intro _ _;rfl):DEx X G H0 (.Subscript a b pos) (fBin dIx f g):=z25 ztm z5n D I U
def cb{Nn Cn:c3}(an:Ats Nn Cn X)(U:Nn[i]?=some x:=by rfl):DEx X G H0 (.Name x pos) (fVar i):=⟨((an.a U).pe).imp λσ H Q V=>by
 obtain⟨W,env,d,env',ok,e,k⟩:=V;unfold fVar at e;cases q:env[i]? with
 | none=>rw[q] at e;cases e
 | some o =>
   cases o with
   | none=>rw[q] at e;cases e
   | some sl =>
     cases sl with
     | sh d' =>
       rw[q] at e;cases e;obtain⟨v,I,r⟩:=ok.slot i _ q;exact⟨v,I,k W v H Step.refl ok r⟩
     | ow ds =>
       rw[q] at e;cases e;obtain⟨W',v,I,st,D,r⟩:=ok.share q;exact⟨v,I,k W' v H st D r⟩
     | o2 dss =>
       rw[q] at e;cases e;obtain⟨W',v,I,st,D,r⟩:=ok.share2 q;exact⟨v,I,k W' v H st D r⟩
     | ag _ _ _=>rw[q] at e;cases e
     | al _ _=>rw[q] at e;cases e
     | ro _ _=>rw[q] at e;cases e⟩
def de_c(h:PE X e (tC v))(r:∀H O,Rep X.K H O d v):DEx X G H0 e (fC d):=⟨h.imp λσ H Q D=>by
 obtain⟨W,env,d',env',ok,q,k⟩:=D;cases q;exact k W v H Step.refl ok (r _ _)⟩
def dw{i:Int}:DEx X G H0 (.Constant (.int i) j pos) (fC (.int i)):=de_c zs2 λ_ _=>.int _
def mw{i:Bool}:DEx X G H0 (.Constant (.bool i) j pos) (fC (.bl i)):=de_c z44 λ_ _=>.bl _
def z9{i:Str}:DEx X G H0 (.Constant (.str i) j pos) (fC (.str i)):=de_c zyf λ_ _=>.str _
def ztx(V:DEx X G H0 a f):DEx X G H0 (.UnaryOp .USub a pos) (fUn dNeg f):=⟨(z2j zyj V.out).imp λσ H Q Y=>by
 obtain⟨W,env,d',env',ok,q,k⟩:=Y;cases e1:f env with
 | none=>simp[e1] at q
 | some r =>
   obtain⟨d,I⟩:=r;cases d with
   | int i =>
     have q:some (D.int (-i),I)=some (d',env'):=by simpa[fUn,e1,dNeg] using q
     cases q;exact⟨W,env,_,_,ok,e1,λW1 v1 H1 Z U p1=>⟨i,p1.int_,k W1 _ H1 Z U (.int _)⟩⟩
   | _=>simp[e1] at q⟩
section
variable {X:Cx} {G:Gd} {H0:Hp} {a b c e:Expr} {es rest:gp} {f g:FE} {F:FA} {p q:FT} {pos:Pos}
structure DWx (X:Cx) (G:Gd) (H0:Hp) (e:Expr) (f:FT):Prop where
 out:PW X e (tDT X.K G H0 f)
def PW.imp{X:Cx}{e:Expr}{t t':TT}(h:PW X e t)(i:∀σ H Q,t' σ H Q->t σ H Q):PW X e t':=λw pins s σ H Q I q=>h w pins s σ H Q I (i σ H Q q)
def dt_w(h:DWx X G H0 e p):DTx X G H0 e p:=⟨PW.pt h.out⟩
def zl9(h:DTx X G H0 a p):DWx X G H0 (.BoolOp .And [a] pos) p:=⟨zzk h.out⟩
def r8(h:DTx X G H0 a p):DWx X G H0 (.BoolOp .Or [a] pos) p:=⟨z13 h.out⟩
def z8(h:DTx X G H0 a p)(h2:DWx X G H0 (.BoolOp .And (b::rest) pos) q):DWx X G H0 (.BoolOp .And (a::b::rest) pos) (fAnd p q):=⟨(z14 h.out h2.out).imp λσ H Q Y=>by
 obtain⟨W,env,d,env',ok,e,k⟩:=Y;cases e1:p env with
 | none=>simp[e1] at e
 | some r =>
   obtain⟨t,D⟩:=r;refine⟨W,env,t,D,ok,e1,λW1 H1 V I=>?_⟩;cases t with
   | true =>
     exact⟨W1,D,d,env',I,by simpa[fAnd,e1] using e,λZ H2 s2 U=>k Z H2 (V.trans s2) U⟩
   | false =>
     have e:some (false,D)=some (d,env'):=by simpa[fAnd,e1] using e
     cases e;exact k W1 H1 V I⟩
def pk(h:DTx X G H0 a p)(h2:DWx X G H0 (.BoolOp .Or (b::rest) pos) q):DWx X G H0 (.BoolOp .Or (a::b::rest) pos) (fOr p q):=⟨(z45 h.out h2.out).imp λσ H Q Y=>by
 obtain⟨W,env,d,env',ok,e,k⟩:=Y;cases e1:p env with
 | none=>simp[e1] at e
 | some r =>
   obtain⟨t,D⟩:=r;refine⟨W,env,t,D,ok,e1,λW1 H1 V I=>?_⟩;cases t with
   | false =>
     exact⟨W1,D,d,env',I,by simpa[fOr,e1] using e,λZ H2 s2 U=>k Z H2 (V.trans s2) U⟩
   | true =>
     have e:some (true,D)=some (d,env'):=by simpa[fOr,e1] using e
     cases e;exact k W1 H1 V I⟩
def o6(h:DTx X G H0 a p):DTx X G H0 (.UnaryOp .Not a pos) (fNot p):=⟨(z15 h.out).imp λσ H Q I=>by
 obtain⟨W,env,d,env',ok,e,k⟩:=I;cases e1:p env with
 | none=>simp[e1] at e
 | some r =>
   have e:some (!r.1,r.2)=some (d,env'):=by simpa[fNot,e1] using e
   cases e;exact⟨W,env,_,_,ok,e1,λW1 H1 U D=>k W1 H1 U D⟩⟩
def og(h:DEx X G H0 a f)(D:∀whole,isTrue a X.env whole=(do let v <-whole;standAt a.pos;holding [v] (truthy v)):=by intro _;rfl):DTx X G H0 a (fTst f):=⟨(z12 h.out D).imp (z26 λ_ _ _ z=>z)⟩
def zyr{op:BoolOp}(h:DEx X G H0 a f):DEx X G H0 (.BoolOp op [a] pos) f:=⟨z16 h.out⟩
def zys(h:DEx X G H0 a f)(h2:DEx X G H0 (.BoolOp .And (b::rest) pos) g):DEx X G H0 (.BoolOp .And (a::b::rest) pos) (vz f g):=⟨(z17 h.out h2.out).imp λσ H Q Z=>by
 obtain⟨W,env,d,env',ok,e,k⟩:=Z;cases e1:f env with
 | none=>simp[e1] at e
 | some r =>
   obtain⟨t,I⟩:=r;refine⟨W,env,t,I,ok,e1,λW1 v1 H1 Y U p1=>?_⟩;cases t with
   | bl t =>
     refine⟨t,p1.bl_,?_⟩;cases t with
     | true =>
       exact⟨W1,I,d,env',U,by simpa[vz,e1] using e,λc v2 H2 s2 V p2=>k c v2 H2 (Y.trans s2) V p2⟩
     | false =>
       have e:some (D.bl false,I)=some (d,env'):=by simpa[vz,e1] using e
       cases e;exact k W1 _ H1 Y U (.bl _)
   | _=>simp[e1] at e⟩
def z3g(h:DEx X G H0 a f):DEx X G H0 (.UnaryOp .Not a pos) (zz7 f):=⟨(z18 h.out).imp λσ H Q V=>by
 obtain⟨W,env,d,env',ok,e,k⟩:=V;cases e1:f env with
 | none=>simp[e1] at e
 | some r =>
   obtain⟨t,I⟩:=r;refine⟨W,env,t,I,ok,e1,λW1 v1 H1 Y U p1=>?_⟩;cases t with
   | bl t =>
     have e:some (D.bl (!t),I)=some (d,env'):=by simpa[zz7,e1] using e
     cases e;exact⟨t,p1.bl_,k W1 _ H1 Y U (.bl _)⟩
   | _=>simp[e1] at e⟩
def dm  : DAx X G H0 [] fNil:=⟨qg.imp λσ H Q D=>by
 obtain⟨W,env,ds,env',ok,e,k⟩:=D;cases e;exact k W [] H Step.refl ok .nil⟩
def cw(V:DEx X G H0 e f)(Y:DAx X G H0 es F)(Z:starEach (e::es) X.env=(false,eval e X.env)::starEach es X.env:=by rfl):DAx X G H0 (e::es) (bz f F):=⟨(o8 V.out Y.out Z).imp λσ H Q a=>by
 obtain⟨W,env,ds,env',ok,q,k⟩:=a;cases e1:f env with
 | none=>simp[e1] at q
 | some r =>
   obtain⟨d,D⟩:=r;cases e2:F D with
   | none=>simp[e1,e2] at q
   | some r2 =>
     have q:some (d::r2.1,r2.2)=some (ds,env'):=by simpa[bz,e1,e2] using q
     cases q;exact⟨W,env,d,D,ok,e1,λW1 v1 H1 b I p1=>⟨W1,D,_,_,I,e2,λc vs H2 s2 U p2=>k c _ H2 (b.trans s2) U (.cons (I.rep s2 p1) p2)⟩⟩⟩
def le64{n:Nat}(h:n<=64):n<=sizeLine:=b8 h (by rw[sizeLine_eq];decide)
def lx{k1}(h:DAx X G H0 es F):DEx X G H0 (.Tuple es k1 pos) (fTup F):=⟨(z2t h.out).imp λσ H Q Y=>by
 obtain⟨W,env,d,env',ok,q,k⟩:=Y;cases e1:F env with
 | none=>simp[e1] at q
 | some r =>
   obtain⟨ds,I⟩:=r;by_cases V:ds.length<=64
   ·have q:some (D.tup ds,I)=some (d,env'):=by simpa[fTup,e1,V] using q
    cases q;refine⟨W,env,ds,_,ok,e1,λW1 vs H1 Z U p1=>⟨by rw[<-p1.length];exact le64 V,λl a=>?_⟩⟩;have sm:Same H1 (upd H1 l (.tup vs)):=yq a;have st:Step W1 H1 W1 (upd H1 l (.tup vs)):=Step.same sm;exact k W1 _ _ (Z.trans st) (U.same sm) (.tup li (U.reps st p1))
   ·simp[e1,V] at q⟩
def qk{W:Addr->Prop}{env:DE0}{σ:St}{H:Hp}{l:Addr}{vs:g0}{ds:g2}(ok:Ok X.K G H0 W env σ H)(r:Reps X.K H (Ow G W) ds vs)(I:H l=none) :
  Step W H (addW W l) (upd H l (.lst vs))/\Ok X.K G H0 W env σ (upd H l (.lst vs))/\Ok X.K G H0 (addW W l) env σ (upd H l (.lst vs))/\¬W l/\upd H l (.lst vs) l=some (.lst vs)/\Reps X.K (upd H l (.lst vs)) (Ow G (addW W l)) ds vs:=by
 have sm:Same H (upd H l (.lst vs)):=yq I;obtain⟨h1,h2,U,Y,Z⟩:=ok.fresh (l:=l) (vs:=vs) (ds:=ds) sm I li ((r.mono (O':=λa=>(Ow G W a\/H a=none)/\a≠l) (λ_ _ h=>sm _ _ h) λa us o h=>⟨⟨.inl o,λz=>by
  subst z;have h2:Rd H a (.lst us):=h;rcases h2 with h2 | ⟨_,h2⟩ <;> rw[I] at h2 <;> cases h2⟩,h.keep λo e=>sm _ o e⟩))
 exact⟨Z,ok.same sm,U,h1,li,Y⟩
def lc(h:DAx X G H0 es F):DFx X G H0 (.List es pos) (il F):=⟨(z2u h.out).imp λσ H Q V=>by
 obtain⟨W,env,d,env',ok,q,k⟩:=V;cases e1:F env with
 | none=>simp[e1] at q
 | some r =>
   obtain⟨ds,D⟩:=r;by_cases I:ds.length<=64
   ·have q:some (ds,D)=some (d,env'):=by simpa[il,e1,I] using q
    cases q;refine⟨W,env,_,_,ok,e1,λW1 vs H1 Y U p1=>⟨by rw[<-p1.length];exact le64 I,λl Z=>?_⟩⟩;obtain⟨h1,h2,a,b,c,e⟩:=qk U p1 Z;exact k W1 l vs _ (Y.trans h1) h2 a b c e
   ·simp[e1,I] at q⟩
def j8(h:DFx X G H0 e F):DEx X G H0 e (fLst F):=⟨h.out.imp λσ H Q Y=>by
 obtain⟨W,env,d,env',ok,q,k⟩:=Y;cases e1:F env with
 | none=>simp[e1] at q
 | some r =>
   have q:some (D.lst r.1,r.2)=some (d,env'):=by simpa[fLst,e1] using q
   cases q;refine⟨W,env,_,_,ok,e1,λW1 l vs H1 V I U Z b c=>k W1 _ H1 ⟨V.keep,λa z=>V.ws a (.inl z)⟩ I (.lst ⟨I.good l (U.wl l (.inr rfl)).1,Z⟩ (.inl b) (c.mono (λ_ _ h=>h) λa us o h=>⟨⟨o.1,λz=>o.2 (.inl z)⟩,h⟩))⟩⟩
def Cal(P:Program)(w:World)(K:gu)(mg:Str->fg)(base:Heap)(CX:CXT)(x:Str)(k:Nat)(sp:Sp):Prop :=
 ∃fa fd ps,FnOk P w K mg base CX k fa fd ps sp/\mg x=some (.ref fa)/\PySem.W.keepIn K (.ref fa)=true/\Binds K fd ps []/\(x==("__debug__" : Str))=false
def dSp(K:gu)(m:g2->g3):Sp:=λvs H Q _=>∃O ds d,Reps K H O ds vs/\m ds=some d/\∀v H',Same H H'->Rep K H' (λa=>O a\/H a=none) d v->Q v H'
def fSp(K:gu)(m:g2->Option g2):Sp:=λvs H Q _=>∃O ds I,Reps K H O ds vs/\m ds=some I/\∀l us H',Same H H'->H l=none->H' l=some (.lst us)->Reps K H' (λa=>(O a\/H a=none)/\a≠l) I us->Q (.ref l) H'
@[simp] noncomputable def er(m:g2->g3)(F:FA):FE:=λe=>(F e).bind λr=>(m r.1).map λd=>(d,r.2)
@[simp] noncomputable def gz(m:g2->Option g2)(F:FA):FA:=λe=>(F e).bind λr=>(m r.1).map λd=>(d,r.2)
def z3h{m:g2->g3}{E:XK}:∀σ H Q,tD X.K G H0 (er m F) σ H Q->zu (dSp X.K m) [] E (tDA X.K G H0 F) σ H Q:=λσ H Q V=>by
 obtain⟨W,env,d,env',ok,q,k⟩:=V;cases e1:F env with
 | none=>simp[e1] at q
 | some r =>
   obtain⟨ds,U⟩:=r;cases e2:m ds with
   | none=>simp[e1,e2] at q
   | some d' =>
     have q:some (d',U)=some (d,env'):=by simpa[er,e1,e2] using q
     cases q;refine⟨W,env,ds,_,ok,e1,λW1 vs H1 Y I p1=>?_⟩;show dSp X.K m (vs++[]) H1 Q E;rw[cr];refine⟨Ow G W1,ds,_,p1,e2,λv H2 sm Z=>?_⟩;refine k W1 v H2 (Y.trans (Step.same sm)) (I.same sm) (Z.mono (λ_ _ h=>h) λa us o h=>⟨?_,h⟩);rcases o with o | o
     ·exact o
     ·exact⟨I.good a (I.stay.free o),λz=>by obtain⟨_,us,q⟩:=I.wl a z;rw[o] at q;cases q⟩
def z0a{m:g2->Option g2}{E:XK}:∀σ H Q,tDF X.K G H0 (gz m F) σ H Q->zu (fSp X.K m) [] E (tDA X.K G H0 F) σ H Q:=λσ H Q Y=>by
 obtain⟨W,env,d,env',ok,q,k⟩:=Y;cases e1:F env with
 | none=>simp[e1] at q
 | some r =>
   obtain⟨ds,I⟩:=r;cases e2:m ds with
   | none=>simp[e1,e2] at q
   | some d' =>
     have q:some (d',I)=some (d,env'):=by simpa[gz,e1,e2] using q
     cases q;refine⟨W,env,ds,_,ok,e1,λW1 vs H1 Z U p1=>?_⟩;show fSp X.K m (vs++[]) H1 Q E;rw[cr];refine⟨Ow G W1,ds,_,p1,e2,λl us H2 sm a V b=>?_⟩;obtain⟨h1,h2,c,e,f⟩:=U.fresh sm a V b;exact k W1 l us H2 (Z.trans f) (U.same sm) c h1 V e
variable {CX:CXT} {k:Nat} {fa:Addr} {fd:FuncData} {ps:c3} {m:g2->g3} {mF:g2->Option g2} {x:Str} {p':Pos} {E:XK}
def f8{jr:Nat}(c:Cal X.prog X.w X.K X.mg X.base CX0 x k (dSp X.K m))(V:Room jr X.A)(Y:DAx X G H0 (e::es) F)(D:k<=jr:=by decide)(Z:Gl X x:=by walk_at "g")(a:starEach (e::es) X.env=(false,eval e X.env)::starEach es X.env:=by rfl)(I:(backTo pos (starEach es X.env)).any (·.1)=false:=by rfl) :
  DEx X G H0 (.Call (.Name x p') (e::es) [] pos) (er m F):=let ⟨_,_,_,b,d,f,g,U⟩:=c;⟨(zpb b (V.mono D) Z d f g .nil zz6 Y.out U a I).imp z3h⟩
def zma{jr:Nat}(c:Cal X.prog X.w X.K X.mg X.base CX0 x k (fSp X.K mF))(V:Room jr X.A)(Y:DAx X G H0 (e::es) F)(D:k<=jr:=by decide)(Z:Gl X x:=by walk_at "g")(a:starEach (e::es) X.env=(false,eval e X.env)::starEach es X.env:=by rfl)(I:(backTo pos (starEach es X.env)).any (·.1)=false:=by rfl) :
  DFx X G H0 (.Call (.Name x p') (e::es) [] pos) (gz mF F):=let ⟨_,_,_,b,d,f,g,U⟩:=c;⟨(zpb b (V.mono D) Z d f g .nil zz6 Y.out U a I).imp z0a⟩
end
section
variable {X:Cx} {G:Gd} {H0:Hp} {a b c e:Expr} {es rest:gp} {f g:FE} {F:FA} {p q:FT} {pos p':Pos} {x:Str}
def uk(X:Cx)(G:Gd)(H0:Hp)(r:g0->Hp->VK->Prop)(op:g2->g3):Prop :=
 ∀W env σ H vs ds d (Q:VK),Ok X.K G H0 W env σ H->Reps X.K H (Ow G W) ds vs->op ds=some d ->
  (∀v H',Step W H W H'->Ok X.K G H0 W env σ H'->Rep X.K H' (Ow G W) d v->Q v H')->r vs H Q
def zty(X:Cx)(G:Gd)(H0:Hp)(r:g0->Hp->VK->Prop)(op:g2->Option g2):Prop :=
 ∀W env σ H vs ds rs (Q:VK),Ok X.K G H0 W env σ H->Reps X.K H (Ow G W) ds vs->op ds=some rs ->
  (∀l us H',Step W H (addW W l) H'->Ok X.K G H0 W env σ H'->Ok X.K G H0 (addW W l) env σ H'->¬W l->H' l=some (.lst us)->Reps X.K H' (Ow G (addW W l)) rs us->Q (.ref l) H')->r vs H Q
def z3i{r:g0->Hp->VK->Prop}{op:g2->g3}(hd:uk X G H0 r op):∀σ H Q,tD X.K G H0 (er op F) σ H Q->tCB r (tDA X.K G H0 F) σ H Q:=λσ H Q Z=>by
 obtain⟨W,env,d,env',ok,q,k⟩:=Z;cases e1:F env with
 | none=>simp[e1] at q
 | some z =>
   obtain⟨ds,I⟩:=z;cases e2:op ds with
   | none=>simp[e1,e2] at q
   | some d' =>
     have q:some (d',I)=some (d,env'):=by simpa[er,e1,e2] using q
     cases q;exact⟨W,env,ds,_,ok,e1,λW1 vs H1 a U p1=>hd W1 _ σ H1 vs ds _ Q U p1 e2 λv H2 s2 Y p2=>k W1 v H2 (a.trans s2) Y p2⟩
def z3j{r:g0->Hp->VK->Prop}{op:g2->Option g2}(hd:zty X G H0 r op):∀σ H Q,tDF X.K G H0 (gz op F) σ H Q->tCB r (tDA X.K G H0 F) σ H Q:=λσ H Q a=>by
 obtain⟨W,env,d,env',ok,q,k⟩:=a;cases e1:F env with
 | none=>simp[e1] at q
 | some z =>
   obtain⟨ds,I⟩:=z;cases e2:op ds with
   | none=>simp[e1,e2] at q
   | some d' =>
     have q:some (d',I)=some (d,env'):=by simpa[gz,e1,e2] using q
     cases q;exact⟨W,env,ds,_,ok,e1,λW1 vs H1 b U p1=>hd W1 _ σ H1 vs ds _ Q U p1 e2 λl us H2 s2 Y Z c e f=>k W1 l us H2 (b.trans s2) Y Z c e f⟩
variable {id T:String} {r:g0->Hp->VK->Prop} {op:g2->g3} {opF:g2->Option g2}
def zmb(U:pv X (.builtin id) r)(hd:uk X G H0 r op)(V:Gl X x)(Y:X.mg x=none)(Z:bootBuiltins x=some (.builtin id))(a:DAx X G H0 (e::es) F)(b:x ≠ "__name__":=by decide)(D:(x==("__debug__" : Str))=false:=by decide)(c:starEach (e::es) X.env=(false,eval e X.env)::starEach es X.env:=by rfl)(I:(backTo pos (starEach es X.env)).any (·.1)=false:=by rfl):DEx X G H0 (.Call (.Name x p') (e::es) [] pos) (er op F):=⟨(zjv U V Y Z a.out b D c I).imp (z3i hd)⟩
def zwk(U:pv X (.type T) r)(hd:uk X G H0 r op)(V:Gl X x)(Y:X.mg x=none)(Z:bootBuiltins x=some (.type T))(a:DAx X G H0 (e::es) F)(b:x ≠ "__name__":=by decide)(D:(x==("__debug__" : Str))=false:=by decide)(c:starEach (e::es) X.env=(false,eval e X.env)::starEach es X.env:=by rfl)(I:(backTo pos (starEach es X.env)).any (·.1)=false:=by rfl):DEx X G H0 (.Call (.Name x p') (e::es) [] pos) (er op F):=⟨(znq U V Y Z a.out b D c I).imp (z3i hd)⟩
def zwl(U:pv X (.type T) r)(hd:zty X G H0 r opF)(V:Gl X x)(Y:X.mg x=none)(Z:bootBuiltins x=some (.type T))(a:DAx X G H0 (e::es) F)(b:x ≠ "__name__":=by decide)(D:(x==("__debug__" : Str))=false:=by decide)(c:starEach (e::es) X.env=(false,eval e X.env)::starEach es X.env:=by rfl)(I:(backTo pos (starEach es X.env)).any (·.1)=false:=by rfl):DFx X G H0 (.Call (.Name x p') (e::es) [] pos) (gz opF F):=⟨(znq U V Y Z a.out b D c I).imp (z3j hd)⟩
def rj{K:gu}{H:Hp}{O:Addr->Prop}{d:D}{vs:g0}(h:Reps K H O [d] vs):∃v,vs=[v]/\Rep K H O d v:=by
 cases h with | cons r t=>cases t;exact⟨_,rfl,r⟩
def z0b{K:gu}{H:Hp}{O:Addr->Prop}{d d':D}{vs:g0}(h:Reps K H O [d,d'] vs):∃v I,vs=[v,I]/\Rep K H O d v/\Rep K H O d' I:=by
 cases h with | cons r t=>cases t with | cons r' t=>cases t;exact⟨_,_,rfl,r,r'⟩
@[simp] noncomputable def bLen:g2->g3 | [.tup ds]=>some (.int ds.length) | [.lst ds]=>some (.int ds.length) | _=>none
def z3k:uk X G H0 (λxs H Q=>∃p ys,xs=[.ref p]/\(SqL X.K H p ys\/SqT X.K H p ys)/\Q (.int ys.length) H) bLen:=by
 intro W env σ H vs ds d Q ok r e k;unfold bLen at e;split at e
 ·rename_i ds
  cases e;obtain⟨v,rfl,D⟩:=rj r;have r:=D;obtain⟨a,us,rfl,h,r⟩:=r.tup_;exact⟨a,us,rfl,.inr (SqT.of h),by rw[<-r.length];exact k _ H Step.refl ok (.int _)⟩
 ·rename_i ds
  cases e;obtain⟨v,rfl,D⟩:=rj r;have r:=D;obtain⟨a,us,rfl,h,r⟩:=r.lst_;exact⟨a,us,rfl,.inl h.sq,by rw[<-r.length];exact k _ H Step.refl ok (.int _)⟩
 ·cases e
def zyt(I:DAx X G H0 [e] F)(D:Bn X "len":=by walk_at "b")(U:starEach [e] X.env=(false,eval e X.env)::starEach [] X.env:=by rfl):DEx X G H0 (.Call (.Name "len" p') [e] [] pos) (er bLen F) :=
 zmb zjg z3k D.g D.m PySem.boot_len I (by decide) (by decide) U rfl
@[simp] noncomputable def bMax:g2->g3 | [.int i,.int j]=>some (.int (if j > i then j else i)) | _=>none
def ints?:g2->Option f5
 | []=>some []
 | .int i::r=>(ints? r).map (i::·)
 | _::_=>none
def xf:∀ {ds:g2} {ns:f5},ints? ds=some ns->ds=ns.map D.int
 | [],ns,h=>by cases h;rfl
 | .int i::r,ns,h=>by
   unfold ints? at h;cases q:ints? r with
   | none=>rw[q] at h;cases h
   | some ms=>rw[q] at h;cases h;rw[xf q];rfl
 | .str _::_,_,h=>by cases h
def ints_of(ns:f5):ints? (ns.map D.int)=some ns:=by
 induction ns with
 | nil=>rfl
 | cons n r ih=>show(ints? (r.map D.int)).map (n::·)=_;rw[ih];rfl
def xj{K:gu}{H:Hp}{O:Addr->Prop}:∀ {ns:f5} {vs:g0},Reps K H O (ns.map D.int) vs->vs=ns.map V.int
 | [],_,h=>by cases h;rfl
 | n::r,_,h=>by cases h with | cons a t=>rw[xj t,a.int_];rfl
def zn0(Z:X.calm=true):pv X (.builtin "sum") (λxs H Q=>∃p,∃ns:f5,xs=[.ref p]/\SqL X.K H p (ns.map V.int)/\Q (.int ns.sum) H):=by
 intro pins s σ H xs us Q I r h;obtain⟨p,ns,rfl,a,q⟩:=h;obtain⟨u,rfl,b⟩:=ya r;cases b;obtain⟨its,c,pl,f⟩:=I.list a;have hi:IntsAre its ns:=ziu c;have U:=pl.isList;obtain⟨xs,D⟩:=hi.allInts.items;rw[D] at U;refine sum_intListG (I.ok.hd Z) U λh' tk t' d=>⟨.int ns.sum,H,I.kept d,⟨t',?_⟩,q⟩;have e:numsOf its=ns:=hi.numsOf;have Y:numsOf (intItems xs).toList=ns:=by rw[<-D];exact e
 rw[nums_intItems] at Y;rw[preSum_eq,ig (by simp),Y]
def bSum:g2->g3 | [.lst ds]=>(ints? ds).map λns=>.int ns.sum | _=>none
def z3l:uk X G H0 (λxs H Q=>∃p,∃ns:f5,xs=[.ref p]/\SqL X.K H p (ns.map V.int)/\Q (.int ns.sum) H) bSum:=by
 intro W env σ H vs ds d Q ok r e k;unfold bSum at e;split at e
 ·rename_i ds
  cases q:ints? ds with
  | none=>rw[q] at e;cases e
  | some ns =>
    rw[q] at e;cases e;obtain⟨v,rfl,D⟩:=rj r;have r:=D;obtain⟨a,us,rfl,h,r⟩:=r.lst_;rw[xf q] at r;rw[xj r] at h;exact⟨a,ns,rfl,h.sq,k _ H Step.refl ok (.int _)⟩
 ·cases e
def zyu(I:DAx X G H0 [e] F)(U:X.calm=true:=by rfl)(D:Bn X "sum":=by walk_at "b")(V:starEach [e] X.env=(false,eval e X.env)::starEach [] X.env:=by rfl):DEx X G H0 (.Call (.Name "sum" p') [e] [] pos) (er bSum F) :=
 zmb (zn0 U) z3l D.g D.m boot_sum I (by decide) (by decide) V rfl
@[simp] noncomputable def qd:g2->Option g2 | [.lst ds]=>some ds | [.tup ds]=>some ds | _=>none
def z0c:zty X G H0 (λxs H Q=>∃p ys,xs=[.ref p]/\(SqL X.K H p ys\/SqT X.K H p ys)/\∀l,H l=none->Q (.ref l) (upd H l (.lst ys))) qd:=by
 intro W env σ H vs ds b Q ok r e k;unfold qd at e;split at e
 ·cases e
  obtain⟨v,rfl,D⟩:=rj r;have r:=D;obtain⟨a,us,rfl,h,r⟩:=r.lst_;refine⟨a,us,rfl,.inl h.sq,λl I=>?_⟩;obtain⟨h1,h2,U,V,Y,Z⟩:=qk ok r I;exact k l us _ h1 h2 U V Y Z
 ·cases e
  obtain⟨v,rfl,D⟩:=rj r;have r:=D;obtain⟨a,us,rfl,h,r⟩:=r.tup_;refine⟨a,us,rfl,.inr (SqT.of h),λl I=>?_⟩;obtain⟨h1,h2,U,V,Y,Z⟩:=qk ok r I;exact k l us _ h1 h2 U V Y Z
 ·cases e
def zr9:bootBuiltins "list" = some (.type "list"):=by decide +kernel
def z0d(I:DAx X G H0 [e] F)(D:Bn X "list":=by walk_at "b")(U:starEach [e] X.env=(false,eval e X.env)::starEach [] X.env:=by rfl):DFx X G H0 (.Call (.Name "list" p') [e] [] pos) (gz qd F) :=
 zwl zns z0c D.g D.m zr9 I (by decide) (by decide) U rfl
end
section
variable {X:Cx} {G:Gd} {H0:Hp} {a b c e:Expr} {es rest:gp} {f g:FE} {F:FA} {p q:FT} {pos p' p1 pos1:Pos} {x:Str}
def rngL(lo hi:Int):f5:=(List.range (hi-lo).toNat).map λ(k:Nat)=>lo+(k:Int)
def z6o(ds:g2):Option g2:=match ds with
 | [.int j]=>if Bnd (-(2 ^ 62)) (2 ^ 20+1) j then some ((rngL 0 j).map D.int) else none
 | _=>none
def zg0{K:gu}{H:Hp}{O:Addr->Prop}:∀(ns:f5),Reps K H O (ns.map D.int) (ns.map V.int)
 | []=>.nil
 | n::r=>.cons (.int n) (zg0 r)
abbrev FO:=DE0->Option (gs×DE0)
def tDO(K:gu)(G:Gd)(H0:Hp)(f:FO):TO:=λσ H Q=>DP K G H0 f (λW env o env'=> ∀W' H',Step W H W' H'->Ok K G H0 W' env' σ H'->Q o H') σ H
structure DOx (X:Cx) (G:Gd) (H0:Hp) (e:Option Expr) (f:FO):Prop where
 out:PO X e (tDO X.K G H0 f)
def PO.imp{X:Cx}{e:Option Expr}{t t':TO}(h:PO X e t)(i:∀σ H Q,t' σ H Q->t σ H Q):PO X e t':=λpins s σ H Q I q=>h pins s σ H Q I (i σ H Q q)
@[simp] noncomputable def fO0:FO:=λe=>some (none,e)
@[simp] noncomputable def fO1(f:FE):FO:=λe=>(f e).bind λr=>match r.1 with | .int i=>some (some i,r.2) | _=>none
def yl  : DOx X G H0 none fO0:=⟨zzz.imp λσ H Q ⟨W,env,o,env',ok,q,k⟩=>by cases q;exact k W H Step.refl ok⟩
def ve(h:DEx X G H0 e f):DOx X G H0 (some e) (fO1 f):=⟨(zz0 h.out).imp λσ H Q U=>by
 obtain⟨W,env,o,env',ok,q,k⟩:=U;cases e1:f env with
 | none=>simp[e1] at q
 | some r =>
   obtain⟨d,D⟩:=r;cases d with
   | int i =>
     have q:some (some i,D)=some (o,env'):=by simpa[fO1,e1] using q
     cases q;exact⟨W,env,_,_,ok,e1,λW1 v1 H1 V I p1=>⟨i,p1.int_,k W1 H1 V I⟩⟩
   | _=>simp[e1] at q⟩
def cutD(xs:g2)(lo hi:gs):g2:=(xs.drop (HT.sIx xs.length 0 lo)).take (HT.sIx xs.length xs.length hi-HT.sIx xs.length 0 lo)
def Reps.cut{K:gu}{H:Hp}{O:Addr->Prop}{ds:g2}{vs:g0}(r:Reps K H O ds vs)(lo hi:gs):Reps K H O (cutD ds lo hi) (cutV vs lo hi):=by
 unfold cutD cutV;rw[r.length];exact(r.drop _).take _
@[simp] noncomputable def fSl(f:FE)(l h:FO):FA:=λe=>(f e).bind λr=>(l r.2).bind λD=>(h D.2).bind λI=>match r.1 with | .lst ds=>some (cutD ds D.1 I.1,I.2) | _=>none
def vw{lo hi:Option Expr}{fl Y:FO}{sp:Pos}(i:DEx X G H0 a f)(j:DOx X G H0 lo fl)(m:DOx X G H0 hi Y) :
  DFx X G H0 (.Subscript a (.Slice lo hi none sp) pos) (fSl f fl Y):=⟨(zwb zz1 i.out j.out m.out).imp λσ H Q n=>by
 obtain⟨W,env,d,env',ok,q,k⟩:=n;cases e1:f env with
 | none=>simp[e1] at q
 | some r =>
   obtain⟨o,D⟩:=r;cases e2:fl D with
   | none=>simp[e1,e2] at q
   | some r2 =>
     obtain⟨c,I⟩:=r2;cases e3:Y I with
     | none=>simp[e1,e2,e3] at q
     | some r3 =>
       obtain⟨e,U⟩:=r3;cases o with
       | lst ds =>
         have q:some (cutD ds c e,U)=some (d,env'):=by simpa[fSl,e1,e2,e3] using q
         cases q;refine⟨W,env,_,_,ok,e1,λW1 v1 H1 p V p1=>⟨W1,D,_,_,V,e2,λs H2 s2 Z=>⟨s,I,_,_,Z,e3,λt A g b=>?_⟩⟩⟩;obtain⟨l,us,rfl,h,r⟩:=(V.rep (s2.trans g) p1).lst_;refine⟨l,us,rfl,h.sq,λu v=>?_⟩;obtain⟨h1,h2,w,x,y,z⟩:=qk b (r.cut c e) v;exact k t u _ _ (((p.trans s2).trans g).trans h1) h2 w x y z
       | _=>simp[e1,e2,e3] at q⟩
def z5q(K:gu):R2:=λx y H Q=>∃l b xs D,x=.ref l/\y=.ref b/\SqL K H l xs/\SqL K H b D/\xs.length+D.length<=sizeLine/\∀p,H p=none->Q (.ref p) (upd H p (.lst (xs++D)))
theorem z0e:OpR X (binaryOp .Add) (z5q X.K):=by
 intro pins s σ H x y v u Q I g i h;obtain⟨l,b,xs,A,rfl,rfl,j,k,B,q⟩:=h;cases g;cases i;obtain⟨its,r,⟨⟨cls,dd,data,sl⟩,n,d,m,Y,hd⟩,z⟩:=I.list j;obtain⟨D,e,⟨⟨f,o,data2,Z⟩,p,U,a,V,c⟩,C⟩:=I.list k;subst m hd a c Y V;have E:=r.length;have t:=e.length;refine concat_meets ⟨_,d,rfl⟩ ⟨_,U,rfl⟩ noFill_list_add seq_list_add PySem.F.slot_list_add PySem.F.entry_list_add (PySem.F.args_list_add_2 _ _) (list_addW l b its.toArray D.toArray n p none none sl Z (by simp;lia)) ⟨d,U,?_⟩;have w:its.toArray++D.toArray=(its++D).toArray:=by simp
 rw[w];exact⟨.ref _,_,I.lnew (t':=s.toks) (r.append e) (by rw[aj];lia),rfl,q _ I.fresh⟩
@[simp] noncomputable def fCat(f g:FE):FA:=λe=>(f e).bind λr=>(g r.2).bind λq=>match r.1,q.1 with | .lst ds,.lst es=>if Few (ds.length+es.length) then some (ds++es,q.2) else none | _,_=>none
def yg(e:DEx X G H0 a f)(i:DEx X G H0 b g):DFx X G H0 (.BinOp a .Add b pos) (fCat f g):=⟨(zzp z0e e.out i.out).imp λσ H Q j=>by
 obtain⟨W,env,d,env',ok,q,k⟩:=j;cases e1:f env with
 | none=>simp[e1] at q
 | some r =>
   obtain⟨m,D⟩:=r;cases e2:g D with
   | none=>simp[e1,e2] at q
   | some r2 =>
     obtain⟨o,I⟩:=r2;cases m with
     | lst ds =>
       cases o with
       | lst es =>
         by_cases V:Few (ds.length+es.length)
         ·have q:some (ds++es,I)=some (d,env'):=by simpa only[fCat,e1,e2,ac,if_pos V] using q
          cases q;refine⟨W,env,_,_,ok,e1,λW1 v1 H1 p U p1=>⟨W1,D,_,_,U,e2,λs v2 H2 s2 Y p2=>?_⟩⟩;obtain⟨l,us,rfl,h,r⟩:=(U.rep s2 p1).lst_;obtain⟨t,Z,rfl,h',c⟩:=p2.lst_;refine⟨l,t,us,Z,rfl,rfl,h.sq,h'.sq,?_,λn u=>?_⟩
          ·rw[<-r.length,<-c.length];exact b8 V (by rw[sizeLine_eq];decide)
          ·obtain⟨h1,h2,v,w,x,y⟩:=qk Y (r.append c) u
           exact k s n _ _ ((p.trans s2).trans h1) h2 v w x y
         ·simp only[fCat,e1,e2,ac,if_neg V] at q;cases q
       | _=>simp[e1,e2] at q
     | _=>simp[e1,e2] at q⟩
@[simp] noncomputable def jk(i:Nat):FE:=λe=>match e[i]? with
 | some (some (.ow ds))=>some (.int ds.length,e)
 | some (some (.sh (.lst ds)))=>some (.int ds.length,e)
 | some (some (.sh (.tup ds)))=>some (.int ds.length,e)
 | _=>none
def lb{Nn Cn:c3}{i:Nat}(an:Ats Nn Cn X)(V:Bn X "len":=by walk_at "b")(U:Nn[i]?=some x:=by rfl)(Y:starEach [.Name x p1] X.env=(false,eval (.Name x p1) X.env)::starEach [] X.env:=by rfl):DEx X G H0 (.Call (.Name "len" p') [.Name x p1] [] pos) (jk i) :=
 ⟨(zjv zjg V.g V.m PySem.boot_len (o8 ((an.a U).pe) qg Y) (by decide) (by decide) Y rfl).imp λσ H Q Z=>by
  obtain⟨W,env,d,env',ok,q,k⟩:=Z;unfold jk at q;split at q
  ·rename_i ds D
   cases q;obtain⟨v,I,l,vs,rfl,c,b,r⟩:=ok.slot i _ D;exact⟨_,I,l,vs,rfl,.inl (.inl (.inl b)),by rw[<-r.length];exact k W _ H Step.refl ok (.int _)⟩
  ·rename_i ds D
   cases q;obtain⟨v,I,r⟩:=ok.slot i _ D;obtain⟨l,us,rfl,h,r⟩:=Rep.lst_ r;exact⟨_,I,l,us,rfl,.inl h.sq,by rw[<-r.length];exact k W _ H Step.refl ok (.int _)⟩
  ·rename_i ds D
   cases q;obtain⟨v,I,r⟩:=ok.slot i _ D;obtain⟨l,us,rfl,h,r⟩:=Rep.tup_ r;exact⟨_,I,l,us,rfl,.inr (SqT.of h),by rw[<-r.length];exact k W _ H Step.refl ok (.int _)⟩
  ·cases q⟩
@[simp] noncomputable def ixSl:D->Option g5->g3
 | .int k,some (some (.ow ds))=>atI ds k
 | .int k,some (some (.sh (.lst ds)))=>atI ds k
 | .int k,some (some (.sh (.tup ds)))=>atI ds k
 | _,_=>none
@[simp] noncomputable def fIxV(i:Nat)(g:FE):FE:=λe=>match e[i]? with
 | some (some _)=>(g e).bind λr=>(ixSl r.1 r.2[i]?).map λd=>(d,r.2)
 | _=>none
def gc{Nn Cn:c3}{i:Nat}(o:DEx X G H0 b g)(an:Ats Nn Cn X)(p:wn b:=by intro _ _;rfl)(e:Nn[i]?=some x:=by rfl):DEx X G H0 (.Subscript (.Name x p1) b pos) (fIxV i g) :=
 ⟨(zt ztm ((an.a e).pe) o.out p).imp λσ H Q s=>by
  obtain⟨W,env,d,env',ok,q,k⟩:=s;unfold fIxV at q;split at q;case h_2=>cases q
  rename_i w f;obtain⟨v,c,_⟩:=ok.slot i _ f;cases e1:g env with
  | none=>rw[e1] at q;cases q
  | some r =>
    obtain⟨m,U⟩:=r;rw[e1,ac] at q;cases e3:ixSl m U[i]? with
    | none=>rw[e3] at q;cases q
    | some d' =>
      rw[e3] at q;cases q;refine⟨v,c,W,env,m,_,ok,e1,λW1 v1 H1 j D p1=>?_⟩;unfold ixSl at e3;split at e3
      ·rename_i kk ds V
       obtain⟨n,I,l,vs,rfl,y,t,r⟩:=D.slot i _ V;rw[c] at I;cases I;obtain⟨u,Y,Z⟩:=wg r e3;exact .inl ⟨l,vs,kk,u,rfl,p1.int_,.inl (.inl t),Y,k W1 _ H1 j D Z⟩
      ·rename_i kk ds V
       obtain⟨n,I,r⟩:=D.slot i _ V;rw[c] at I;cases I;obtain⟨l,us,rfl,h,r⟩:=Rep.lst_ r;obtain⟨u,Y,Z⟩:=wg r e3;exact .inl ⟨l,us,kk,u,rfl,p1.int_,h.sq,Y,k W1 _ H1 j D Z⟩
      ·rename_i kk ds V
       obtain⟨n,I,r⟩:=D.slot i _ V;rw[c] at I;cases I;obtain⟨l,us,rfl,h,r⟩:=Rep.tup_ r;obtain⟨u,Y,Z⟩:=wg r e3;exact .inr (.inl ⟨l,us,kk,u,rfl,p1.int_,SqT.of h,Y,k W1 _ H1 j D Z⟩)
      ·cases e3⟩
end
section
variable {X:Cx} {G:Gd} {H0:Hp} {a b c e:Expr} {es rest:gp} {f g:FE} {F:FA} {p q:FT} {pos p' p1 pos1:Pos} {x:Str}
@[simp] noncomputable def tyD:D->String | .non=>"NoneType" | .bl _=>"bool" | .int _=>"int" | .str _=>"str" | .tup _=>"tuple" | .lst _=>"list" | .dct _ _=>"dict" | .exc _=>"exc"
@[simp] noncomputable def isiT(t T:String):Bool:=t==T || (t=="bool" && T=="int")
def ztz(T:String):Bool:=T=="int" || T=="bool" || T=="str" || T=="tuple" || T=="list"
def zwm(K:gu)(d:D)(T:String)(h:ztz T=true)(hd:∀a,d≠.exc a):PySem.W.kitOne K (.type (tyD d)) (.type T)=some (isiT (tyD d) T):=by
 simp only[ztz,Bool.or_eq_true,beq_iff_eq] at h;rcases h with(((rfl | rfl) | rfl) | rfl) | rfl <;> cases d <;> first | rfl | exact absurd rfl (hd _)
def zwn:pv X (.builtin "isinstance") (λxs H Q=>∃x T t b,xs=[x,.ty T]/\(TyOf X.K H x t\/(t=.type "list"/\∃a us,x=.ref a/\SqL X.K H a us))/\PySem.W.kitOne X.K t (.type T)=some b/\Q (.bl b) H):=by
 intro pins s σ H xs us Q I r h;obtain⟨x,T,t,b,rfl,ty,e,q⟩:=h;obtain⟨u,U,rfl,D,rt⟩:=z2r r;cases (show U=Value.type T from rt);rcases ty with ty | ⟨rfl,a,ws,rfl,hq⟩
 ·exact zth I D ty e λtk=>⟨.bl b,H,I.tok tk,rfl,q⟩
 ·cases (show u=Value.ref a from D)
  obtain⟨its,_,⟨o,n,h1,h2,_⟩,_⟩:=I.list hq;exact e8 nt I.kIn ⟨o,h1,h2⟩ e (λz=>nomatch z) λtk=>⟨.bl b,H,I.tok tk,rfl,q⟩
def z3m{K:gu}{H:Hp}{O:Addr->Prop}{d:D}{v:V}(r:Rep K H O d v)(hd:∀a,d≠.exc a):TyOf K H v (.type (tyD d))\/(Value.type (tyD d)=.type "list"/\∃a us,v=.ref a/\SqL K H a us):=by
 cases r with
 | non=>exact .inl .non
 | bl b=>exact .inl (.bl b)
 | int i=>exact .inl (.int i)
 | str s=>exact .inl (.str s)
 | tup h _=>exact .inl (.tup h)
 | lst o h _=>exact .inr ⟨rfl,_,_,rfl,.inl h⟩
 | klst h _=>exact .inr ⟨rfl,_,_,rfl,.inr h⟩
 | dct h _=>exact .inl (.dK h)
 | exc a=>exact absurd rfl (hd a)
def zwo:bootBuiltins "isinstance" = some (.builtin "isinstance"):=by decide +kernel
@[simp] noncomputable def fIsi(T:String)(f:FE):FE:=λe=>(f e).bind λr=>match r.1 with | .exc _=>none | d=>some (.bl (isiT (tyD d) T),r.2)
structure Ty (x:Str) (T:String):Prop where
 b:bootBuiltins x=some (.type T)
 k:ztz T=true
 d:(x==("__debug__" : Str))=false
 n:x ≠ "__name__"
def rq{T:String}(ty:Ty x T)(e:DEx X G H0 a f)(Z:Bn X "isinstance":=by walk_at "b")(D:Gl X x:=by walk_at "g")(I:X.mg x=none:=by assumption)(c:starEach [a,.Name x p1] X.env=(false,eval a X.env)::starEach [.Name x p1] X.env:=by rfl)(U:starEach [.Name x p1] X.env=(false,eval (.Name x p1) X.env)::starEach [] X.env:=by rfl)(V:(backTo pos (starEach [.Name x p1] X.env)).any (·.1)=false:=by rfl) :
  DEx X G H0 (.Call (.Name "isinstance" p') [a,.Name x p1] [] pos) (fIsi T f) :=
 ⟨(zjv zwn Z.g Z.m zwo (o8 e.out (o8 (zzj (v:=.ty T) D I ty.b rfl ty.n ty.d) qg U) c) (by decide) (by decide) c V).imp λσ H Q h=>by
  obtain⟨W,env,d,env',ok,q,k⟩:=h;cases e1:f env with
  | none=>simp[e1] at q
  | some r =>
    unfold fIsi at q;rw[e1,ac] at q;split at q
    ·cases q
    ·rename_i hd
     cases q;exact⟨W,env,_,_,ok,e1,λW1 v1 H1 i Y p1=>⟨v1,T,_,_,rfl,z3m p1 hd,zwm X.K _ T ty.k hd,k W1 _ H1 i Y (.bl _)⟩⟩⟩
abbrev FI:=DE0->Option (g2×DE0)
structure Walk (K:gu) (G:Gd) (J:It) (W:Addr->Prop) (H:Hp) (ds:g2):Prop where
 go:∀W' H' (i:Nat) d,Step W H W' H'->ds[i]?=some d->J.go i H'/\∀x H'',J.yld i H' x H''->H''=H'/\Rep K H' (Ow G W') d x
 stop:∀W' H',Step W H W' H'->J.stop ds.length H'
def tDI(K:gu)(G:Gd)(H0:Hp)(f:FI):TI:=λσ H R=>DP K G H0 f (λW env ds env' =>
 ∀W' J H',Step W H W' H'->Ok K G H0 W' env' σ H'->Walk K G J W' H' ds->R J H') σ H
structure DIC (Cm:Cx->Prop) (X:Cx) (G:Gd) (H0:Hp) (tg:Expr) (e:Expr) (f:FI):Prop where
 out:PIC Cm X tg e (tDI X.K G H0 f)
abbrev DIx:=DIC λX=>X.calm=true
def PI.imp{X:Cx}{tg e:Expr}{t t':TI}(h:PI X tg e t)(i:∀σ H Q,t' σ H Q->t σ H Q):PI X tg e t':=λpins s σ H Q I q=>h pins s σ H Q I (i σ H Q q)
def PIC.imp{Cm:Cx->Prop}{X:Cx}{tg e:Expr}{t t':TI}(h:PIC Cm X tg e t)(i:∀σ H Q,t' σ H Q->t σ H Q):PIC Cm X tg e t':=λpins s σ H Q I q=>h pins s σ H Q I (i σ H Q q)
def zn2{W:Addr->Prop}{H:Hp}{a:Addr}{vs:g0}{ds:g2}{env:DE0}{σ:St}(ok:Ok X.K G H0 W env σ H)(h:LsOk X.K H (Ow G W) a vs)(r:Reps X.K H (Ow G W) ds vs):Walk X.K G (Itl X.K a) W H ds where
 go:=λW' H' i d st e=>by
  obtain⟨v,I,U⟩:=(ok.reps st r).get e;have h':=(ok.lsstep st h).sq;exact⟨⟨vs,v,h',I⟩,λx H'' ⟨e2,y⟩=>⟨e2,by have:=y vs h';rw[I] at this;cases this;exact U⟩⟩
 stop:=λW' H' st=>⟨vs,(ok.lsstep st h).sq,by rw[r.length];exact bo _⟩
def zwp{W:Addr->Prop}{H:Hp}{a:Addr}{vs:g0}{ds:g2}{env:DE0}{σ:St}(ok:Ok X.K G H0 W env σ H)(h:H a=some (.tup vs))(r:Reps X.K H (Ow G W) ds vs):Walk X.K G (Itt X.K a) W H ds where
 go:=λW' H' i d st e=>by
  obtain⟨v,I,U⟩:=(ok.reps st r).get e;have h':=ok.tstep st a vs h;exact⟨⟨vs,v,SqT.of h',I⟩,λx H'' ⟨e2,y⟩=>⟨e2,by have:=y vs (SqT.of h');rw[I] at this;cases this;exact U⟩⟩
 stop:=λW' H' st=>⟨vs,SqT.of (ok.tstep st a vs h),by rw[r.length];exact bo _⟩
def zqm{W:Addr->Prop}{H:Hp}{lo:Int}{n:Nat}:Walk X.K G (Itr lo n) W H ((List.range n).map λ(k:Nat)=>D.int (lo+(k:Int))) where
 go:=λW' H' i d st e=>by
  rw[az] at e;have hi:i<n:=by
   have:=(am.mp (show((List.range n).map λ(k:Nat)=>D.int (lo+(k:Int)))[i]?=some d by rw[az];exact e)).1;simpa using this
  rw[jd hi] at e;cases e;exact⟨hi,λx H'' ⟨e2,y⟩=>⟨e2,by rw[y];exact .int _⟩⟩
 stop:=λW' H' st=>by rw[ae,gg];exact bo _
@[simp] noncomputable def fiS(f:FE):FI:=λe=>(f e).bind λr=>match r.1 with | .lst ds=>some (ds,r.2) | .tup ds=>some (ds,r.2) | _=>none
def PI.or{tg:Expr}{t t':TI}(h:PI X tg e t)(h':PI X tg e t'):PI X tg e (λσ H R=>t σ H R\/t' σ H R):=λpins s σ H R I q=>q.elim (h pins s σ H R I) (h' pins s σ H R I)
def kq{tg:Expr}(h:DEx X G H0 e f):DIx X G H0 tg e (fiS f):=⟨((zs8 h.out).or (z2h h.out)).imp λσ H R V=>by
 obtain⟨W,env,ds,env',ok,q,k⟩:=V;cases e1:f env with
 | none=>simp[e1] at q
 | some r =>
   obtain⟨d,I⟩:=r;cases d with
   | lst ds' =>
     have q:some (ds',I)=some (ds,env'):=by simpa[fiS,e1] using q
     cases q;refine .inl ⟨W,env,_,_,ok,e1,λW1 v1 H1 U D p1=>?_⟩;obtain⟨a,vs,rfl,h.out,r⟩:=p1.lst_;exact⟨a,rfl,⟨vs,h.out.sq⟩,k W1 _ H1 U D (zn2 D h.out r)⟩
   | tup ds' =>
     have q:some (ds',I)=some (ds,env'):=by simpa[fiS,e1] using q
     cases q;refine .inr ⟨W,env,_,_,ok,e1,λW1 v1 H1 U D p1=>?_⟩;obtain⟨a,vs,rfl,h.out,r⟩:=p1.tup_;exact⟨a,rfl,⟨vs,SqT.of h.out⟩,k W1 _ H1 U D (zwp D h.out r)⟩
   | _=>simp[e1] at q⟩
def rngD(lo:Int)(n:Nat):g2:=(List.range n).map λ(k:Nat)=>D.int (lo+(k:Int))
def iR1(ds:g2):Option g2:=match ds with | [.int j]=>if Bnd (-(2 ^ 62)) (2 ^ 62) j then some (rngD 0 j.toNat) else none | _=>none
def iR2(ds:g2):Option g2:=match ds with | [.int i,.int j]=>if Bnd (-(2 ^ 62)) (2 ^ 62) i/\Bnd (-(2 ^ 62)) (2 ^ 62) j then some (rngD i (j-i).toNat) else none | _=>none
def zsb{Cm:Cx->Prop}{tg:Expr}(hT:∀(it:Addr) (lo:Int) (n:Nat),vx Cm X.prog X.w X.K tg (Itr lo n) [it] it (λi h=>IsRangeIter h it (lo+(i:Nat)*1) ((n:Int)-(i:Nat)) 1))(Y:DAx X G H0 [a] F)(U:Bn X "range":=by walk_at "b")(Z:starEach [a] X.env=[(false,eval a X.env)]:=by rfl):DIC Cm X G H0 tg (.Call (.Name "range" p') [a] [] pos) (gz iR1 F) :=
 ⟨PIC.imp (zry hT U.g U.m Y.out Z) λσ H R b=>by
  obtain⟨W,env,ds,env',ok,q,k⟩:=b;cases e1:F env with
  | none=>simp[e1] at q
  | some z =>
    obtain⟨as,D⟩:=z;cases e2:iR1 as with
    | none=>simp[e1,e2] at q
    | some d' =>
      have q:some (d',D)=some (ds,env'):=by simpa[gz,e1,e2] using q
      cases q;refine⟨W,env,as,_,ok,e1,λW1 vs H1 c I p1=>?_⟩;unfold iR1 at e2;split at e2
      ·rename_i j
       split at e2
       ·rename_i V
        cases e2;obtain⟨v,rfl,d⟩:=rj p1;cases d;exact⟨j,rfl,V.1,V.2,k W1 _ H1 c I zqm⟩
       ·cases e2
      ·cases e2⟩
def qw{tg:Expr}(D:DAx X G H0 [a] F)(I:Bn X "range":=by walk_at "b")(U:starEach [a] X.env=[(false,eval a X.env)]:=by rfl):DIx X G H0 tg (.Call (.Name "range" p') [a] [] pos) (gz iR1 F):=zsb (λit lo n=>zln it lo n) D I U
def zt0{tg:Expr}(Z:DAx X G H0 [a,b] F)(Y:Bn X "range":=by walk_at "b")(c:starEach [a,b] X.env=[(false,eval a X.env),(false,eval b X.env)]:=by rfl)(U:starEach [b] X.env=[(false,eval b X.env)]:=by rfl) :
  DIx X G H0 tg (.Call (.Name "range" p') [a,b] [] pos) (gz iR2 F) :=
 ⟨(zs9 Y.g Y.m Z.out c U).imp λσ H R d=>by
  obtain⟨W,env,ds,env',ok,q,k⟩:=d;cases e1:F env with
  | none=>simp[e1] at q
  | some z =>
    obtain⟨as,D⟩:=z;cases e2:iR2 as with
    | none=>simp[e1,e2] at q
    | some d' =>
      have q:some (d',D)=some (ds,env'):=by simpa[gz,e1,e2] using q
      cases q;refine⟨W,env,as,_,ok,e1,λW1 vs H1 e V p1=>?_⟩;unfold iR2 at e2;split at e2
      ·rename_i i j
       split at e2
       ·rename_i I
        cases e2;obtain⟨v,l,rfl,f,h⟩:=z0b p1;cases f;cases h;exact⟨i,j,rfl,⟨I.1.1,I.1.2,I.2.1,I.2.2⟩,k W1 _ H1 e V zqm⟩
       ·cases e2
      ·cases e2⟩
def capt:g5->g5 | some (.sh d)=>some (.sh d) | _=>none
def lv(tt:FT)(te:FE)(base:DE0):g2->Option g2
 | []=>some []
 | d::r=>(tt (some (.sh d)::base)).bind λb=>if b.1=true then(te b.2).bind λv=>(lv tt te base r).map (v.1::·) else lv tt te base r
def ju(fi:FI)(ix:f0)(tt:FT)(te:FE):FA:=λe=>(fi e).bind λr=>if Few r.1.length then(lv tt te (ix.map λj=>capt (r.2.getD j none)) r.1).map λds=>(ds,r.2) else none
@[simp] noncomputable def fYes:FT:=λe=>some (true,e)
def tDxT(K:gu)(f:FT):TT:=λσ H Q=>∃G H0,tDT K G H0 f σ H Q
def tDx(K:gu)(f:FE):TE:=λσ H Q=>∃G H0,tD K G H0 f σ H Q
def NoW:Addr->Prop:=λ_=>False
def zmd{W:Addr->Prop}{env:DE0}{σ:St}{H:Hp}{ix:f0}{d:D}{v:V}(ok:Ok X.K G H0 W env σ H)(r:Rep X.K H (Ow G W) d v) :
  Ok X.K (gd λa=>Ow G W a\/H a=none) H NoW (some (.sh d)::ix.map λj=>capt (env.getD j none)) (some v::ix.map λj=>σ.getD j none) H:=by
 have Y:∀ {d:D} {v:V},Rep X.K H (Ow G W) d v->Rep X.K H (Ow (gd λa=>Ow G W a\/H a=none) NoW) d v:=λr=>r.mono (λ_ _ h=>h) λa us o h=>⟨⟨.inl o,λz=>z⟩,h⟩;have I:∀(i:Nat) (s:Sl),(some (Sl.sh d)::ix.map λj=>capt (env.getD j none))[i]?=some (some s)->∃d',s=.sh d':=λi s z=>by
  cases i with
  | zero=>exact⟨d,by simpa using z.symm⟩
  | succ i =>
    simp only[ah,az] at z;cases q:ix[i]? with
    | none=>rw[q] at z;cases z
    | some j =>
      rw[q] at z;have z:capt (env.getD j none)=some s:=bh z;unfold capt at z;split at z
      ·cases z;exact⟨_,rfl⟩
      ·cases z
 refine⟨Same.refl _,λa z=>.inr z,λl z=>z.elim,λi s e=>?_,λi j Z s2 v1 v2 a U _ _ _ o _=>by obtain⟨d',rfl⟩:=I i Z U;exact o.elim,by simp⟩;cases i with
 | zero =>
   cases e;exact⟨v,rfl,Y r⟩
 | succ i =>
   simp only[ah,az] at e ⊢;cases q:ix[i]? with
   | none=>rw[q] at e;cases e
   | some j =>
     rw[q] at e;have e:capt (env.getD j none)=some s:=bh e;rw[aq] at e;cases q2:env[j]? with
     | none=>rw[q2] at e;cases e
     | some o =>
       rw[q2] at e;have e:capt o=some s:=e;unfold capt at e;split at e
       ·rename_i d'
        cases e;obtain⟨u,U,b⟩:=ok.slot j _ q2;exact⟨u,by simp only[ao];rw[aq,U];rfl,Y b⟩
       ·cases e
inductive CInv (K:gu) (O:Addr->Prop) (H1:Hp) (ds d:g2) (f:g2->Option g2) (i m:Nat) (H':Hp) (ys:g0):Prop
 | mk (rest done:g2) (hm:m=ds.length-i) (hi:i<=ds.length) (sm:Same H1 H') (rp:Reps K H' O done ys) (hd:done.length<=i) (ec:f (ds.drop i)=some rest) (hz:d=done++rest):CInv K O H1 ds d f i m H' ys
def zjw:2 ^ 20<=sizeLine:=by rw[sizeLine_eq];decide
def zt1{fi:FI}{ix:f0}{tt:FT}{te:FE}:∀σ H Q,tDF X.K G H0 (ju fi ix tt te) σ H Q->ul (tDI X.K G H0 fi) ix (tDxT X.K tt) (tDx X.K te) σ H Q:=λσ H Q z=>by
 obtain⟨W,env,d,env',ok,q,k⟩:=z;obtain⟨⟨ds,f⟩,F,q⟩:=df.mp q;by_cases r:Few ds.length;case neg=>cases (if_neg r).symm.trans q
 obtain⟨B,L,q⟩:=ic.mp ((if_pos r).symm.trans q);cases q;refine⟨W,env,ds,_,ok,F,λW1 J H1 M t C=>⟨CInv X.K (Ow G W1) H1 ds d (lv tt te (ix.map λj=>capt (f.getD j none))),⟨ds.length,d,[],rfl,dy _,Same.refl _,.nil,bo _,L,rfl⟩,λi m H' ys z=>?_⟩⟩;obtain⟨rest,V,N,hi,sm,g,hd,U,u⟩:=z;subst N;have D:=t.same sm;by_cases I:i<ds.length
 ·rw[fb I] at U
  obtain⟨⟨b,Y⟩,O,U⟩:=df.mp U;obtain⟨P,R⟩:=C.go W1 H' i ds[i] (Step.same sm) (ak I);refine .inr ⟨P,λx A y=>?_⟩;obtain⟨e,S⟩:=R x A y;subst e;refine⟨_,_,NoW,_,b,Y,zmd (ix:=ix) D S,O,λT H2 s2 Z=>?_⟩;have s:ds.length-(i+1)<ds.length-i:=l7 _ _ I;cases b with
  | false=>exact⟨_,s,rest,V,rfl,I,sm.trans Z.stay,D.reps (Step.same Z.stay) g,nz hd,U,u⟩
  | true =>
    obtain⟨⟨E,n⟩,e4,U⟩:=df.mp U;obtain⟨c,e5,e6⟩:=ic.mp U;refine⟨_,_,T,Y,E,n,Z,e4,λW3 v H3 s3 p r3=>⟨?_,_,s,c,V++[E],rfl,I,sm.trans p.stay,(D.reps (Step.same p.stay) g).append (.cons (r3.mono (λ_ _ h=>h) λa us o h=>⟨?_,h⟩) .nil),?_,e5,?_⟩⟩
    ·rw[<-g.length];exact bq (m7 hd (bq I r)) zjw
    ·rcases o.1 with z | z
     ·exact z
     ·exact⟨D.good a (D.stay.free z),λw=>by obtain⟨_,us,q⟩:=D.wl a w;rw[z] at q;cases q⟩
    ·rw[aj];exact Nat.succ_le_succ hd
    ·rw[u,<-e6,b9];rfl
 ·cases qx hi (js I)
  rw[i8] at U;cases U;refine .inl ⟨C.stop W1 H' (Step.same sm),by rw[<-g.length];exact b8 hd (b8 r zjw),λl s=>?_⟩;obtain⟨h1,h2,h3,h4,h5,h6⟩:=qk D g s;rw[u,cr] at k;exact k W1 l _ _ ((M.trans (Step.same sm)).trans h1) h2 h3 h4 h5 h6
def yb{D:Cx}(V:D.K=X.K):PIfs D [] (tDxT X.K fYes):=λpins s σ H Q I U=>by
 obtain⟨G,H0,W,env,b,env',ok,e,k⟩:=U;cases e;exact zwf pins s σ H Q I (k W H Step.refl ok)
def if_x{D:Cx}{tt:FT}(U:D.K=X.K)(h:∀G H0,DTx D G H0 c tt):PIfs D [c] (tDxT X.K tt):=λpins s σ H Q I ⟨G,H0,q⟩=>zwg (h G H0).out pins s σ H Q I (by rw[U];exact q)
def el_x{D:Cx}{te:FE}(U:D.K=X.K)(h:∀G H0,DEx D G H0 e te):PE D e (tDx X.K te):=λpins s σ H Q I ⟨G,H0,q⟩=>(h G H0).out pins s σ H Q I (by rw[U];exact q)
def zpj{Nn Cn:c3}{ix:f0}{sc:Scope}{px:Pos}{fi:FI}{te:FE}(an:Ats Nn Cn X)(hi:DIx X G H0 (.Name x px) a fi)(I:∀cl C s₂ H₂ fp G H0,Ats (x::(subN Nn ix)) (subN Nn ix) (jq X x (subN Nn ix) sc cl C s₂ H₂ fp)->DEx (jq X x (subN Nn ix) sc cl C s₂ H₂ fp) G H0 e te)(D:qe Nn Cn ix x sc=true:=by decide +kernel)(U:X.calm=true:=by rfl)(V:∀v,foldedSetIterable a X.env v=pure v:=by intro _;rfl) :
  DFx X G H0 (.ListComp e [⟨.Name x px,a,[],0⟩] sc pos) (ju fi ix fYes te) :=
 ⟨(zpf (wj an D) (λ_ _ _ _ _ _ _ _ _=>U) hi.out (λcl C s₂ H₂ fp _=>yb (X:=X) rfl) (λcl C s₂ H₂ fp _=>el_x (X:=X) rfl (λG H0=>I cl C s₂ H₂ fp G H0 (t5 D))) V).imp zt1⟩
def zt3{Nn Cn:c3}{ix:f0}{sc:Scope}{px:Pos}{fi:FI}{te:FE}{tt:FT}{V:Expr}(an:Ats Nn Cn X)(hi:DIx X G H0 (.Name x px) a fi)(I:∀cl C s₂ H₂ fp G H0,Ats (x::(subN Nn ix)) (subN Nn ix) (jq X x (subN Nn ix) sc cl C s₂ H₂ fp)->DTx (jq X x (subN Nn ix) sc cl C s₂ H₂ fp) G H0 V tt)(U:∀cl C s₂ H₂ fp G H0,Ats (x::(subN Nn ix)) (subN Nn ix) (jq X x (subN Nn ix) sc cl C s₂ H₂ fp)->DEx (jq X x (subN Nn ix) sc cl C s₂ H₂ fp) G H0 e te)(D:qe Nn Cn ix x sc=true:=by decide +kernel)(Y:X.calm=true:=by rfl)(Z:∀v,foldedSetIterable a X.env v=pure v:=by intro _;rfl) :
  DFx X G H0 (.ListComp e [⟨.Name x px,a,[V],0⟩] sc pos) (ju fi ix tt te) :=
 ⟨(zpf (wj an D) (λ_ _ _ _ _ _ _ _ _=>Y) hi.out (λcl C s₂ H₂ fp _=>if_x (X:=X) rfl (λG H0=>I cl C s₂ H₂ fp G H0 (t5 D))) (λcl C s₂ H₂ fp _=>el_x (X:=X) rfl (λG H0=>U cl C s₂ H₂ fp G H0 (t5 D))) Z).imp zt1⟩
end
def Here(h h':Heap):Prop:=∀b o,h.get? b=some o->∃o',h'.get? b=some o'
def Here.trans{a b c:Heap}(x:Here a b)(y:Here b c):Here a c:=λp o q=>let ⟨o',e⟩:=x p o q;y p o' e
def zme{a:Addr}{f:Obj->Obj}(D:∀o,h.get? a=some o->(h.update a f).get? a=some (f o)):Here h (h.update a f):=λb o q=>by
 by_cases e:a=b
 ·subst e;exact⟨_,D o q⟩
 ·exact⟨o,(db _ _ e).trans q⟩
structure XOk (B:Heap) (l:gj) (e:Addr) (cls fl:Value) (h:Heap):Prop where
 stay:B.StaysIn h
 new:B.get? e=none
 fr:h.FunFrames B l
 tr:∃oe vs T oT ts,h.get? e=some oe/\oe.cls=cls/\oe.dict=none/\oe.data=.fields vs/\vs[1]?=some (.ref T)/\vs[2]?=some .none/\B.get? T=none/\T≠e/\h.get? T=some oT/\oT.data=.fields ts/\ts[3]?=some fl
def zt4(o:Obj)(f:gy->gy):(o.mapFields f).dict=o.dict:=by obtain⟨c,d,D,sl⟩:=o;cases D <;> rfl
variable{env:Env}{Q:Unit->Shared->Prop}{e L:Addr}{M:Model}{E:Value->Shared->Prop}{B:Heap}{outer:gj}
def zyv{D:Obj}{vs:gy}{hd:Value}{nx:Bool}(t:A.frames=some (env::outer))(Z:s.heap.FunFrames B (env::outer))(u:env.frame=some L)(c:s.heap.get? e=some D)(gd:D.dict=none)(I:D.data=.fields vs)(k:1<vs.size)(v:vs[2]?=some .none)(k1:B.StaysIn s.heap)(k2:B.get? e=none)(h:∀h',XOk B (env::outer) e D.cls (rawInt L) h'->s.heap.UpToSlots h'->Here s.heap h'->Q () { s with heap:=h' }) :
  wpAny M A (do let a <-frameOf env;let pl <-entryPlaceOf L nx;let b <-EntryCells.newEntry hd a .none (rawInt L) .none pl;setField (.ref e) 1 b) Q E s:=by
 have d:e∉(env::outer).filterMap (·.frame):=λz=>by
  obtain⟨_,o,l,w⟩:=Z.mem z;rw[c] at l;cases l;exact w vs I
 refine wpAny_bind (wpAny_frameOf_fun t Z u λh1 U=>?_);refine wpAny_bind (wpAny_entryPlaceOf λpl V=>?_);refine wpAny_bind (wpAny_newObj_type ?_ (V.sizeOk5 _ _ _ _ _));have m:h1.get? e=some D:=(U.2.1 e d).trans c;have p:B.StaysIn h1:=λb o q=>(U.2.1 b λz=>by rw[(Z.mem z).1] at q;cases q).trans (k1 b o q);generalize Y:({ cls:=.type "traceback",dict:=none,data:=.fields ([hd,.ref L,.none,rawInt L,.none]++(if pl.isEmpty then List.replicate 6 Value.none else pl)).toArray }:Obj)=ob;have f:∃ts,ob.data=.fields ts/\ts[3]?=some (rawInt L):=by subst Y;exact⟨_,rfl,by first | (simp;done) | (rcases V with rfl | ⟨_,_,_,_,_,_,_,rfl⟩ <;> simp)⟩
 have g:ob.isFreed=false:=by subst Y;rfl
 have i:=av (h:=h1) ob m;have r:h1.objs.size≠e:=i6 (bw m);have j:=Obj.data_mapFields I (·.setIfInBounds 1 (Value.ref h1.objs.size));refine wpAny_setField i I k (h _ ?_ ?_ ?_)
 ·refine⟨λb o q=>?_,k2,Z.of_keeps λb o q n=>?_,?_⟩
  ·rw[db _ _ (λz:e=b=>by rw[<-z,k2] at q;cases q)]
   exact av _ (p b o q)
  ·obtain⟨sl,z⟩:=U.2.2 b o q
   refine⟨{ o with slots:=sl },?_,rfl⟩;rw[db _ _ (λy:e=b=>by rw[<-y,c] at q;cases q;exact n vs I)];exact av _ z
  ·obtain⟨ts,x,C⟩:=f
   refine⟨_,_,h1.objs.size,ob,ts,gh _ i (Obj.isFreed_of_fields j),Obj.cls_mapFields _ _,(zt4 _ _).trans gd,j,by simp[k],by rw[Array.getElem?_setIfInBounds_ne (by decide)];exact v,p.fresh,r,?_,x,C⟩;rw[db _ _ (Ne.symm r)];exact c8 h1 g
 ·intro b o q n
  obtain⟨sl,z⟩:=U.2.2 b o q;refine⟨sl,?_⟩;rw[db _ _ (λy:e=b=>by rw[<-y,c] at q;cases q;exact n vs I)];exact av _ z
 ·intro b o q
  obtain⟨sl,z⟩:=U.2.2 b o q;exact zme (λo q=>gh _ q (by rw[i] at q;cases q;exact Obj.isFreed_of_fields j)) b _ (av _ z)
variable{l:gj}{cls fl:Value}
def zt5(x:XOk B l e cls fl s.heap)(h:∀h',XOk B l e cls .none h'->s.heap.UpToSlots h'->Here s.heap h'->Q () { s with heap:=h' }):wpAny M A (setFlight (.ref e) none) Q E s:=by
 obtain⟨j,vs,T,k,ts,V,d,gd,Y,Z,g,a,c,D,I,i⟩:=x.tr;have sz:3<ts.size:=(j6.mp i).1;unfold setFlight;refine wpAny_bind (wpAny_field V Y Z ?_);have U:=Obj.data_mapFields I (·.setIfInBounds 3 ((none:Option Addr).elim Value.none λf=>rawInt f));refine wpAny_setField D I sz (h _ ⟨λb o q=>?_,x.new,x.fr.of_keeps λb o q n=>⟨o,?_,rfl⟩,_,vs,T,_,_,(db _ _ c).trans V,d,gd,Y,Z,g,a,c,gh _ D (Obj.isFreed_of_fields U),U,by simp[sz]⟩ (λb o q n=>⟨o.slots,?_⟩) (zme λo q=>gh _ q (by rw[D] at q;cases q;exact Obj.isFreed_of_fields U)))
 ·exact(db _ _ λz=>by rw[<-z,a] at q;cases q).trans (x.stay b o q)
 ·exact(db _ _ λz=>by rw[<-z,D] at q;cases q;exact n ts I).trans q
 ·exact(db _ _ λz=>by rw[<-z,D] at q;cases q;exact n ts I).trans q
def z5r(d:A.frames=some (env::outer))(U:env.frame=some L)(x:XOk B (env::outer) e cls .none s.heap)(h:∀h',XOk B (env::outer) e cls (rawInt L) h'->s.heap.UpToSlots h'->Here s.heap h'->Q () { s with heap:=h' }):wpAny M A (noteFrame (.ref e) env) Q E s:=by
 obtain⟨k,vs,T,l,ts,V,f,gd,Y,Z,g,i,j,D,I,a⟩:=x.tr;subst f;unfold noteFrame;simp only[U];refine wpAny_bind (wpAny_field V Y Z ?_);refine wpAny_bind (wpAny_field D I a ?_);refine wpAny_bind (wpAny_setField D I (j6.mp a).1 ?_);have c:∀b o,s.heap.get? b=some o->(∀vs,o.data≠.fields vs)->(s.heap.update T (Obj.mapFields (·.setIfInBounds 3 Value.none))).get? b=some o:=λb o q n =>
  (db _ _ λz=>by rw[<-z,D] at q;cases q;exact n ts I).trans q
 refine zyv d (x.fr.of_keeps λb o q n=>⟨o,c b o q n,rfl⟩) U ((db _ _ j).trans V) gd Y (j6.mp Z).1 g (λb o q=>(db _ _ λz=>by rw[<-z,i] at q;cases q).trans (x.stay b o q)) x.new λh' y u w=>h h' y (λb o q n=>u b o (c b o q n) n) (Here.trans (zme λo q=>gh _ q (by rw[D] at q;cases q;exact Obj.isFreed_of_fields (Obj.data_mapFields I _))) w)
def z5s(D:A.frames=some (env::outer))(I:env.frame=some L)(x:XOk B (env::outer) e cls .none s.heap)(h:∀h',XOk B (env::outer) e cls .none h'->s.heap.UpToSlots h'->Here s.heap h'->Q () { s with heap:=h' }):wpAny M A (noteFrame (.ref e) env) (λ_ U=>wpAny M A (setFlight (.ref e) none) Q E U) E s :=
 z5r D I x λh1 V Y Z=>zt5 V λh2 a b c=>h h2 a (Y.trans b) (Z.trans c)
def z3n{D:Heap}{args:fe}(V:A.frames=some (env::outer))(Y:D.FunFrames B (env::outer))(I:env.frame=some L)(k1:B.StaysIn D)(m:Heap.MadeExcOf D s.heap e cls args)(h:∀h',XOk B (env::outer) e cls .none h'->s.heap.UpToSlots h'->Here s.heap h'->Q () { s with heap:=h' }):wpAny M A (noteFrame (.ref e) env) (λ_ Z=>wpAny M A (setFlight (.ref e) none) Q E Z) E s:=by
 obtain⟨t,U,_,_⟩:=m.there;have k2:B.get? e=none:=by
  cases q:B.get? e with
  | none=>rfl
  | some o=>have:=k1 e o q;rw[m.new] at this;cases this
 unfold noteFrame;simp only[I];refine wpAny_bind (wpAny_field U rfl (x:=Value.none) rfl ?_);exact zyv V (Y.of_keeps λb o q _=>⟨o,m.keeps b o q,rfl⟩) I U rfl rfl (by simp) rfl (λb o q=>m.keeps b o (k1 b o q)) k2 λh1 a c d=>zt5 a λh2 f g i=>h h2 f (c.trans g) (d.trans i)
end L2
namespace L2
open PySem PySem.Spec PyProof.Rows PySem.W
def Cl(K:gu)(c:Str)(C:Addr):Prop:=PySem.W.nsIn K mainGlobals c=some (some (.ref C))
def Fly(P:Program)(w:World)(l:gj)(H:Hp)(s:Shared)(C e:Addr)(H':Hp)(s':Shared):Prop :=
 ∃B,XOk B l e (.ref C) .none s'.heap/\(∀b o,s.heap.get? b=some o->H b=none->b∉frs l->B.get? b=some o)/\HOk P w H' B/\Un (frs l) [] H H' s.heap s'.heap/\s'.os=s.os/\AllBare s'.gens
abbrev CXr(P:Program)(w:World):CXT:=λl H s E e s'=>∃D C H',e=.ref D/\Fly P w l H s C D H' s'/\E (.ref C) none H'
def XS(X:Cx)(pins:gx)(σ:St)(H:Hp)(C e:Addr)(s':Shared):Prop :=
 (∃s H1,Inv X pins σ H1 s/\Fly X.prog X.w X.stack H1 s C e H s')\/∃s args,Inv X pins σ H s/\Heap.MadeExcOf s.heap s'.heap e (.ref C) args/\s'={ s with heap:=s'.heap }
variable{CX:CXT}{P:Program}{w:World}{K:gu}{mg:Str->fg}{base:Heap}{x qual:Str}{st:Stmt}{f:Addr}{fd:FuncData}{N ps:c3}{k:Nat}{sp:Sp}
theorem Fun.okX(F:Fun K x qual st f fd)(S:sg N ps (i5 st))(len:∀vs H Q E,sp vs H Q E->vs.length=ps.length)(D:∀(cdv:Value) (A:Around) (outer:gj) (s:Shared) (H:Hp) (vs:g0) (Q:VK) (E:XK),Room k (A.deeper (envOfC qual (i5 st) s.heap.objs.size f cdv))->sp vs H Q E ->
   ∃t,PSs (cxOf CX P w K mg base N qual (i5 st) f cdv A outer s H E) (mh st) t/\t { nx:=λ_ H'=>Q .non H',rt:=Q } (start N vs) H):FnOk P w K mg base CX (k+1) f fd ps sp:=by
 obtain⟨oc,od,kV,Y,b,an,cdv,ct,osl,rfl,Z,I⟩:=F.ex;exact z5h Z I S len λA outer s H vs Q E a U=>D cdv A outer s H vs Q E a U
theorem Fun.okC(F:Fun K x qual st f fd)(S:sg N ps (i5 st))(len:∀vs H Q E,sp vs H Q E->vs.length=ps.length)(D:∀(cdv:Value) (A:Around) (outer:gj) (s:Shared) (H:Hp) (vs:g0) (Q:VK) (E:XK),Room k (A.deeper (envOfC qual (i5 st) s.heap.objs.size f cdv))->sp vs H Q E ->
   ∃t,PSs (cxOf CX P w K mg base N qual (i5 st) f cdv A outer s H E).nox (mh st) t/\t { nx:=λ_ H'=>Q .non H',rt:=Q } (start N vs) H):FnOk P w K mg base CX (k+1) f fd ps sp :=
 F.okX S len λcdv A outer s H vs Q E I h=>let ⟨t,p,q⟩:=D cdv A outer s H vs Q E I h;⟨t,p.nox,q⟩
variable{X:Cx}{pins:gx}{σ:St}{H H':Hp}{s s':Shared}{C e:Addr}
def Fly.inv(I:Inv X pins σ H s)(f:Fly X.prog X.w X.stack H s C e H' s'):Inv X pins σ H' s':=by
 obtain⟨B,x,_,D,un,os,U⟩:=f;exact I.call' (ch:=[]) os un (D.kept x.stay) U λb z=>absurd z (by simp)
def XS.come{E:Value->Shared->Prop}{Q:Unit->Shared->Prop}(h:XS X pins σ H' C e s')(V:X.stack=X.env::X.outer)(p:X.env.frame=some X.env.locals)(r:∀h2 D H1,Inv X pins σ H1 D->Fly X.prog X.w X.stack H1 D C e H' { s' with heap:=h2 }->Q () { s' with heap:=h2 }):wpAny (model X.prog X.w) X.A (noteFrame (.ref e) X.env) (λ_ D=>wpAny (model X.prog X.w) X.A (setFlight (.ref e) none) Q E D) E s':=by
 rcases h with⟨D,H1,I,f⟩ | ⟨D,args,I,m,es⟩
 ·obtain⟨B,x,s,t,un,os,v⟩:=f
  have st:=I.stack;rw[V] at x st;refine z5s (I.ok.frames.trans (by rw[V])) p x λh2 Y g Z=>r h2 D H1 I ⟨B,V ▸ Y,s,t,⟨λb o q n U _=>Y.stay b o (s b o q n U),λb o q n U i=>?_,un.free,λb o q i=>?_,un.tups,un.frzs,un.tbls⟩,os,v⟩
  ·obtain⟨sl,z⟩:=un.slot b o q n U i
   rw[V] at U;obtain⟨_,F,y,j⟩:=st.mem U;rw[q] at y;cases y;obtain⟨k,G⟩:=g b _ z j;exact⟨k,G⟩
  ·obtain⟨o',z⟩:=un.there b o q i
   exact Z b o' z
 ·have st:=I.stack
  have H:∀b∈frs X.stack,H' b=none:=I.stkFree;have d:∀b o,H' b=some o->b∉frs X.stack:=λb o q z=>by rw[H b z] at q;cases q
  have l:HOk X.prog X.w H' (hideAll D.heap (frs X.stack)):=λb o q =>
   (I.hok b o q).stay (λc u hc z=>hideAll_get _ z (by rcases hc with rfl | hc;exact d _ _ q;exact d _ _ hc)) (λ_ z=>z) λ_ _ z=>z
  have J:D.heap.FunFrames (hideAll D.heap (frs X.stack)) (X.env::X.outer):=V ▸ funFrames_hide (as:=frs X.stack) st λenv Z a K=>m9.mpr ⟨env,Z,K⟩;refine z3n (B:=hideAll D.heap (frs X.stack)) (I.ok.frames.trans (by rw[V])) J p (λb o q=>of_hideAll _ q) m λh2 Y g Z=>r h2 D H' I ⟨_,V ▸ Y,λb o q n U=>hideAll_get _ q U,l,⟨λb o q n U _=>Y.stay b o (hideAll_get _ q U),λb o q n U _=>?_,λ_ _ _ n _=>n,λb o q _=>Z b o (m.keeps b o q),λ_ _ z=>z,λ_ _ _ z=>z,λ_ ps z=>⟨#[],by rw[Array.append_empty];exact z⟩⟩,by rw[es],by rw[es];exact I.bare⟩;obtain⟨_,F,y,j⟩:=st.mem U;rw[q] at y;cases y;exact g b o (m.keeps b o q) j
def zlr{scope:Scope}{D:Value}{A:Around}{outer:gj}{s₀:Shared}{H₀:Hp}{E:XK}(h:XS (cxOf (CXr P w) P w K mg base N qual scope f D A outer s₀ H₀ E) pins σ H' C e s')(V:E (.ref C) none H'):(cxOf (CXr P w) P w K mg base N qual scope f D A outer s₀ H₀ E).xe (.ref e) s':=by
 refine wpAny_bind (h.come rfl rfl λh2 a H1 I f=>⟨e,C,H',rfl,?_,V⟩);have J:=f.inv I;obtain⟨B,x,Y,Z,_⟩:=f;refine⟨B,⟨x.stay,x.new,x.fr.2.2,x.tr⟩,λb o q n U=>?_,Z,J.base,J.os,J.bare⟩;refine Y b o (I.base.keep b o q n U (by simp[cxOf])) (I.base.free b o q n (by simp[cxOf])) λz=>?_;rcases b7.mp (show b∈s₀.heap.objs.size::frs outer from z) with z | z
 ·rw[z] at q;exact absurd (bw q) (ft _)
 ·exact U z
end L2
namespace L2
open PySem PySem.Spec PyProof.Rows
inductive Fl where
 | nx | bk | ct | rt (d:D) | rf (ds:g2) | r2 (dss:List g2) | xc (c:Str) | ra (k:AK) (ps:g4)
abbrev FS:=DE0->Option (Fl×DE0)
structure N2 (K:gu) (G:Gd) (H0 H:Hp) (l:Addr) (ls:fh) (dss:List g2):Prop where
 nd:(l::ls).Nodup
 new:∀a∈l::ls,H0 a=none
 top:H l=some (.lst (ls.map V.ref))
 len:ls.length=dss.length
 inn:∀(j:Nat) (ds:g2) (a:Addr),dss[j]?=some ds->ls[j]?=some a->∃vs,H a=some (.lst vs)/\Reps K H (λb=>G b/\b∉l::ls) ds vs
def EndOk(X:Cx)(G:Gd)(H0:Hp)(W:Addr->Prop)(H:Hp)(Dn:Ends)(env':DE0):Fl->Prop
 | .nx=>∀W' σ' H',Step W H W' H'->Ok X.K G H0 W' env' σ' H'->Dn.nx σ' H'
 | .bk=>∀W' σ' H',Step W H W' H'->Ok X.K G H0 W' env' σ' H'->Dn.bk σ' H'
 | .ct=>∀W' σ' H',Step W H W' H'->Ok X.K G H0 W' env' σ' H'->Dn.ct σ' H'
 | .rt d=>∀W' σ' v H',Step W H W' H'->Ok X.K G H0 W' env' σ' H'->Rep X.K H' (Ow G W') d v->Dn.rt v H'
 | .rf ds=>∀l vs H',Same H0 H'->H0 l=none->H' l=some (.lst vs)->Reps X.K H' (λa=>G a/\a≠l) ds vs->Dn.rt (.ref l) H'
 | .r2 dss=>∀l ls H',Same H0 H'->N2 X.K G H0 H' l ls dss->Dn.rt (.ref l) H'
 | .xc c=>∀W' σ' H' C,Cl X.K c C->Step W H W' H'->Ok X.K G H0 W' env' σ' H'->∀pins e s',XS X pins σ' H' C e s'->X.xe (.ref e) s'
 | .ra k ps=>∀W' σ' p H',Step W H W' H'->Ok X.K G H0 W' env' σ' H'->SlOk X.K G W' H' (.ag k none ps) (.ref p)->Dn.rt (.ref p) H'
def tDS(X:Cx)(G:Gd)(H0:Hp)(g:FS):TS:=λDn σ H=>DP X.K G H0 g (λW env fl env'=> EndOk X G H0 W H Dn env' fl) σ H
structure DSx (X:Cx) (G:Gd) (H0:Hp) (s:Stmt) (g:FS):Prop where
 out:PS X s (tDS X G H0 g)
structure DBx (X:Cx) (G:Gd) (H0:Hp) (s:List Stmt) (g:FS):Prop where
 out:PSs X s (tDS X G H0 g)
variable{X:Cx}{e:Expr}{t t':TS}
def PS.imp{e:Stmt}(h:PS X e t)(i:∀D σ H,t' D σ H->t D σ H):PS X e t':=λpins s σ H D I q=>h pins s σ H D I (i D σ H q)
def PSs.imp{e:List Stmt}(h:PSs X e t)(i:∀D σ H,t' D σ H->t D σ H):PSs X e t':=λpins s σ H D I q=>h pins s σ H D I (i D σ H q)
variable{G:Gd}{W W1:Addr->Prop}{H0 H H1:Hp}{Dn:Ends}{env':DE0}{fl:Fl}
def EndOk.step(st:Step W H W1 H1)(h:EndOk X G H0 W H Dn env' fl):EndOk X G H0 W1 H1 Dn env' fl:=by
 cases fl with
 | nx=>exact λW' σ' H' s o=>h W' σ' H' (st.trans s) o
 | bk=>exact λW' σ' H' s o=>h W' σ' H' (st.trans s) o
 | ct=>exact λW' σ' H' s o=>h W' σ' H' (st.trans s) o
 | rt d=>exact λW' σ' v H' s o=>h W' σ' v H' (st.trans s) o
 | rf ds=>exact h
 | r2 dss=>exact h
 | xc c=>exact λW' σ' H' C z s o=>h W' σ' H' C z (st.trans s) o
 | ra k ps=>exact λW' σ' p H' s o=>h W' σ' p H' (st.trans s) o
def Fl.out:Fl->Bool | .rt _=>true | .rf _=>true | .r2 _=>true | .xc _=>true | .ra _ _=>true | _=>false
variable{Dn':Ends}
protected def EndOk.go(D:fl.out=true)(h:EndOk X G H0 W H Dn env' fl)(e:Dn'.rt=Dn.rt)(st:Step W H W1 H1):EndOk X G H0 W1 H1 Dn' env' fl:=by
 cases fl with
 | nx=>cases D
 | bk=>cases D
 | ct=>cases D
 | rt d=>intro W' σ' v H' s o r;rw[e];exact h W' σ' v H' (st.trans s) o r
 | rf ds=>intro v vs H' s n l r;rw[e];exact h v vs H' s n l r
 | r2 dss=>intro v ls H' s n;rw[e];exact h v ls H' s n
 | xc c=>exact λW' σ' H' C z s o=>h W' σ' H' C z (st.trans s) o
 | ra k ps=>intro W' σ' p H' s o r;rw[e];exact h W' σ' p H' (st.trans s) o r
@[simp] noncomputable def sNil:FS:=λe=>some (.nx,e)
@[simp] noncomputable def sSeq(g h:FS):FS:=λe=>(g e).bind λr=>match r.1 with | .nx=>h r.2 | _=>some r
@[simp] noncomputable def sSet(i:Nat)(f:FE):FS:=λe=>(f e).map λr=>(.nx,r.2.set i (some (.sh r.1)))
@[simp] noncomputable def sOwn(i:Nat)(f:FA):FS:=λe=>(f e).map λr=>(.nx,r.2.set i (some (.ow r.1)))
@[simp] noncomputable def sRet(f:FE):FS:=λe=>(f e).map λr=>(.rt r.1,r.2)
@[simp] noncomputable def sIf(c:FT)(g h:FS):FS:=λe=>(c e).bind λr=>if r.1=true then g r.2 else h r.2
@[simp] noncomputable def jo(f:FE):FS:=λe=>(f e).map λr=>(.nx,r.2)
@[simp] noncomputable def z7:FS:=λ_=>none
def forL(i:Nat)(g:FS):g2->DE0->Option (Fl×DE0)
 | [],e=>some (.nx,e)
 | d::r,e=>(g (e.set i (some (.sh d)))).bind λq=>match q.1 with | .nx=>forL i g r q.2 | .ct=>forL i g r q.2 | .bk=>some (.nx,q.2) | .rt d=>some (.rt d,q.2) | .rf ds=>some (.rf ds,q.2) | .r2 ds=>some (.r2 ds,q.2) | .xc c=>some (.xc c,q.2) | .ra k ps=>some (.ra k ps,q.2)
@[simp] noncomputable def sFor(i:Nat)(fi:FI)(g:FS):FS:=λe=>(fi e).bind λr=>forL i g r.1 r.2
def mn(c:FT)(g:FS):Nat->DE0->Option (Fl×DE0)
 | 0,_=>none
 | n+1,e=>(c e).bind λr=>if r.1=true then(g r.2).bind λq=>match q.1 with | .nx=>mn c g n q.2 | .ct=>mn c g n q.2 | .bk=>some (.nx,q.2) | .rt d=>some (.rt d,q.2) | .rf ds=>some (.rf ds,q.2) | .r2 ds=>some (.r2 ds,q.2) | .xc c=>some (.xc c,q.2) | .ra k ps=>some (.ra k ps,q.2) else some (.nx,r.2)
section
variable {X:Cx} {G:Gd} {H0:Hp} {a b c e:Expr} {es rest:gp} {f g:FE} {F:FA} {p q:FT} {s:Stmt} {ss:List Stmt} {u v:FS} {pos p' p1 pos1:Pos} {x:Str} {i:Nat}
def jz  : DBx X G H0 [] sNil:=⟨zzl.imp λDn σ H D=>by
 obtain⟨W,env,fl,env',ok,q,k⟩:=D;cases q;exact k W σ H Step.refl ok⟩
def eh(h1:DSx X G H0 s u)(h2:DBx X G H0 ss v):DBx X G H0 (s::ss) (sSeq u v):=⟨(zv4 h1.out h2.out).imp λDn σ H V=>by
 obtain⟨W,env,fl,env',ok,q,k⟩:=V;cases e1:u env with
 | none=>simp[e1] at q
 | some r =>
   obtain⟨I,D⟩:=r;refine⟨W,env,I,D,ok,e1,?_⟩;cases I with
   | nx =>
     have q:v D=some (fl,env'):=by simpa[sSeq,e1] using q
     exact λW1 Y H1 Z U=>⟨W1,D,fl,env',U,q,k.step Z⟩
   | bk =>
     have q:some (Fl.bk,D)=some (fl,env'):=by simpa[sSeq,e1] using q
     cases q;exact k
   | ct =>
     have q:some (Fl.ct,D)=some (fl,env'):=by simpa[sSeq,e1] using q
     cases q;exact k
   | rt d =>
     have q:some (Fl.rt d,D)=some (fl,env'):=by simpa[sSeq,e1] using q
     cases q;exact k
   | rf d =>
     have q:some (Fl.rf d,D)=some (fl,env'):=by simpa[sSeq,e1] using q
     cases q;exact k
   | r2 d =>
     have q:some (Fl.r2 d,D)=some (fl,env'):=by simpa[sSeq,e1] using q
     cases q;exact k
   | xc d =>
     have q:some (Fl.xc d,D)=some (fl,env'):=by simpa[sSeq,e1] using q
     cases q;exact k
   | ra d d' =>
     have q:some (Fl.ra d d',D)=some (fl,env'):=by simpa[sSeq,e1] using q
     cases q;exact k⟩
def e9(h:DSx X G H0 s u):DBx X G H0 [s] u:=⟨zzm h.out⟩
def z3o(V:X.N.Nodup)(hi:X.N[i]?=some x:=by rfl)(Y:DEx X G H0 e f)(ps:PS X (.Assign [.Name x p'] e pos) (tAsg (tD X.K G H0 f) (ng i))):DSx X G H0 (.Assign [.Name x p'] e pos) (sSet i f):=⟨ps.imp λDn σ H I=>by
 obtain⟨W,env,fl,env',ok,q,k⟩:=I;cases e1:f env with
 | none=>simp[e1] at q
 | some r =>
   have q:some (Fl.nx,r.2.set i (some (Sl.sh r.1)))=some (fl,env'):=by simpa[sSet,e1] using q
   cases q;exact⟨W,env,_,_,ok,e1,λW1 v1 H1 U D p1=>k W1 _ H1 U (D.set p1)⟩⟩
def l6(ps:PS X (.Assign [.Name x p'] e pos) (tAsg (tDF X.K G H0 F) (ng i))):DSx X G H0 (.Assign [.Name x p'] e pos) (sOwn i F):=⟨ps.imp λDn σ H U=>by
 obtain⟨W,env,fl,env',ok,q,k⟩:=U;cases e1:F env with
 | none=>simp[e1] at q
 | some r =>
   have q:some (Fl.nx,r.2.set i (some (Sl.ow r.1)))=some (fl,env'):=by simpa[sOwn,e1] using q
   cases q;exact⟨W,env,_,_,ok,e1,λW1 l vs H1 V D I Y Z a=>k (addW W1 l) _ H1 V (I.setO (.inr rfl) Z a (D.noOwn Y))⟩⟩
def im(I:DEx X G H0 e f):DSx X G H0 (.Return (some e) pos) (sRet f):=⟨(zyg I.out).imp λDn σ H U=>by
 obtain⟨W,env,fl,env',ok,q,k⟩:=U;cases e1:f env with
 | none=>simp[e1] at q
 | some r =>
   have q:some (Fl.rt r.1,r.2)=some (fl,env'):=by simpa[sRet,e1] using q
   cases q;exact⟨W,env,_,_,ok,e1,λW1 v1 H1 V D p1=>k W1 σ v1 H1 V D p1⟩⟩
def fOwn(i:Nat):FA:=λe=>match e[i]? with | some (some (.ow ds))=>some (ds,e.set i none) | _=>none
@[simp] noncomputable def vt(i:Nat):FS:=λe=>match e[i]? with | some (some (.ow ds))=>some (.rf ds,e) | _=>none
def zt6{Nn Cn:c3}{i:Nat}(an:Ats Nn Cn X)(D:Nn[i]?=some x:=by rfl):DSx X G H0 (.Return (some (.Name x p')) pos) (vt i):=⟨(zyg ((an.a D).pe)).imp λDn σ H U=>by
 obtain⟨W,env,fl,env',ok,q,k⟩:=U;unfold vt at q;split at q
 ·rename_i ds V
  cases q;obtain⟨v,Y,l,vs,rfl,I,Z,r⟩:=ok.slot i _ V;exact⟨_,Y,k l vs H ok.stay (ok.wl l I).1 Z (r.mono (λ_ _ h=>h) λa us o h=>⟨⟨o.1,λz=>o.2 (z ▸ I)⟩,h⟩)⟩
 ·cases q⟩
def jy{U V:List Stmt}(Z:DTx X G H0 c p)(a:DBx X G H0 U u)(b:DBx X G H0 V v):DSx X G H0 (.If c U V pos) (sIf p u v):=⟨(z5a Z.out a.out b.out).imp λDn σ H d=>by
 obtain⟨W,env,fl,env',ok,q,k⟩:=d;cases e1:p env with
 | none=>simp[e1] at q
 | some r =>
   obtain⟨t,D⟩:=r;refine⟨W,env,t,D,ok,e1,λW1 H1 Y I=>?_⟩;cases t with
   | true=>rw[if_pos rfl];exact⟨W1,D,fl,env',I,by simpa[sIf,e1] using q,k.step Y⟩
   | false=>rw[if_neg ce];exact⟨W1,D,fl,env',I,by simpa[sIf,e1] using q,k.step Y⟩⟩
def zmf  : DSx X G H0 s z7:=⟨zv5.imp λDn σ H ⟨W,env,fl,env',ok,q,k⟩=>by cases q⟩
def kn(I:DEx X G H0 e f)(U:swapsWith e none pos.line X.env=pure false:=by rfl):DSx X G H0 (.Expr e pos) (jo f):=⟨(zs3 I.out U).imp λDn σ H V=>by
 obtain⟨W,env,fl,env',ok,q,k⟩:=V;cases e1:f env with
 | none=>simp[e1] at q
 | some r =>
   have q:some (Fl.nx,r.2)=some (fl,env'):=by simpa[jo,e1] using q
   cases q;exact⟨W,env,_,_,ok,e1,λW1 v1 H1 Y D p1=>k W1 σ H1 Y D⟩⟩
structure z0f (K:gu) (G:Gd) (J:It) (W:Addr->Prop) (H:Hp) (ds:g2):Prop where
 go:∀W' H' (i:Nat) d,Step W H W' H'->ds[i]?=some d->J.go i H'/\∀x H'',J.yld i H' x H''->Same H' H''/\Rep K H'' (Ow G W') d x
 stop:∀W' H',Step W H W' H'->J.stop ds.length H'
def tDJ(K:gu)(G:Gd)(H0:Hp)(f:FI):TI:=λσ H R=>DP K G H0 f (λW env ds env' =>
 ∀W' J H',Step W H W' H'->Ok K G H0 W' env' σ H'->z0f K G J W' H' ds->R J H') σ H
structure DJx (X:Cx) (G:Gd) (H0:Hp) (tg:Expr) (e:Expr) (f:FI):Prop where
 out:PI X tg e (tDJ X.K G H0 f)
def DIC.dj{tg:Expr}{f:FI}(h:DIx X G H0 tg a f):DJx X G H0 tg a f:=⟨h.out.imp λσ H R z=>by
 obtain⟨W,env,ds,env',ok,q,k⟩:=z;exact⟨W,env,ds,env',ok,q,λW' J H' st D w=>k W' J H' st D ⟨λI H2 i d s e=>⟨(w.go I H2 i d s e).1,λx U y=>by
  obtain⟨V,r⟩:=(w.go I H2 i d s e).2 x U y;cases V;exact⟨Same.refl _,r⟩⟩,w.stop⟩⟩⟩
def forK(k:DE0->Option (Fl×DE0))(q:Fl×DE0):Option (Fl×DE0):=match q.1 with | .nx=>k q.2 | .ct=>k q.2 | .bk=>some (.nx,q.2) | .rt d=>some (.rt d,q.2) | .rf ds=>some (.rf ds,q.2) | .r2 ds=>some (.r2 ds,q.2) | .xc c=>some (.xc c,q.2) | .ra k ps=>some (.ra k ps,q.2)
def EndOk.loop{Dn:Ends}{W W':Addr->Prop}{H H':Hp}{fl Y:Fl}{I env':DE0}{N:St->Hp->Prop}{kk:DE0->Option (Fl×DE0)}(k:EndOk X G H0 W H Dn env' fl)(st:Step W H W' H')(Z:forK kk (Y,I)=some (fl,env'))(a:∀V D H2,Step W' H' V H2->Ok X.K G H0 V I D H2->kk I=some (fl,env')->N D H2) :
  EndOk X G H0 W' H' { Dn with nx:=N,ct:=N,bk:=Dn.nx } I Y:=by
 cases Y with
 | nx=>exact λV D H2 s2 U=>a V D H2 s2 U Z
 | ct=>exact λV D H2 s2 U=>a V D H2 s2 U Z
 | bk=>cases Z;exact λV D H2 s2 U=>k V D H2 (st.trans s2) U
 | _=>cases Z;exact k.go rfl rfl st
inductive FInv (X:Cx) (G:Gd) (H0:Hp) (W1:Addr->Prop) (H1:Hp) (ds:g2) (L:g2->DE0->Option (Fl×DE0)) (r:Option (Fl×DE0)) (n m:Nat) (σ:St) (H:Hp):Prop
 | mk (W:Addr->Prop) (env:DE0) (hm:m=ds.length-n) (hn:n<=ds.length) (st:Step W1 H1 W H) (ok:Ok X.K G H0 W env σ H) (ef:L (ds.drop n) env=r):FInv X G H0 W1 H1 ds L r n m σ H
def zt7{tg:Expr}{g:TG}{body:List Stmt}{fi:FI}{b:D->DE0->Option DE0}{L:g2->DE0->Option (Fl×DE0)}(hi:DJx X G H0 tg a fi)(i:PG X tg g)(E:DBx X G H0 body u)(F:∀ {W env env' σ H d x} {Q:St->Hp->Prop},Ok X.K G H0 W env σ H->Rep X.K H (Ow G W) d x->b d env=some env'->(∀σ',Ok X.K G H0 W env' σ' H->Q σ' H)->g x σ H Q)(M:∀e,L [] e=some (.nx,e))(h1:∀d r e,L (d::r) e=(b d e).bind λe'=>(u e').bind λq=>forK (L r) q)(N:PassesOwn (model X.prog X.w) X.A X.env X.xe)(O:X.calm=true)(P:∀x,foldedSetIterable a X.env x=pure x):DSx X G H0 (.For tg a body [] pos) (λe=>(fi e).bind λr=>L r.1 r.2):=⟨(z2i N O hi.out i E.out P).imp λDn σ H z=>by
 obtain⟨W,env,fl,env',ok,q,k⟩:=z;obtain⟨⟨ds,U⟩,R,q⟩:=df.mp q;refine⟨W,env,ds,U,ok,R,λW1 J H1 t j v=>⟨FInv X G H0 W1 H1 ds L (some (fl,env')),⟨ds.length,W1,U,rfl,dy _,Step.refl,j,q⟩,λn m σ' H' z=>?_⟩⟩;obtain⟨W',B,S,T,st,Z,V⟩:=z;subst S;by_cases I:n<ds.length
 ·rw[fb I,h1] at V
  obtain⟨c,e2,V⟩:=df.mp V;obtain⟨⟨l,Y⟩,e3,V⟩:=df.mp V;obtain⟨i,hy⟩:=v.go W' H' n ds[n] st (ak I);refine .inr ⟨i,λf H2=>∃C,C<ds.length-n/\FInv X G H0 W1 H1 ds L (some (fl,env')) (n+1) C f H2,λ_ _ h=>h,λx o y=>?_⟩;obtain⟨sm,rx⟩:=hy x o y;have sn:=st.trans (Step.same sm);exact F (Z.same sm) rx e2 λaa p=>⟨W',c,l,Y,p,e3,k.loop (t.trans sn) V λW2 f H2 s2 s e=>⟨_,l7 _ _ I,W2,Y,rfl,I,sn.trans s2,s,e⟩⟩
 ·cases qx T (js I)
  rw[i8,M] at V;cases V;exact .inl ⟨v.stop W' H' st,k W' σ' H' (t.trans st) Z⟩⟩
def lw{tg:Str}{px:Pos}{body:List Stmt}{fi:FI}(hi:DIx X G H0 (.Name tg px) a fi)(D:PG X (.Name tg px) (ng i))(I:DBx X G H0 body u)(U:PassesOwn (model X.prog X.w) X.A X.env X.xe:=by passes_own)(V:X.calm=true:=by rfl)(Y:∀x,foldedSetIterable a X.env x=pure x:=by intro _;rfl):DSx X G H0 (.For (.Name tg px) a body [] pos) (sFor i fi u) :=
 zt7 (b:=λd e=>some (e.set i (some (.sh d)))) (L:=forL i u) hi.dj D I (λok r e k=>by cases e;exact k _ (ok.set r)) (λ_=>rfl) (λ_ _ _=>rfl) U V Y
inductive WInv (X:Cx) (G:Gd) (H0:Hp) (W1:Addr->Prop) (H1:Hp) (L:Nat->DE0->Option (Fl×DE0)) (r:Option (Fl×DE0)) (m:Nat) (σ:St) (H:Hp):Prop
 | mk (W:Addr->Prop) (env:DE0) (st:Step W1 H1 W H) (ok:Ok X.K G H0 W env σ H) (ef:L m env=r):WInv X G H0 W1 H1 L r m σ H
def zqo{body:List Stmt}{n:Nat}(j:DTx X G H0 c p)(l:DBx X G H0 body u)(o:PassesOwn (model X.prog X.w) X.A X.env X.xe:=by passes_own):DSx X G H0 (.While c body [] pos) (mn p u n):=⟨(zv7 o j.out l.out).imp λDn σ H z=>by
 obtain⟨W,env,fl,env',ok,q,k⟩:=z;refine⟨WInv X G H0 W H (mn p u) (some (fl,env')),⟨n,W,env,Step.refl,ok,q⟩,λm σ' H' z=>?_⟩;obtain⟨W',V,st,a,U⟩:=z;cases m with
 | zero=>cases U
 | succ m =>
   obtain⟨⟨t,D⟩,r,U⟩:=df.mp U;refine⟨W',V,t,D,a,r,λf H2 s2 Y=>?_⟩;cases t with
   | false =>
     cases U;exact k f σ' H2 (st.trans s2) Y
   | true =>
     obtain⟨⟨b,I⟩,s,U⟩:=df.mp U;exact⟨λZ g=>∃i,i<m+1/\WInv X G H0 W H (mn p u) (some (fl,env')) i Z g,λ_ _ h=>h,f,D,b,I,Y,s,k.loop (kk:=mn p u m) (st.trans s2) U λv Z g x d e=>⟨m,di _,v,I,(st.trans s2).trans x,d,e⟩⟩⟩
end
variable{n:Nat}
def lt20(h:n<2 ^ 20):n<sizeLine:=bq h (by rw[sizeLine_eq];decide)
@[simp] noncomputable def rh(d:D)(e:DE0)(i:Nat):Option (D×DE0):=match e[i]? with
 | some (some (.ow ds))=>if Few (ds.length+1) then some (.non,e.set i (some (.ow (ds++[d])))) else none
 | _=>none
@[simp] noncomputable def lp(i:Nat)(f:FE):FE:=λe=>match e[i]? with
 | some (some (.ow _))=>(f e).bind λr=>rh r.1 r.2 i
 | _=>none
variable{Nn Cn:c3}{i:Nat}{a:Expr}{f:FE}{pos p' p1:Pos}{x:Str}
def pc(n:DEx X G H0 a f)(an:Ats Nn Cn X)(b:Nn[i]?=some x:=by rfl)(D:attributeBase (.Name x p') "append" X.env (eval (.Name x p') X.env)=eval (.Name x p') X.env:=by rfl)(U:((backTo pos (starEach [a] X.env)).all (λx=>!x.1) && (backToKw pos (keywordEach [] X.env)).all (λx=>x.1.isSome)
   && decide ([a].length+([]:List Keyword).length+(if ([]:List Keyword).isEmpty then 0 else 1)<30))=true:=by rfl)(I:(p1.endLine==pos.line)=true:=by rfl)(h:starEach [a] X.env=(false,eval a X.env)::starEach [] X.env:=by rfl) :
  DEx X G H0 (.Call (.Attribute (.Name x p') "append" p1) [a] [] pos) (lp i f):=⟨(wb fm kl kj zkd ((an.a b).pe) (o8 n.out qg h) D U I h rfl).imp λσ H Q o=>by
 obtain⟨W,env,d,env',ok,q,k⟩:=o;unfold lp at q;split at q;case h_2=>cases q
 rename_i p c;obtain⟨v,e,l,s,rfl,t,g,_⟩:=ok.slot i _ c;cases e1:f env with
 | none=>rw[e1] at q;cases q
 | some r =>
   obtain⟨u,V⟩:=r;rw[e1,ac] at q;unfold rh at q;split at q;case h_2=>cases q
   rename_i ds j;split at q;case isFalse=>cases q
   rename_i Y;cases q;refine⟨_,e,.inl ⟨rfl,_,.inl (.inl g)⟩,W,env,u,V,ok,e1,λW1 v1 H1 w Z y=>?_⟩;obtain⟨E,m,F,vs,z,J,A,r⟩:=Z.slot i _ j;rw[e] at m;cases m;cases z;obtain⟨B,C⟩:=Z.turn j e (r.append (.cons y .nil));exact⟨l,vs,v1,rfl,rfl,A,by rw[<-r.length];exact lt20 (kc Y),k W1 _ _ (w.trans C) B .non⟩⟩
@[simp] noncomputable def fPop(i:Nat):FE:=λe=>match e[i]? with
 | some (some (.ow ds))=>(ds[ds.length-1]?).map λd=>(d,e.set i (some (.ow ds.dropLast)))
 | _=>none
def z3p(an:Ats Nn Cn X)(U:Nn[i]?=some x:=by rfl)(D:attributeBase (.Name x p') "pop" X.env (eval (.Name x p') X.env)=eval (.Name x p') X.env:=by rfl)(I:(p1.endLine==pos.line)=true:=by rfl) :
  DEx X G H0 (.Call (.Attribute (.Name x p') "pop" p1) [] [] pos) (fPop i):=⟨(z20 fm PySem.F.slot_list_pop PySem.F.type_list_pop z21 ((an.a U).pe) D I).imp λσ H Q c=>by
 obtain⟨W,env,d,env',ok,q,k⟩:=c;unfold fPop at q;split at q;case h_2=>cases q
 rename_i ds V;obtain⟨v,Y,l,vs,rfl,h,Z,r⟩:=ok.slot i _ V;cases e1:ds[ds.length-1]? with
 | none=>rw[e1] at q;cases q
 | some d' =>
   rw[e1] at q;cases q;obtain⟨u,e,f⟩:=r.get e1;obtain⟨g,b⟩:=ok.turn V Y r.dropLast;exact⟨_,Y,.inl ⟨rfl,_,.inl (.inl Z)⟩,l,vs,u,rfl,rfl,Z,by rw[<-r.length];exact e,k W _ _ b g (ok.rep b f)⟩⟩
def z5t(k:D)(e:DE0)(i:Nat):Option (D×DE0):=match k,e[i]? with
 | .int k,some (some (.ow ds))=>if Few ds.length then(ixN ds.length k).bind λj=>(ds[j]?).map λd=>(d,e.set i (some (.ow (ds.eraseIdx j)))) else none
 | _,_=>none
def z3q(i:Nat)(f:FE):FE:=λe=>match e[i]? with
 | some (some (.ow _))=>(f e).bind λr=>z5t r.1 r.2 i
 | _=>none
@[simp] noncomputable def vq(d k:D)(e:DE0)(i:Nat):Option (Fl×DE0):=match k,e[i]? with
 | .int k,some (some (.ow ds))=>(ixN ds.length k).map λj=>(.nx,e.set i (some (.ow (ds.set j d))))
 | _,_=>none
@[simp] noncomputable def p7(i:Nat)(D I:FE):FS:=λe=>(I e).bind λr=>match r.2[i]? with
 | some (some (.ow _))=>(D r.2).bind λq=>vq r.1 q.1 q.2 i
 | _=>none
variable{b:Expr}{g:FE}
def zjx(o:DEx X G H0 b g)(p:DEx X G H0 e f)(an:Ats Nn Cn X)(Z:Nn[i]?=some x:=by rfl)(s:swapsWithSole [.Subscript (.Name x p') b p1] e pos.line X.env=pure false:=by rfl)(t:swappedStores [.Subscript (.Name x p') b p1] e X.env=pure none:=by rfl)(h1:(assignEach [.Subscript (.Name x p') b p1] X.env).map (·.2)=[assign (.Subscript (.Name x p') b p1) X.env]:=by rfl)(U:∀v,assign (.Subscript (.Name x p') b p1) X.env v=(do
   let ov <-holding [v] (eval (.Name x p') X.env);let iv <-holding [v,ov] (eval b X.env)
   standAt p1
   holding [v,ov,iv] (setItem ov iv v)
   release [v,ov,iv] []):=by intro _;rfl) :
  DSx X G H0 (.Assign [.Subscript (.Name x p') b p1] e pos) (p7 i g f):=⟨(z2c p.out (z2b ((an.a Z).pe) o.out zl6 U) s t h1).imp λDn σ H u=>by
 obtain⟨W,env,fl,env',ok,q,k⟩:=u;cases e1:f env with
 | none=>simp[e1] at q
 | some r =>
   obtain⟨w,D⟩:=r;simp only[p7,e1,ac] at q;split at q;case h_2=>cases q
   rename_i y c;cases e2:g D with
   | none=>rw[e2] at q;cases q
   | some d =>
     obtain⟨N,V⟩:=d;rw[e2,ac] at q;unfold vq at q;dsimp only at q;split at q;case h_2=>cases q
     rename_i kk ds m;cases e3:ixN ds.length kk with
     | none=>rw[e3] at q;cases q
     | some j =>
       rw[e3] at q;cases q;refine⟨W,env,w,D,ok,e1,λW1 v1 H1 z I A=>?_⟩;obtain⟨v,h,l,B,rfl,C,E,_⟩:=I.slot i _ c;refine⟨_,h,W1,D,_,V,I,e2,λF v2 H2 s2 Y d=>?_⟩;obtain⟨O,n,P,vs,J,Q,K,r⟩:=Y.slot i _ m;rw[h] at n;cases n;cases J;obtain⟨L,M⟩:=Y.turn m h (Reps.set (I.rep s2 A) j r);exact⟨l,vs,kk,j,rfl,d.int_,K,by rw[<-r.length];exact e3,k F _ _ ((z.trans s2).trans M) L⟩⟩
def jw(n:Nat)(ds:g2):DE0:=ds.map (λd=>some (Sl.sh d))++List.replicate (n-ds.length) none
def runD(n ar:Nat)(g:FS):g2->g3:=λds=>if ds.length=ar then(match g (jw n ds) with | some (.rt d,_)=>some d | some (.nx,_)=>some .non | _=>none) else none
def runF(n ar:Nat)(g:FS):g2->Option g2:=λds=>if ds.length=ar then(match g (jw n ds) with | some (.rf d,_)=>some d | _=>none) else none
def zhq:∀ {n:Nat} {ds:g2} {i:Nat} {s:Sl},(jw n ds)[i]?=some (some s)->∃d,ds[i]?=some d/\s=.sh d:=λ{n ds i s} h=>by
 unfold jw at h;by_cases hi:i<ds.length
 ·rw[bf (by simpa using hi),az] at h
  cases e:ds[i]? with
  | none=>rw[e] at h;cases h
  | some d=>rw[e] at h;cases h;exact⟨d,rfl,rfl⟩
 ·rw[ci (by simpa using hi),kx] at h
  split at h <;> cases h
variable{O:Addr->Prop}{ds:g2}{vs:g0}{N:c3}{K:gu}
def yp(r:Reps K H O ds vs):Ok K (gd λa=>O a\/H a=none) H NoW (jw N.length ds) (start N vs) H:=by
 refine⟨Same.refl _,λa z=>.inr z,λl z=>z.elim,λi s e=>?_,λi j V s2 v1 v2 a D _ _ _ o _=>?_,?_⟩
 ·obtain⟨d,D,rfl⟩:=zhq e
  obtain⟨v,I,U⟩:=r.get D;refine⟨v,?_,U.mono (λ_ _ h=>h) λa us o h=>⟨⟨.inl o,λz=>z⟩,h⟩⟩;unfold start;rw[bf (by simpa using(am.mp I).1),az,I];rfl
 ·obtain⟨d,_,z⟩:=zhq D
  subst z;exact o.elim
 ·unfold jw start
  rw[aj,aj,ae,ae,fz,fz,r.length]
variable{f:Addr}{CX:CXT}{qual:Str}{st:Stmt}{fd:FuncData}{ps:c3}{k ar:Nat}{P:Program}{w:World}{mg:Str->fg}{base:Heap}
theorem fn_D{g:FS}(F:Fun K x qual st f fd)(S:sg N ps (i5 st))(V:n=N.length)(Y:ar=ps.length)(D:∀(cdv:Value) (A:Around) (outer:gj) (s:Shared) (H:Hp) (E:XK) (G:Gd) (H0:Hp),Room k (A.deeper (envOfC qual (i5 st) s.heap.objs.size f cdv)) ->
   DBx (cxOf CX P w K mg base N qual (i5 st) f cdv A outer s H E).nox G H0 (mh st) g):FnOk P w K mg base CX (k+1) f fd ps (dSp K (runD n ar g)):=by
 subst V Y;refine F.okC S (λvs H Q E h=>?_) (λcdv A outer s H vs Q E Z h=>?_)
 ·obtain⟨O,ds,d,r,e,_⟩:=h
  rw[<-r.length];unfold runD at e;split at e
  ·assumption
  ·cases e
 ·obtain⟨O,ds,d,r,e,k⟩:=h
  refine⟨_,(D cdv A outer s H E (gd λa=>O a\/H a=none) H Z).out,?_⟩;unfold runD at e;split at e;case isFalse=>cases e
  split at e
  ·rename_i d' env' U
   cases e;exact⟨NoW,_,_,env',yp r,U,λW' σ' v H' st I b=>k v H' I.stay (b.mono (λ_ _ h=>h) λa us o h=>⟨o.1,h⟩)⟩
  ·rename_i env' U
   cases e;exact⟨NoW,_,_,env',yp r,U,λW' σ' H' st I=>k .non H' I.stay .non⟩
  ·cases e
theorem fn_F{g:FS}(F:Fun K x qual st f fd)(S:sg N ps (i5 st))(I:n=N.length)(U:ar=ps.length)(D:∀(cdv:Value) (A:Around) (outer:gj) (s:Shared) (H:Hp) (E:XK) (G:Gd) (H0:Hp),Room k (A.deeper (envOfC qual (i5 st) s.heap.objs.size f cdv)) ->
   DBx (cxOf CX P w K mg base N qual (i5 st) f cdv A outer s H E).nox G H0 (mh st) g):FnOk P w K mg base CX (k+1) f fd ps (fSp K (runF n ar g)):=by
 subst I U;refine F.okC S (λvs H Q E h=>?_) (λcdv A outer s H vs Q E V h=>?_)
 ·obtain⟨O,ds,d,r,e,_⟩:=h
  rw[<-r.length];unfold runF at e;split at e
  ·assumption
  ·cases e
 ·obtain⟨O,ds,d,r,e,k⟩:=h
  refine⟨_,(D cdv A outer s H E (gd λa=>O a\/H a=none) H V).out,?_⟩;unfold runF at e;split at e;case isFalse=>cases e
  split at e
  ·rename_i d' env' Y
   cases e;exact⟨NoW,_,_,env',yp r,Y,λl vs' H' sm Z b c=>k l vs' H' sm Z b c⟩
  ·cases e
def zz(K:gu):Sp:=λvs H Q _=>∃(a:Addr) (ns:f5),vs=[.ref a]/\SqL K H a (ns.map V.int)/\ns.length<=63/\∀H',Q (.bl true) H'
theorem z5u{m:g2->g3}(F:FnOk P w K mg base CX k f fd ps (dSp K m))(h:∀ns:f5,ns.length<=63->m [.lst (ns.map D.int)]=some (.bl true)) :
  FnOk P w K mg base CX k f fd ps (zz K):=F.imp λvs H Q E I=>by
 obtain⟨a,ns,e,U,V,q⟩:=I;subst e;exact⟨λ_=>True,[.lst (ns.map D.int)],.bl true,.cons (U.elim (λz=>.lst trivial z (zg0 ns)) λz=>.klst z (zg0 ns)) .nil,h ns V,λv H' _ r=>by rw[r.bl_];exact q H'⟩
variable{F:FA}
def fr_D:∀σ H Q,tD X.K G H0 (fLst F) σ H Q->tDF X.K G H0 F σ H Q:=λσ H Q Y=>by
 obtain⟨W,env,d,env',ok,q,k⟩:=Y;cases e1:F env with
 | none=>simp[e1] at q
 | some r =>
   have q:some (D.lst r.1,r.2)=some (d,env'):=by simpa[fLst,e1] using q
   cases q;refine⟨W,env,_,_,ok,e1,λW1 l vs H1 V I U Z b c=>k W1 _ H1 ⟨V.keep,λa z=>V.ws a (.inl z)⟩ I (.lst ⟨I.good l (U.wl l (.inr rfl)).1,Z⟩ (.inl b) (c.mono (λ_ _ h=>h) λa us o h=>⟨⟨o.1,λz=>o.2 (.inl z)⟩,h⟩))⟩
variable{f:FE}
def iu(tn:Tos Nn X)(I:DEx X G H0 e f)(D:Nn[i]?=some x:=by rfl)(U:swapsWith e (some (.Name x p')) pos.line X.env=pure false:=by rfl):DSx X G H0 (.Assign [.Name x p'] e pos) (sSet i f):=z3o (tn.t D).nd (tn.t D).n I (zs5 (tn.t D).nd (tn.t D).n (tn.t D).l I.out U (tn.t D).f)
def zt8(ps:PS X (.Assign [.Name x p'] e pos) (tAsg (tDF X.K G H0 F) (ng i))):DSx X G H0 (.Assign [.Name x p'] e pos) (sSet i (fLst F)):=⟨(PS.imp ps (t':=tAsg (tD X.K G H0 (fLst F)) (ng i)) λDn σ H h=>fr_D σ H _ h).imp λDn σ H I=>by
 obtain⟨W,env,fl,env',ok,q,k⟩:=I;cases e1:fLst F env with
 | none=>simp only[sSet,e1,Option.map_none] at q;cases q
 | some r =>
   have q:some (Fl.nx,r.2.set i (some (Sl.sh r.1)))=some (fl,env'):=by simpa only[sSet,e1,ao] using q
   cases q;exact⟨W,env,_,_,ok,e1,λW1 v1 H1 U D p1=>k W1 _ H1 U (D.set p1)⟩⟩
variable{y:Str}{ix:f0}{sc:Scope}{spos:Pos}{fi:FI}{te:FA}
def xb{px Z:Pos}{te:FE}(an:Ats Nn Cn X)(tn:Tos Nn X)(hi:DIx X G H0 (.Name x px) a fi)(V:∀cl C s₂ H₂ fp G H0,Ats (x::(subN Nn ix)) (subN Nn ix) (jq X x (subN Nn ix) sc cl C s₂ H₂ fp)->DEx (jq X x (subN Nn ix) sc cl C s₂ H₂ fp) G H0 e te)(U:qe Nn Cn ix x sc=true:=by decide +kernel)(b:X.calm=true:=by rfl)(I:Nn[i]?=some y:=by rfl)(Y:swapsWith (.ListComp e [⟨.Name x px,a,[],0⟩] sc pos) (some (.Name y Z)) spos.line X.env=pure true:=by rfl)(c:∀v,foldedSetIterable a X.env v=pure v:=by intro _;rfl) :
  PS X (.Assign [.Name y Z] (.ListComp e [⟨.Name x px,a,[],0⟩] sc pos) spos) (tAsg (tDF X.K G H0 (ju fi ix fYes te)) (ng i)) :=
 (zpg (wj an U) (λ_ _ _ _ _ _ _ _ _=>b) (tn.t I).nd (tn.t I).n (tn.t I).l hi.out (λcl C s₂ H₂ fp _=>yb (X:=X) rfl) (λcl C s₂ H₂ fp _=>el_x (X:=X) rfl (λG H0=>V cl C s₂ H₂ fp G H0 (t5 U))) Y (tn.t I).f c).imp λD σ H h=>zt1 σ H _ h
abbrev FA2:=DE0->Option (List g2×DE0)
def tDF2(K:gu)(G:Gd)(H0:Hp)(f:FA2):TE:=λσ H Q=>DP K G H0 f (λW env dss env' =>
 ∀W' l H',Step W H W' H'->Ok K G H0 W' env' σ H'->SlOk K G W' H' (.o2 dss) (.ref l) ->
  (∀(j:Nat) (s:Sl) (v:V) (a:Addr),env'[j]?=some (some s)->σ[j]?=some (some v)->Owns H' (.o2 dss) (.ref l) a->¬Owns H' s v a)->Q (.ref l) H') σ H
structure DF2x (X:Cx) (G:Gd) (H0:Hp) (e:Expr) (f:FA2):Prop where
 out:PE X e (tDF2 X.K G H0 f)
@[simp] noncomputable def uj(i:Nat)(f:FA2):FS:=λe=>(f e).map λr=>(.nx,r.2.set i (some (.o2 r.1)))
def z0g{D:FA2}(ps:PS X (.Assign [.Name x p'] e pos) (tAsg (tDF2 X.K G H0 D) (ng i))):DSx X G H0 (.Assign [.Name x p'] e pos) (uj i D):=⟨ps.imp λDn σ H U=>by
 obtain⟨W,env,fl,env',ok,q,k⟩:=U;cases e1:D env with
 | none=>simp[e1] at q
 | some r =>
   have q:some (Fl.nx,r.2.set i (some (Sl.o2 r.1)))=some (fl,env'):=by simpa[uj,e1] using q
   cases q;exact⟨W,env,_,_,ok,e1,λW1 l H1 V I h1 Y=>k W1 _ H1 V (I.put h1 Y)⟩⟩
def uu(te:FA)(base:DE0):g2->Option (List g2)
 | []=>some []
 | d::r=>(te (some (.sh d)::base)).bind λv=>(uu te base r).map (v.1::·)
def ut(fi:FI)(ix:f0)(te:FA):FA2:=λe=>(fi e).bind λr=>if Few r.1.length then(uu te (ix.map λj=>capt (r.2.getD j none)) r.1).map λds=>(ds,r.2) else none
def tDxF(K:gu)(f:FA):TE:=λσ H Q=>∃G H0,tDF K G H0 f σ H Q
def z5v{D:Cx}(U:D.K=X.K)(h:∀G H0,DFx D G H0 e te):PE D e (tDxF X.K te):=λpins s σ H Q I ⟨G,H0,q⟩=>(h G H0).out pins s σ H Q I (by rw[U];exact q)
inductive z3r (X:Cx) (G:Gd) (H0:Hp) (env:DE0) (σ:St) (W1:Addr->Prop) (H1:Hp) (ds:g2) (d:List g2) (f:g2->Option (List g2)) (i m:Nat) (H':Hp) (ys:g0):Prop
 | mk (Wi:Addr->Prop) (rest done:List g2) (ls:fh) (hm:m=ds.length-i) (hi:i<=ds.length) (sm:Same H1 H') (st:Step W1 H1 Wi H') (ok:Ok X.K G H0 Wi env σ H') (hy:ys=ls.map V.ref) (inn:Inn X.K G Wi H' done ls) (nd:ls.Nodup) (fr:∀a∈ls,H1 a=none) (hd:done.length<=i) (ec:f (ds.drop i)=some rest) (hz:d=done++rest):z3r X G H0 env σ W1 H1 ds d f i m H' ys
theorem z0h:∀σ H Q,tDF2 X.K G H0 (ut fi ix te) σ H Q->ul (tDI X.K G H0 fi) ix (tDxT X.K fYes) (tDxF X.K te) σ H Q:=λσ H Q z=>by
 obtain⟨W,env,d,env',ok,q,k⟩:=z;obtain⟨⟨ds,g⟩,e1,q⟩:=df.mp q;by_cases S:Few ds.length;case neg=>cases (if_neg S).symm.trans q
 obtain⟨al,e2,q⟩:=ic.mp ((if_pos S).symm.trans q);cases q;refine⟨W,env,ds,_,ok,e1,λW1 J H1 s1 t wk=>⟨z3r X G H0 g σ W1 H1 ds d (uu te (ix.map λj=>capt (g.getD j none))),⟨ds.length,W1,d,[],[],rfl,dy _,Same.refl _,Step.refl,t,rfl,⟨rfl,λj ds a e=>by cases e⟩,List.nodup_nil,(λa h=>by cases h),bo _,e2,rfl⟩,λi m H' ys z=>?_⟩⟩;obtain⟨E,rest,D,ls,hm,hi,sm,st,Y,hy,Z,nd,fr,hd,C,T⟩:=z;subst hm hy;have I:ls.length=D.length:=Z.1;have F:∀a∈ls,∃vs,H' a=some (.lst vs):=λa L=>by
  obtain⟨j,hj,e⟩:=gl L;obtain⟨_,vs,h,_⟩:=Z.2 j (D[j]'(I ▸ hj)) a (ak _) (e ▸ ak hj);exact⟨vs,h⟩
 by_cases U:i<ds.length
 ·rw[fb U] at C
  obtain⟨⟨dv,M⟩,e4,C⟩:=df.mp C;obtain⟨u,e5,e6⟩:=ic.mp C;obtain⟨hg,hy⟩:=wk.go E H' i ds[i] st (ak U);refine .inr ⟨hg,λx c y=>?_⟩;obtain⟨e,rx⟩:=hy x c y;subst e;refine⟨_,_,NoW,_,true,_,zmd (ix:=ix) Y rx,rfl,λW2 H2 s2 aa=>?_⟩;refine⟨_,_,W2,_,dv,M,aa,e4,λW3 l vs H3 s3 ab N nW O rp=>⟨?_,ds.length-(i+1),l7 _ _ U,?_⟩⟩
  ·rw[ae,I];exact bq (m7 hd (bq U S)) zjw
  ·have A:Same c H3:=ab.stay
   have n:c l=none:=(N.wl l (.inr rfl)).1;obtain⟨q1,q2,q3,q4,q5⟩:=Y.fresh A n O (rp.mono (O':=λa=>(Ow G E a\/c a=none)/\a≠l) (λ_ _ h=>h) λa us o h=>⟨⟨o.1,λz=>o.2 (.inr z)⟩,h⟩);have nl:l∉ls:=λz=>by obtain⟨us,h⟩:=F l z;rw[n] at h;cases h
   refine⟨addW E l,u,D++[dv],ls++[l],rfl,U,sm.trans A,st.trans q5,q3,by simp,⟨by simp[I],λj es a f p=>?_⟩,?_,λa L=>?_,by rw[aj,dg];lia,e5,by rw[T,<-e6,b9];rfl⟩
   ·by_cases hj:j<D.length
    ·rw[bf hj] at f
     rw[bf (by lia)] at p;obtain⟨w,us,h,r⟩:=Z.2 j es a f p;exact⟨.inl w,us,A _ _ h,Y.reps q5 r⟩
    ·rw[ci (by lia)] at f
     rw[ci (by lia),I] at p;have T:j-D.length=0:=by
      have:=(am.mp f).1;simp at this;lia
     rw[T] at f p;simp[Option.some.injEq] at f p;subst f p;exact⟨.inr rfl,vs,O,q4⟩
   ·rw[ke]
    exact⟨nd,by simp,λa L b hb=>by simp only[cj] at hb;subst hb;intro z;subst z;exact nl L⟩
   ·rcases de.mp L with z | z
    ·exact fr a z
    ·rw[cj.mp z];exact sm.free n
 ·cases qx hi (js U)
  rw[i8] at C;cases C;refine .inl ⟨wk.stop E H' st,by rw[ae,I];exact b8 hd (b8 S zjw),λl n=>?_⟩;have B:Same H' (upd H' l (.lst (ls.map V.ref))):=yq n;obtain⟨q1,q2,q3,q4⟩:=Y.fresh0 (vs:=ls.map V.ref) B n li;have nl:l∉ls:=λz=>by obtain⟨us,h⟩:=F l z;rw[n] at h;cases h
  have ag:Same H1 (upd H' l (.lst (ls.map V.ref))):=sm.trans B;rw[T,cr] at k;refine k (addW E l) l _ ((s1.trans st).trans q4) q3 ⟨l,ls,rfl,.inr rfl,li,cq.mpr ⟨nl,nd⟩,Z.1,λj es a f p=>?_⟩ λj s v a ej ev o1 o2=>?_
  ·obtain⟨w,us,h,r⟩:=Z.2 j es a f p
   exact⟨.inl w,us,B _ _ h,Y.reps q4 r⟩
  ·obtain⟨v',P,hs⟩:=t.slot j s ej
   rw[ev] at P;cases P;have ai:Owns H1 s v a:=hs.back (λl' _ _ vs q=>ag _ _ q) o2;have wa:W1 a:=hs.owns ai;have R:H1 a≠none:=λz=>by obtain⟨_,us,q⟩:=t.wl a wa;rw[z] at q;cases q
   rcases o1 with o1 | ⟨l',ls',z,q,hb⟩
   ·cases o1;exact R (sm.free n)
   ·cases z
    rw[li] at q;have:=yr (by simpa using q);subst this;exact R (fr a hb)
def zwq{px Z:Pos}(an:Ats Nn Cn X)(tn:Tos Nn X)(hi:DIx X G H0 (.Name x px) a fi)(V:∀cl C s₂ H₂ fp G H0,Ats (x::(subN Nn ix)) (subN Nn ix) (jq X x (subN Nn ix) sc cl C s₂ H₂ fp)->DFx (jq X x (subN Nn ix) sc cl C s₂ H₂ fp) G H0 e te)(U:qe Nn Cn ix x sc=true:=by decide +kernel)(b:X.calm=true:=by rfl)(I:Nn[i]?=some y:=by rfl)(Y:swapsWith (.ListComp e [⟨.Name x px,a,[],0⟩] sc pos) (some (.Name y Z)) spos.line X.env=pure true:=by rfl)(c:∀v,foldedSetIterable a X.env v=pure v:=by intro _;rfl) :
  PS X (.Assign [.Name y Z] (.ListComp e [⟨.Name x px,a,[],0⟩] sc pos) spos) (tAsg (tDF2 X.K G H0 (ut fi ix te)) (ng i)) :=
 (zpg (wj an U) (λ_ _ _ _ _ _ _ _ _=>b) (tn.t I).nd (tn.t I).n (tn.t I).l hi.out (λcl C s₂ H₂ fp _=>yb (X:=X) rfl) (λcl C s₂ H₂ fp _=>z5v (X:=X) rfl (λG H0=>V cl C s₂ H₂ fp G H0 (t5 U))) Y (tn.t I).f c).imp λD σ H h=>z0h σ H _ h
variable{env:DE0}{σ:St}
def z0i(ok:Ok X.K G H0 W env σ H):Ok X.K (gd λa=>Ow G W a\/H a=none) H NoW (env.map capt) σ H:=by
 have Y:∀ {d:D} {v:V},Rep X.K H (Ow G W) d v->Rep X.K H (Ow (gd λa=>Ow G W a\/H a=none) NoW) d v:=λr=>r.mono (λ_ _ h=>h) λa us o h=>⟨⟨.inl o,λz=>z⟩,h⟩;have I:∀(i:Nat) (s:Sl),(env.map capt)[i]?=some (some s)->∃d',s=.sh d'/\env[i]?=some (some (.sh d')):=λi s z=>by
  rw[az] at z;cases q:env[i]? with
  | none=>rw[q] at z;cases z
  | some o =>
    rw[q] at z;have z:capt o=some s:=bh z;unfold capt at z;split at z
    ·cases z;exact⟨_,rfl,rfl⟩
    ·cases z
 refine⟨Same.refl _,λa z=>.inr z,λl z=>z.elim,λi s e=>?_,λi j Z s2 v1 v2 a U _ _ _ o _=>by obtain⟨d',rfl,_⟩:=I i Z U;exact o.elim,by rw[ae];exact ok.len⟩;obtain⟨d',rfl,e'⟩:=I i s e;obtain⟨v,U,r⟩:=ok.slot i _ e';exact⟨v,U,Y r⟩
variable{d:D}{v:V}
def z3s{D:Addr->Prop}{H2:Hp}(ok:Ok X.K G H0 W env σ H)(r:Rep X.K H2 (Ow (gd λa=>Ow G W a\/H a=none) D) d v):Rep X.K H2 (Ow G W) d v:=r.mono (λ_ _ h=>h) λa us o h=>⟨by
 rcases o.1 with z | z
 ·exact z
 ·exact⟨ok.good a (ok.stay.free z),λw=>by obtain⟨_,us,q⟩:=ok.wl a w;rw[z] at q;cases q⟩,h⟩
variable{α:Type}{j:Nat}
def z3t{xs:List α}{k:Int}{y:α}(h:ixN xs.length k=some j)(h2:xs[j]?=some y):atI xs k=some y:=by
 unfold atI;rw[h];exact h2
def zwr{dss:List g2}{k:Int}(ok:Ok X.K G H0 W env σ H)(Z:env[i]?=some (some (.o2 dss)))(b:σ[i]?=some (some v))(c:ixN dss.length k=some j)(U:dss[j]?=some ds) :
  ∃(l:Addr) (ls:fh) (a:Addr) (vs:g0),v=.ref l/\H l=some (.lst (ls.map V.ref))/\ls[j]?=some a/\atI (ls.map V.ref) k=some (.ref a)/\H a=some (.lst vs)/\Reps X.K H (Ow G W) ds vs:=by
 obtain⟨e,Y,l,ls,rfl,f,d,nd,hi⟩:=ok.slot i _ Z;rw[b] at Y;cases Y;have I:j<ls.length:=by rw[hi.1];exact(am.mp U).1
 obtain⟨_,vs,h,r⟩:=hi.2 j ds ls[j] U (by simp[I]);exact⟨l,ls,ls[j],vs,rfl,d,by simp[I],z3t (j:=j) (by rw[ae,hi.1];exact c) (by simp[I]),h,r⟩
@[simp] noncomputable def app2(k d:D)(e:DE0)(i:Nat):Option (D×DE0):=match k,e[i]? with
 | .int k,some (some (.o2 dss))=>(ixN dss.length k).bind λj=>(dss[j]?).bind λds=>if Few (ds.length+1) then some (.non,e.set i (some (.o2 (dss.set j (ds++[d]))))) else none
 | _,_=>none
@[simp] noncomputable def wz(i:Nat)(g f:FE):FE:=λe=>match e[i]? with
 | some (some (.o2 _))=>(g e).bind λr=>(f (r.2.map capt)).bind λq=>app2 r.1 q.1 r.2 i
 | _=>none
variable{p2:Pos}
def zse(B:DEx X G H0 b g)(C:∀G H0,DEx X G H0 a f)(an:Ats Nn Cn X)(m:wn b:=by intro _ _;rfl)(n:Nn[i]?=some x:=by rfl)(V:attributeBase (.Subscript (.Name x p') b p2) "append" X.env (eval (.Subscript (.Name x p') b p2) X.env)=eval (.Subscript (.Name x p') b p2) X.env:=by rfl)(Z:((backTo pos (starEach [a] X.env)).all (λx=>!x.1) && (backToKw pos (keywordEach [] X.env)).all (λx=>x.1.isSome)
   && decide ([a].length+([]:List Keyword).length+(if ([]:List Keyword).isEmpty then 0 else 1)<30))=true:=by rfl)(Y:(p1.endLine==pos.line)=true:=by rfl)(w:starEach [a] X.env=(false,eval a X.env)::starEach [] X.env:=by rfl) :
  DEx X G H0 (.Call (.Attribute (.Subscript (.Name x p') b p2) "append" p1) [a] [] pos) (wz i g f) :=
 ⟨(wb fm kl kj zkd (zt ztm ((an.a n).pe) B.out m) (o8 (el_x (X:=X) rfl C) qg w) V Z Y w rfl).imp λσ H Q E=>by
  obtain⟨W,env,d,env',ok,q,k⟩:=E;unfold wz at q;split at q;case h_2=>cases q
  rename_i F o;obtain⟨v,p,_⟩:=ok.slot i _ o;cases e1:g env with
  | none=>rw[e1] at q;cases q
  | some r =>
    obtain⟨P,U⟩:=r;rw[e1,ac] at q;dsimp only at q;cases e2:f (U.map capt) with
    | none=>rw[e2] at q;cases q
    | some s =>
      obtain⟨J,c⟩:=s;rw[e2,ac] at q;unfold app2 at q;split at q;case h_2=>cases q
      rename_i kk dss y;cases e3:ixN dss.length kk with
      | none=>rw[e3] at q;cases q
      | some j =>
        rw[e3,ac] at q;cases e4:dss[j]? with
        | none=>rw[e4] at q;cases q
        | some ds =>
          rw[e4,ac] at q;split at q;case isFalse=>cases q
          rename_i e;cases q;refine⟨v,p,W,env,_,U,ok,e1,λW1 v1 H1 K D L=>?_⟩;obtain⟨l,ls,a,vs,rfl,z,t,u,A,r⟩:=zwr D y p e3 e4;refine .inl ⟨l,_,kk,.ref a,rfl,L.int_,.inl (.inl z),u,.inl ⟨rfl,vs,.inl (.inl A)⟩,?_⟩;refine⟨_,_,NoW,_,J,c,z0i D,e2,λR v2 H2 s2 I s=>?_⟩;have h:=D.same I.stay;have M:=D.reps (Step.same I.stay) r;obtain⟨N,O⟩:=h.turn2 y p (I.stay _ _ z) e4 t (M.append (.cons (z3s D s) .nil));exact⟨a,vs,v2,rfl,rfl,I.stay _ _ A,by rw[<-r.length];exact lt20 (kc e),k W1 _ _ ((K.trans (Step.same I.stay)).trans O) N .non⟩⟩
def zcy{env:Env}:∀ {names:List (Str×NameKind)} {x:Str},names.lookup x=some .globalImplicit ->
  (names.map λ(n,k)=>if (k==NameKind.free && env.scope.kind==.function && env.kindOf n==some .cell) then(n,NameKind.cell) else(n,k)).lookup x=some .globalImplicit
 | (n,k)::r,x,h=>by
   have D:=@zcy env r x;show List.lookup x ((if (k==NameKind.free && env.scope.kind==.function && env.kindOf n==some .cell)=true then(n,NameKind.cell) else(n,k))::_)=_;cases hx:x==n with
   | true =>
     simp only[cz,hx] at h;cases h;simp[cz,hx]
   | false =>
     simp only[cz,hx] at h;by_cases I:(k==NameKind.free && env.scope.kind==.function && env.kindOf n==some .cell)=true
     ·rw[if_pos I];simp only[cz,hx];exact D h
     ·rw[if_neg I];simp only[cz,hx];exact D h
variable{N':c3}{cl:List (Str×Addr)}{C:Addr}{s:Shared}{fp:fh}
def gl_c(h:sc.names.lookup x=some .globalImplicit):Gl (jq X y N' sc cl C s H fp) x:=zcy h
def z3u:Ty "int" "int":=⟨by decide +kernel,by decide +kernel,by decide +kernel,by decide +kernel⟩
def z0j:Ty "bool" "bool":=⟨by decide +kernel,by decide +kernel,by decide +kernel,by decide +kernel⟩
def zt9:Ty "str" "str":=⟨by decide +kernel,by decide +kernel,by decide +kernel,by decide +kernel⟩
def zua:Ty "list" "list":=⟨by decide +kernel,by decide +kernel,by decide +kernel,by decide +kernel⟩
def zqq:Ty "tuple" "tuple":=⟨by decide +kernel,by decide +kernel,by decide +kernel,by decide +kernel⟩
def z0k(l:List α)(k:Nat)(y:α):(l.toArray.extract 0 k).push y++l.toArray.extract k=(l.take k++y::l.drop k).toArray:=by
 simp;exact ig (by simp)
def z0l:V->g0->Hp->VK->Prop:=λx vs H Q=>∃(l:Addr) (xs:g0) (i:Int) (y:V),x=.ref l/\vs=[.int i,y]/\H l=some (.lst xs)/\0<=i/\i<=xs.length/\i<2 ^ 62/\xs.length<sizeLine/\Q .non (upd H l (.lst (xs.take i.toNat++y::xs.drop i.toNat)))
def Vals.ins{xs:g0}{its:fe}{y:V}{u:Value}(r:Vals xs its)(D:Vals [y] [u])(k:Nat):Vals (xs.take k++y::xs.drop k) (its.take k++u::its.drop k):=by
 have:=(r.take k).append (D.append (r.drop k));simpa using this
theorem zub:MtM X "list.insert" z0l:=by
 intro pins s σ H x vs v us Q I Z a h;obtain⟨l,xs,i,y,rfl,rfl,V,c,h1,h2,d,q⟩:=h;cases Z;obtain⟨f,Y,rfl,D,U⟩:=a.two;obtain⟨t,rfl⟩:=D;obtain⟨z,its,n,r,g,e⟩:=I.lstM V;refine call_meets F.slot_list_insert ⟨_,e,rfl⟩ F.entry_list_insert (F.args_list_insert_3 _ _ _) (PySem.AutoSeq1.list_insert_list_int_val_1 l its.toArray n i t Y (by rw[fitsIndex_both (k:=i) (by lia) (by lia)];decide) (by rw[b6];lia)) ⟨e,?_⟩;refine⟨.non,_,I.lset (its':=its.take i.toNat++Y::its.drop i.toNat) V e ?_ (Vals.ins r (.cons U .nil) _) ?_,rfl,q⟩
 ·have b:(if i<0 then(i+(its.toArray.size:Int)).toNat else min i.toNat its.toArray.size)=i.toNat:=by
   rw[if_neg (by lia),b6]
   lia
  rw[b,z0k]
 ·rw[aj,aw,dz,d5]
  lia
def z0m(k d:D)(e:DE0)(i:Nat):Option (D×DE0):=match k,e[i]? with
 | .int k,some (some (.ow ds))=>if 0<=k/\k<=ds.length/\Few (ds.length+1) then some (.non,e.set i (some (.ow (ds.take k.toNat++d::ds.drop k.toNat)))) else none
 | _,_=>none
def zmh(i:Nat)(f g:FE):FE:=λe=>match e[i]? with
 | some (some (.ow _))=>(bz f (bz g fNil) e).bind λr=>match r.1 with | [k,d]=>z0m k d r.2 i | _=>none
 | _=>none
theorem zuc(u:DEx X G H0 a f)(w:DEx X G H0 b g)(an:Ats Nn Cn X)(c:Nn[i]?=some x:=by rfl)(I:attributeBase (.Name x p') "insert" X.env (eval (.Name x p') X.env)=eval (.Name x p') X.env:=by rfl)(V:((backTo pos (starEach [a,b] X.env)).all (λx=>!x.1) && (backToKw pos (keywordEach [] X.env)).all (λx=>x.1.isSome)
   && decide ([a,b].length+([]:List Keyword).length+(if ([]:List Keyword).isEmpty then 0 else 1)<30))=true:=by rfl)(U:(p1.endLine==pos.line)=true:=by rfl)(o:starEach [a,b] X.env=(false,eval a X.env)::starEach [b] X.env:=by rfl)(e:starEach [b] X.env=(false,eval b X.env)::starEach [] X.env:=by rfl)(h:(backTo pos (starEach [b] X.env)).any (·.1)=false:=by rfl) :
  DEx X G H0 (.Call (.Attribute (.Name x p') "insert" p1) [a,b] [] pos) (zmh i f g):=⟨(wb fm PySem.F.slot_list_insert PySem.F.type_list_insert zub ((an.a c).pe) (cw u (cw w dm e) o).out I V U o h).imp λσ H Q y=>by
 obtain⟨W,env,d,env',ok,q,k⟩:=y;unfold zmh at q;split at q;case h_2=>cases q
 rename_i z j;obtain⟨v,m,l,A,rfl,B,n,_⟩:=ok.slot i _ j;cases e1:bz f (bz g fNil) env with
 | none=>rw[e1] at q;cases q
 | some r =>
   obtain⟨C,Y⟩:=r;rw[e1,ac] at q;dsimp only at q;split at q;case h_2=>cases q
   unfold z0m at q;split at q;case h_2=>cases q
   rename_i kk ds p;split at q;case isFalse=>cases q
   rename_i E;obtain⟨J,K,s⟩:=E;cases q;refine⟨_,m,.inl ⟨rfl,_,.inl (.inl n)⟩,W,env,_,Y,ok,e1,λW1 L H1 M Z N=>?_⟩;obtain⟨v',t,l',vs,O,hW,P,r⟩:=Z.slot i _ p;rw[m] at t;cases t;cases O;cases N with
   | cons q1 r2 =>
   cases r2 with
   | cons q2 r3 =>
   cases r3;cases q1;obtain⟨R,S⟩:=Z.turn p m ((r.take kk.toNat).append (.cons q2 (r.drop kk.toNat)));have D:=r.length;have T:ds.length<sizeLine:=lt20 (kc s);have c4:ds.length+1<=2 ^ 20:=s;exact⟨l,vs,kk,_,rfl,rfl,P,J,by rw[<-D];exact K,by lia,by rw[<-D];exact T,k W1 _ _ (M.trans S) R .non⟩⟩
def l4:f0->g2->DE0->DE0
 | i::ix,d::ds,e=>l4 ix ds (e.set i (some (.sh d)))
 | _,_,e=>e
def gIs:f0->TGs
 | []=>gNil
 | i::ix=>z2a (ng i) (gIs ix)
def sUnp(ix:f0)(f:FE):FS:=λe=>(f e).bind λr=>match r.1 with
 | .tup ds=>if ds.length=ix.length then some (.nx,l4 ix ds r.2) else none
 | _=>none
def unp(ix:f0)(d:D)(e:DE0):Option DE0:=match d with
 | .tup ds=>if ds.length=ix.length then some (l4 ix ds e) else none
 | _=>none
def forU(ix:f0)(g:FS):g2->DE0->Option (Fl×DE0)
 | [],e=>some (.nx,e)
 | d::r,e=>(unp ix d e).bind λI=>(g I).bind λq=>match q.1 with | .nx=>forU ix g r q.2 | .ct=>forU ix g r q.2 | .bk=>some (.nx,q.2) | .rt d=>some (.rt d,q.2) | .rf ds=>some (.rf ds,q.2) | .r2 ds=>some (.r2 ds,q.2) | .xc c=>some (.xc c,q.2) | .ra k ps=>some (.ra k ps,q.2)
@[simp] noncomputable def mj(ix:f0)(fi:FI)(g:FS):FS:=λe=>(fi e).bind λr=>forU ix g r.1 r.2
def zyw{K:gu}{W:Addr->Prop}{H:Hp}:∀(ix:f0) (ds:g2) (vs:g0) (env:DE0) (σ:St) (Q:St->Hp->Prop),Ok K G H0 W env σ H->Reps K H (Ow G W) ds vs->ds.length=ix.length ->
  (∀σ',Ok K G H0 W (l4 ix ds env) σ' H->Q σ' H)->gIs ix vs σ H Q
 | [],ds,vs,env,σ,Q,ok,r,hl,k=>by
   cases r with
   | nil=>exact⟨rfl,k σ ok⟩
   | cons _ _=>cases hl
 | i::ix,ds,vs,env,σ,Q,ok,r,hl,k=>by
   cases r with
   | nil=>cases hl
   | @cons d v ds vs r0 r =>
     refine⟨v,vs,rfl,?_⟩;exact zyw ix ds vs _ _ Q (ok.set r0) r (lg hl) k
def p6  : PGs X [] (gIs []):=zzn
variable{es:gp}
def j9(tn:Tos Nn X)(h:PGs X es (gIs ix))(D:Nn[i]?=some x:=by rfl)(I:(assignEach (.Name x pos::es) X.env).map (·.2)=assign (.Name x pos) X.env::(assignEach es X.env).map (·.2):=by rfl):PGs X (.Name x pos::es) (gIs (i::ix)):=zv6 (zs4 (tn.t D).nd (tn.t D).n (tn.t D).l (tn.t D).f) h I
variable{body:List Stmt}{u:FS}
def vd(hi:DJx X G H0 (.Tuple es k p1) a fi)(h:PGs X es (gIs ix))(V:DBx X G H0 body u)(Y:PassesOwn (model X.prog X.w) X.A X.env X.xe:=by passes_own)(I:X.calm=true:=by rfl)(Z:(assignEach es X.env).length=ix.length:=by rfl)(D:(assignEach es X.env).findIdx? (·.1)=none:=by rfl)(c:∀x,foldedSetIterable a X.env x=pure x:=by intro _;rfl):DSx X G H0 (.For (.Tuple es k p1) a body [] pos) (mj ix fi u) :=
 zt7 (b:=unp ix) (L:=forU ix u) hi (zyh (n:=ix.length) I h Z D) V (λ{W env env' σ H d x Q} ok r e k=>by
  unfold unp at e;split at e;case h_2=>cases e
  split at e;case isFalse=>cases e
  rename_i U;cases e;cases r with
  | @tup a vs _ ht rr=>exact⟨a,vs,rfl,.inl (.inl ht),by rw[<-rr.length];exact U,zyw ix _ vs _ σ _ ok rr U k⟩) (λ_=>rfl) (λ_ _ _=>rfl) Y I c
def zpl(hi:DIx X G H0 (.Tuple es k p1) a fi)(h:PGs X es (gIs ix))(I:DBx X G H0 body u)(U:PassesOwn (model X.prog X.w) X.A X.env X.xe:=by passes_own)(V:X.calm=true:=by rfl)(Y:(assignEach es X.env).length=ix.length:=by rfl)(D:(assignEach es X.env).findIdx? (·.1)=none:=by rfl)(Z:∀x,foldedSetIterable a X.env x=pure x:=by intro _;rfl):DSx X G H0 (.For (.Tuple es k p1) a body [] pos) (mj ix fi u):=vd hi.dj h I U V Y D Z
def fRep(F:FA)(g:FE):FA:=λe=>(F e).bind λr=>(g r.2).bind λq=>match q.1 with
 | .int k=>if Few (r.1.length*k.toNat)/\Bnd (-(2 ^ 62)) (2 ^ 62) k then some ((List.replicate k.toNat r.1).flatten,q.2) else none
 | _=>none
def Reps.rep{K:gu}{H:Hp}{O:Addr->Prop}{ds:g2}{vs:g0}(r:Reps K H O ds vs):∀k:Nat,Reps K H O (List.replicate k ds).flatten (List.replicate k vs).flatten
 | 0=>.nil
 | k+1=>by
   exact r.append (Reps.rep r k)
theorem z3v(m:DFx X G H0 a F)(p:DEx X G H0 b g):DFx X G H0 (.BinOp a .Mult b pos) (fRep F g):=⟨(zzp z22 m.out p.out).imp λσ H Q s=>by
 obtain⟨W,env,d,env',ok,q,k⟩:=s;unfold fRep at q;cases e1:F env with
 | none=>rw[e1] at q;cases q
 | some r =>
   obtain⟨ds,D⟩:=r;rw[e1,ac] at q;cases e2:g D with
   | none=>rw[e2] at q;cases q
   | some r2 =>
     obtain⟨M,e⟩:=r2;rw[e2,ac] at q;dsimp only at q;split at q;case h_2=>cases q
     rename_i kk;split at q;case isFalse=>cases q
     rename_i t;obtain⟨u,v,w⟩:=t;cases q;refine⟨W,env,_,_,ok,e1,λW1 l vs H1 f I i x y j=>⟨W1,D,_,_,I,e2,λA v2 H2 s2 U p2=>?_⟩⟩;have V:Step W H W1 H1:=⟨f.keep,λa h=>f.ws a (.inl h)⟩;have Y:Reps X.K H1 (Ow G W1) ds vs:=j.mono (λ_ _ h=>h) λa us o h=>⟨⟨o.1,λz=>o.2 (.inl z)⟩,h⟩;have Z:=I.reps s2 Y;have c:H2 l=some (.lst vs):=s2.keep l _ y x;cases p2;refine⟨l,kk,vs,rfl,rfl,c,by lia,by lia,?_,λn B=>?_⟩
     ·rw[<-j.length];exact b8 u (by rw[sizeLine_eq];decide)
     ·obtain⟨h1,h2,C,E,J,L⟩:=qk U (Reps.rep Z kk.toNat) B
      exact k A n _ _ ((V.trans s2).trans h1) h2 C E J L⟩
variable{wr:fh}{pins:gx}{h2:Heap}
def Inv.tupled{tk:Nat}{T:Addr}{us:gy}(I:Inv X pins σ H s)(V:∀b∈wr,FpOk X pins H b)(hT:s.heap.objs.size<=T)(j:T∉wr)(k:∀b o,b∉wr->s.heap.get? b=some o->h2.get? b=some o)(a:h2.IsTuple T us)(d:Vals vs us.toList)(f:vs.length<=sizeLine) :
  Inv X pins σ (upd H T (.tup vs)) { s with heap:=h2,toks:=tk }:=by
 have Y:H T=none:=I.hok.fresh hT;have Z:∀b u,H b=some u->b∉wr:=λb u e z=>by rw[(V b z).1] at e;cases e
 have neT:∀b o,s.heap.get? b=some o->b≠T:=λb o e=>bv (bq (bw e) hT);refine I.step (g':=s.gens) (d':=s.drawn) (ch:=wr) (λb D=>⟨(V b D).2.2.2.1,(V b D).2.1,(V b D).2.2.2.2.1,(V b D).2.2.2.2.2⟩) (λb o _ _ U e _=>k b o U e) (λb o _ _ U e _=>⟨o.slots,k b o U e⟩)
  (λb o _ e n=>by rw[gi (neT b o e)];exact n) (λb o U e=>⟨o,k b o U e⟩) (λb xs e=>by rw[gi (m6 e Y)];exact e) (λb o u e=>by rw[gi (m6 e Y)];exact e)
  (λb ps e=>⟨#[],by rw[gi (m6 e Y),e];simp⟩) (λm g=>?_) (λb u e=>?_) I.bare
 ·obtain⟨o,es,h,i,r⟩:=g
  exact⟨o,es,h,k _ o (λz=>(V _ z).2.1 rfl) i,r⟩
 ·by_cases D:b=T
  ·subst D
   rw[li] at e;cases e;exact⟨f,us.toList,d,by rw[Array.toArray_toList];exact a⟩
  ·rw[gi D] at e
   refine(I.hok b u e).stay (λc v U q=>k c v ?_ q) (λc q=>by rw[gi (m6 q Y)];exact q) λc xs q=>by rw[gi (m6 q Y)];exact q
   rcases U with z | z
   ·rw[z];exact Z b u e
   ·exact Z c _ z
def Inv.turnedL{tk:Nat}(I:Inv X pins σ H s)(U:∀b∈wr,FpOk X pins H b)(k:∀b o,b∉wr->s.heap.get? b=some o->h2.get? b=some o) :
  Inv X pins σ H { s with heap:=h2,toks:=tk }:=by
 have V:∀b u,H b=some u->b∉wr:=λb u e z=>by rw[(U b z).1] at e;cases e
 refine I.step (g':=s.gens) (d':=s.drawn) (ch:=wr) (λb Y=>⟨(U b Y).2.2.2.1,(U b Y).2.1,(U b Y).2.2.2.2.1,(U b Y).2.2.2.2.2⟩) (λb o _ _ D e _=>k b o D e) (λb o _ _ D e _=>⟨o.slots,k b o D e⟩)
  (λ_ _ _ _ n=>n) (λb o D e=>⟨o,k b o D e⟩) (λ_ _ e=>e) (λ_ _ _ e=>e) (λb ps e=>⟨#[],by rw[e];simp⟩) (λm Z=>?_) (λb u e=>?_) I.bare
 ·obtain⟨o,es,a,d,r⟩:=Z
  exact⟨o,es,a,k _ o (λz=>(U _ z).2.1 rfl) d,r⟩
 ·refine(I.hok b u e).stay (λc v D q=>k c v ?_ q) (λ_ q=>q) λ_ _ q=>q
  rcases D with z | z
  ·rw[z];exact V b u e
  ·exact V c _ z
def Itp(go:Nat->Hp->Prop)(I:Nat->Hp->g0->Prop)(D:Nat->Hp->Prop):It :=
 ⟨go,λi H x H'=>∃t vs,H t=none/\x=.ref t/\H'=upd H t (.tup vs)/\I i H vs,D⟩
variable{it:Addr}
def zyx{tn:Nat->Heap->Prop}{go:Nat->Hp->Prop}{y:Nat->Hp->g0->Prop}{U:Nat->Hp->Prop}(mem:it∈fp)(obj:∀i h,tn i h->∀b∈fp,∃o,h.get? b=some o/\∀v,o.data≠.cell v)(keep:∀i h h',tn i h->(∀b∈fp,∀o,h.get? b=some o->h'.get? b=some o)->tn i h')(z:∀(X:Cx),X.prog=P->X.w=w->X.K=K->X.A.handled=none->∀(i:Nat) (pins:gx) (s:Shared) (σ:St) (H:Hp),Inv X pins σ H s->(∀b∈fp,FpOk X pins H b)->tn i s.heap->(go i H\/U i H) ->
   ∃Z wr n Pt St a j,WalksT P w X.A it Z wr n Pt St a/\St j s.heap/\(∀b∈wr,b∈fp)/\(∀h,St (j+1) h->tn (i+1) h)/\(go i H->j<n)/\(U i H->j=n) /\
    (go i H->∀D,Pt j D->∃vs,Vals vs D.toList/\vs.length<=sizeLine/\y i H vs))(self:∀(A:Around) (i:Nat) (s:Shared) (Q:Value->Shared->Prop) (E:Value->Shared->Prop),tn i s.heap->Q (.ref it) s->wpAny (model P w) A (pyIter (.ref it)) Q E s) :
  Turn P w K (.Tuple es k pos) (Itp go y U) fp it tn where
 mem:=mem
 obj:=obj
 keep:=keep
 item:=by
  intro X hP q r t i pins s σ H E I d st f;obtain⟨Z,wr,n,Pt,St,a,j,W,u,c,g,lt,_,x⟩:=z X hP q r (I.ok.hd t) i pins s σ H I d st (.inl f);refine W.item j s _ _ (lt f) u λT D h1 tk B hT C l kk=>⟨_,rfl,?_⟩;obtain⟨vs,F,G,J⟩:=x f D B;have m:T∉wr:=W.apart j T h1 l;refine W.go es k pos j T _ _ _ l λh2 s2 p=>?_;refine⟨.ref T,upd H T (.tup vs),?_,rfl,⟨T,vs,I.hok.fresh hT,rfl,rfl,J⟩,g h2 s2,λb Y=>?_⟩
  ·exact I.tupled (λb Y=>d b (c b Y)) hT m (λb o Y e=>p b o Y (kk b o Y e)) (C.at λo e=>p T o m e) F G
  ·obtain⟨o,L,_⟩:=obj i _ st b Y
   rw[gi (bv (bq (bw L) hT))];exact(d b Y).1
 done:=by
  intro X hP q r t i pins s σ H E I d st f;obtain⟨Z,wr,n,Pt,St,a,j,W,u,c,g,_,M,_⟩:=z X hP q r (I.ok.hd t) i pins s σ H I d st (.inr f);cases M f;exact W.done s _ _ u λh1 tk kk=>⟨rfl,I.turnedL (λb Y=>d b (c b Y)) kk⟩
 self:=self
variable{A:Around}{l:Addr}
theorem zsf(hh:A.handled=none)(I:l≠it)(c:Nat)(its:gy) :
  Draws P w A.in1 it [it,l] (c+its.size) (λj x=>∃i,j=c+i/\its[i]?=some x) (λj h=>∃i,j=c+i/\i<=its.size/\h.IsListIter it l i/\h.IsList l its) where
 live:=λj h ⟨i,_,_,⟨o,e,_⟩,_⟩=>⟨o,e⟩
 frame:=λj h h' ⟨i,e,hi,a,b⟩ k=>⟨i,e,hi,a.at λo e=>k it (by simp) o e,b.at λo e=>k l (by simp) o e⟩
 item:=λj s Q E hj ⟨i,e,hi,a,b⟩ hQ=>by
  subst e;have hi:i<its.size:=by lia
  refine wpAny_nextOf_list_item a b (x:=its[i]) (by simp[hi]) λh' U D=>?_;exact hQ _ h' s.toks ⟨i,rfl,by simp[hi]⟩ ⟨i+1,by lia,hi,U,b.extBut D.extBut I⟩ D
 done:=λs Q E ⟨i,e,hi,a,b⟩ hE=>by
  have hi:i=its.size:=by lia
  subst hi;exact wpAny_nextOf_list_end hh a b (by simp) hE
def Ite(K:gu)(a:Addr)(c:Nat):It :=
 Itp (λi H=>∃xs x,SqL K H a xs/\xs[i]?=some x) (λi H vs=>∃y,vs=[.int (c+i:Nat),y]/\∀xs,SqL K H a xs->xs[i]?=some y) (λi H=>∃xs,SqL K H a xs/\xs.length=i)
theorem zn3(a it e:Addr)(c:Nat)(R:e≠it) :
  Turn P w K (.Tuple es k pos) (Ite K a c) [e,it] e (λi h=>(∃U,IsEnum h e it (c+i:Nat) U)/\h.IsListIter it a i):=by
 refine zyx (by simp) (λi h st b G=>?_) (λi h h' st kk=>?_) ?_ λA i s Q E st W=>?_
 ·obtain⟨⟨U,V⟩,o,ho,_,hd⟩:=st
  rcases b7.mp G with z | z
  ·subst z
   exact⟨_,V,λv z=>by cases (show Data.fields _=Data.cell v from z)⟩
  ·cases cj.mp z
   exact⟨o,ho,λv z=>by rw[hd] at z;cases z⟩
 ·exact⟨st.1.imp λU V=>kk e (by simp) _ V,st.2.at λo x=>kk it (by simp) o x⟩
 ·intro X hP hw hK hh i pins s σ H I hf st d
  subst hP hw hK;obtain⟨⟨U,V⟩,f⟩:=st;have J:∃xs,SqL X.K H a xs/\i<=xs.length:=by
   rcases d with⟨xs,x,q,g⟩ | ⟨xs,q,g⟩
   ·exact⟨xs,q,j2 (am.mp g).1⟩
   ·exact⟨xs,q,Nat.le_of_eq g.symm⟩
  obtain⟨xs,q,L⟩:=J;obtain⟨its,S,p,hz⟩:=I.list q;have hl:=S.length;obtain⟨ol,Z,j,_⟩:=id p.isList;obtain⟨oi,l,m,_⟩:=id f;have M:a≠it:=λz=>by
   subst z;rw[Z] at l;cases l;rw[j] at m;exact absurd m (by decide)
  have N:e≠a:=λz=>by
   subst z;rw[V] at Z;cases Z;exact absurd (show Value.type "enumerate" = Value.type "list" from j) (by decide)
  have D:=zsf (P:=X.prog) (w:=X.w) hh M c its.toArray;refine⟨_,_,_,_,_,_,c+i,WalksT.enumerateD D e R (by simp[R,N]) (by simp),⟨⟨U,V⟩,i,rfl,by simpa[<-hl] using L,f,p.isList⟩,λb G=>G,λh st=>?_,λd=>?_,λhs=>?_,λd T hv=>?_⟩
  ·obtain⟨⟨n,O⟩,r,e',_,B,_⟩:=st
   have:r=i+1:=by lia
   subst this;exact⟨⟨n,O⟩,B⟩
  ·obtain⟨ys,y,C,Y⟩:=d
   rw[I.list_inj C q] at Y;have:=(am.mp Y).1;simp
   lia
  ·obtain⟨ys,C,Y⟩:=hs
   rw[I.list_inj C q] at Y;simp
   lia
  ·obtain⟨t,x,⟨r,e',g⟩,rfl⟩:=hv
   have:r=i:=by lia
   subst this;obtain⟨ys,y,C,Y⟩:=d;rw[I.list_inj C q] at Y;obtain⟨u,hu,ru⟩:=S.get Y;have:u=x:=by
    have F:its[r]?=some x:=by simpa using g
    rw[hu] at F;cases F;rfl
   subst this;exact⟨[.int (c+r:Nat),y],.cons ⟨t,rfl⟩ (.cons ru .nil),by show 2<=sizeLine;rw[sizeLine_eq];decide,y,rfl,λzs J=>by rw[I.list_inj J q];exact Y⟩
 ·obtain⟨⟨U,V⟩,_⟩:=st
  exact wpAny_pyIter_enum V W
def Itz(K:gu)(a b:Addr):It :=
 Itp (λi H=>∃xs ys x y,SqL K H a xs/\SqL K H b ys/\xs[i]?=some x/\ys[i]?=some y) (λi H vs=>∃x y,vs=[x,y]/\(∀xs,SqL K H a xs->xs[i]?=some x)/\∀ys,SqL K H b ys->ys[i]?=some y)
  (λi H=>∃xs ys,SqL K H a xs/\SqL K H b ys/\min xs.length ys.length=i)
structure ZNe (z ti to i1 i2:Addr):Prop where
 a1:ti≠z
 a2:to≠z
 a3:i1≠z
 a4:i2≠z
 a5:ti≠to
 a6:ti≠i1
 a7:ti≠i2
 a8:to≠i1
 a9:to≠i2
 aA:i1≠i2
variable{h:Heap}{o:Int->Int->Int}
def z3w{a b:Addr}{o o':Obj}(e:h.get? a=some o)(e':h.get? b=some o')(n:o.cls≠o'.cls):a≠b:=λz=>by
 subst z;rw[e] at e';cases e';exact n rfl
theorem zws(a b z ti to C F:Addr)(Z:ZNe z ti to C F) :
  Turn P w K (.Tuple es k pos) (Itz K a b) [z,ti,to,C,F] z (λi h=>IsZip h z ti to .none/\IsPair h ti (.ref C) (.ref F)/\(∃u v,IsPair h to u v)/\h.IsListIter C a i/\h.IsListIter F b i):=by
 refine zyx (by simp) (λi h st c G=>?_) (λi h h' st kk=>?_) ?_ λA i s Q E st hQ=>?_
 ·obtain⟨d,h1,⟨u,v,h2⟩,⟨o3,m,_,d3⟩,o4,r,_,d4⟩:=st
  simp at G;rcases G with rfl | rfl | rfl | rfl | rfl
  ·exact⟨_,d,λv q=>by cases (show Data.fields _=Data.cell v from q)⟩
  ·exact⟨_,h1,λv q=>by cases (show Data.seq _ _=Data.cell v from q)⟩
  ·exact⟨_,h2,λv q=>by cases (show Data.seq _ _=Data.cell v from q)⟩
  ·exact⟨_,m,λv q=>by rw[d3] at q;cases q⟩
  ·exact⟨_,r,λv q=>by rw[d4] at q;cases q⟩
 ·obtain⟨d,h1,⟨u,v,h2⟩,m,r⟩:=st
  exact⟨kk z (by simp) _ d,kk ti (by simp) _ h1,⟨u,v,kk to (by simp) _ h2⟩,m.at λo e=>kk C (by simp) o e,r.at λo e=>kk F (by simp) o e⟩
 ·intro X hP hw hK hh i pins s σ H I hf st J
  subst hP hw hK;obtain⟨d,h1,⟨u,v,h2⟩,m,r⟩:=st;have L:∃xs ys,SqL X.K H a xs/\SqL X.K H b ys/\i<=xs.length/\i<=ys.length:=by
   rcases J with⟨xs,ys,x,y,q,f,Y,t⟩ | ⟨xs,ys,q,f,Y⟩
   ·exact⟨xs,ys,q,f,j2 (am.mp Y).1,j2 (am.mp t).1⟩
   ·exact⟨xs,ys,q,f,by lia,by lia⟩
  obtain⟨xs,ys,q,f,ai,ab⟩:=L;obtain⟨its,rv,p,_⟩:=I.list q;obtain⟨its',M,p',_⟩:=I.list f;have hl:=rv.length;have al:=M.length;obtain⟨ol,g,j,_⟩:=id p.isList;obtain⟨an,U,V,_⟩:=id p'.isList;obtain⟨o3,N,O,_⟩:=id m;obtain⟨o4,R,S,_⟩:=id r;have B:∀ {l o T c o'},s.heap.get? l=some o->o.cls=.type "list"->s.heap.get? c=some o'->o'.cls=.type T->T ≠ "list"->l≠c:=λe1 e2 e3 e4 n=>z3w e1 e3 (by rw[e2,e4];intro z;cases z;exact n rfl);have D:ZipApart z ti to C F a b:=⟨Z.a1,Z.a2,Z.a3,Z.a4,Z.a5,Z.a6,Z.a7,Z.a8,Z.a9,Z.aA,B (T:="zip") g j d rfl (by decide),B (T:="tuple") g j h2 rfl (by decide),B g j N O (by decide),B g j R S (by decide),B (T:="zip") U V d rfl (by decide),B (T:="tuple") U V h2 rfl (by decide),B U V N O (by decide),B U V R S (by decide)⟩;refine⟨_,_,_,_,_,_,i,WalksT.zip2 hh z ti to C F a b D its.toArray its'.toArray,⟨d,h1,⟨u,v,h2⟩,m,r,p.isList,p'.isList⟩,λc G=>?_,λh st=>?_,λJ=>?_,λhs=>?_,λJ ag hv=>?_⟩
  ·simp at G ⊢
   rcases G with rfl | rfl | rfl | rfl <;> simp
  ·obtain⟨d,h1,h2,m,r,_,_⟩:=st
   exact⟨d,h1,h2,m,r⟩
  ·obtain⟨W,aa,x,y,q1,q2,Y,t⟩:=J
   rw[I.list_inj q1 q] at Y;rw[I.list_inj q2 f] at t;have:=(am.mp Y).1;have:=(am.mp t).1;simp
   lia
  ·obtain⟨W,aa,q1,q2,Y⟩:=hs
   rw[I.list_inj q1 q,I.list_inj q2 f] at Y;simp
   lia
  ·obtain⟨W,aa,x,y,q1,q2,Y,t⟩:=J
   rw[I.list_inj q1 q] at Y;rw[I.list_inj q2 f] at t;obtain⟨ux,uy,eu,ew,rfl⟩:=hv;obtain⟨u1,e1,r1⟩:=rv.get Y;obtain⟨u2,e2,r2⟩:=M.get t;have t1:u1=ux:=by
    have z:its[i]?=some ux:=by simpa using eu
    rw[e1] at z;cases z;rfl
   have t2:u2=uy:=by
    have z:its'[i]?=some uy:=by simpa using ew
    rw[e2] at z;cases z;rfl
   subst t1;subst t2;exact⟨[x,y],.cons r1 (.cons r2 .nil),by show 2<=sizeLine;rw[sizeLine_eq];decide,x,y,rfl,λzs L=>by rw[I.list_inj L q];exact Y,λzs L=>by rw[I.list_inj L f];exact t⟩
 ·exact wpAny_pyIter_zip st.1 hQ
abbrev enH(h:Heap)(l:Addr):Heap:=h.push { cls:=.type "list_iterator",data:=.fields #[.ref l,.int 0 0] }
abbrev enHs(h:Heap)(l:Addr):Heap:=(enH h l).push { cls:=.type "enumerate",data:=.fields #[.none,.bool false,.ref h.objs.size,rawInt 1,.none,.none] }
def zsg(v:Value)(t:Tok):checkTypeCall "enumerate" ⟨[v],[("start",.int 1 t)]⟩=pure ():=by kernel_rfl
def zud(v:Value)(t:Tok):checkBuiltinCall "enumerate.__new__" ⟨[.type "enumerate",v],[("start",.int 1 t)]⟩=pure ():=by kernel_rfl
def zue(l:Addr)(D:gy)(n:Nat)(U:Option Addr)(sl:Array fg)(t:Tok) :
  Meets (Builtin.«enumerate.__new__» ⟨[.type "enumerate",.ref l],[("start",.int 1 t)]⟩) (λ_ R s=>s.heap.get? l=some ⟨.type "list",U,.seq D n,sl⟩/\R (.ok (.ret (.ref (enH s.heap l).objs.size))) { s with heap:=enHs s.heap l }) :=
 .of_wp λprog w A R s h=>by
  obtain⟨Z,g,d,tk,os⟩:=s;obtain⟨I,h⟩:=h;have V:=sub_enumerate;have Y:Heap.IsList (Shared.heap ⟨Z,g,d,tk,os⟩) l D:=⟨_,I,rfl,n,rfl⟩
  wp_walk using AutoSeq1.wpAny_loadPart' I
  refine wpAny_stack_any λst=>wpAny_pure ?_;split
  ·rename_i c _ _ _ _ _
   cases (c==Value.type "enumerate") <;> (refine wpAny_bind (wpAny_of_eq (a:=(Value.ref l,some (Value.int 1 t))) (by rfl) ?_);wp_walk using AutoSeq1.wpAny_loadPart' I,wpAny_pyIter_list Y;exact⟨_,rfl,h⟩)
  ·refine wpAny_bind (wpAny_of_eq (a:=(Value.ref l,some (Value.int 1 t))) (by rfl) ?_);wp_walk using AutoSeq1.wpAny_loadPart' I,wpAny_pyIter_list Y;exact⟨_,rfl,h⟩
variable{t:Tok}
theorem zwt{v x:Value}:Meets (Builtin.«object.__init__» ⟨[v,x],[("start",.int 1 t)]⟩) (λ_ R s=>s.TypeIs v "enumerate"/\R (.ok (.ret .none)) s) :=
 .of_wp λprog w A R s D=>by
  obtain⟨hT,h⟩:=D;have I:=F.called_enumerate.made;have U:=F.called_enumerate.init.lookup;repeat (any_goals (first | assumption | wp_step))
  exact⟨_,rfl,h⟩
theorem zwu(a b:Value)(t:Tok):argsOk "object.__init__" ⟨[a,b],[("start",.int 1 t)]⟩:=by
 unfold argsOk;rw[signature?_of (id:="object.__init__") (n:=['_','_','t','i','n','i','_','_']) (o:=['t','c','e','j','b','o']) (by kernel_rfl) F.owner_object];kernel_rfl
variable{Q E:Value->Shared->Prop}{prog:Program}
theorem zwv{D:gy}(b:s.heap.IsList l D)(h:Q (.ref (enH s.heap l).objs.size) { s with heap:=enHs s.heap l }):wpAny (model prog w) A (call (.type "enumerate") [.ref l] [("start",.int 1 t)]) Q E s:=by
 obtain⟨⟨c,U,d,sl⟩,e,V,n,hd⟩:=b;replace V:c=.type "list":=V;replace hd:d=.seq D n:=hd;subst V hd;have Y:=F.called_enumerate.made;have a:=F.called_enumerate.sub;have f:=zsg (.ref l) t;refine wpAny_call (codeAny_of_tree (show wpAny _ _ (callAny (.type "enumerate") _) _ _ _ from wpAny_pure ⟨Code.quiet_builtin _ (by decide +kernel),codeAny_builtin F.entry_type_call ?_⟩));repeat (any_goals (first | assumption | wp_step))
 refine codeAny_mono (codeAny_call_builtin (R:=λr I=>r=.ok (.ret (.ref (enH s.heap l).objs.size))/\I={ s with heap:=enHs s.heap l }) F.called_enumerate.plain F.entry_enumerate_new (wpAny_of_eq (zud _ t) (zue l D n U sl t prog w A.in1 (λr I=>r=.ok (.ret (.ref (enH s.heap l).objs.size))/\I={ s with heap:=enHs s.heap l }) s ⟨e,rfl,rfl⟩))) λr I g=>?_;obtain⟨rfl,rfl⟩:=g;have hT:Shared.TypeIs { s with heap:=enHs s.heap l } (.ref (enH s.heap l).objs.size) "enumerate":=⟨_,c8 _ rfl,rfl⟩;have i:=F.called_enumerate.init.lookup;have j:=F.called_enumerate.init.bind (.ref (enH s.heap l).objs.size);repeat (any_goals (first | assumption | wp_step))
 refine codeAny_mono (codeAny_call_builtin (R:=λr s2=>r=.ok (.ret .none)/\s2={ s with heap:=enHs s.heap l }) F.called_enumerate.init.plain F.entry_object_init (F.called_enumerate.init.check _ _ _ _ _ _ _ _ hT (zwu _ _ t) (zwt prog w A.in1 (λr s2=>r=.ok (.ret .none)/\s2={ s with heap:=enHs s.heap l }) _ ⟨hT,rfl,rfl⟩))) λk s2 Z=>?_;obtain⟨rfl,rfl⟩:=Z;repeat (any_goals (first | assumption | wp_step))
theorem zne(n:Nat):ZNe (n+4) (n+2) (n+3) n (n+1):=by
 have h:∀i j:Nat,i≠j->n+i≠n+j:=λi j z=>by lia
 exact⟨h 2 4 (by decide),h 3 4 (by decide),h 0 4 (by decide),h 1 4 (by decide),h 2 3 (by decide),h 2 0 (by decide),h 2 1 (by decide),h 3 0 (by decide),h 3 1 (by decide),h 0 1 (by decide)⟩
variable{c:Nat}
theorem mem2(h:c∈[n+1,n]):n<=c:=by simp at h;lia
theorem mem5(h:c∈[n+4,n+2,n+3,n,n+1]):n<=c:=by simp at h;lia
def zn4:bootBuiltins "enumerate" = some (.type "enumerate"):=by decide +kernel
def zww:bootBuiltins "zip" = some (.type "zip"):=by decide +kernel
def z0n(K:gu)(c:Nat)(ta:TA):TI:=λσ H R=>ta σ H λvs H1=>∃l xs,vs=[.ref l]/\SqL K H1 l xs/\R (Ite K l c) H1
def iZip(K:gu)(ta:TA):TI:=λσ H R=>ta σ H λvs H1=>∃l D xs ys,vs=[.ref l,.ref D]/\SqL K H1 l xs/\SqL K H1 D ys/\R (Itz K l D) H1
variable{p:Pos}{ta:TA}
def z0o(Z:Bn X "enumerate")(d:PA X [a] ta)(f:starEach [a] X.env=[(false,eval a X.env)]:=by rfl) :
  PI X (.Tuple es k p1) (.Call (.Name "enumerate" p) [a] [] pos) (z0n X.K 0 ta):=by
 intro pins s σ H R I h;refine Call_ (t3 I Z.g Z.m zn4 (f6 (thn (d pos pins s σ H _ I h) λus D i=>?_) f rfl));obtain⟨vs,H1,U,j,n⟩:=i;obtain⟨l,xs,e,o,q⟩:=n;subst e;cases j with
 | cons r rr =>
   cases rr;cases r;obtain⟨its,v,pl,w⟩:=U.list o;refine call_enumerate_list pl.isList λh' b Y t u=>wpAny_pyIter_enum b ?_;refine⟨D.heap.objs.size+1,[D.heap.objs.size+1,D.heap.objs.size],_,_,H1,rfl,U.kept (t':=D.toks) u,zn3 l _ _ 0 (Nat.succ_ne_self _),⟨⟨.none,b⟩,Y⟩,λc V=>?_,q⟩;have V:D.heap.objs.size<=c:=mem2 V;exact U.fpOk V (U.hok.fresh V)
variable{kp:Pos}
def zwx(b:Bn X "enumerate")(f:PA X [a] ta)(n:starEach [a] X.env=(false,eval a X.env)::starEach [] X.env:=by rfl)(Y:(backTo pos (starEach [a] X.env)).any (·.1)=false:=by rfl) :
  PI X (.Tuple es k p1) (.Call (.Name "enumerate" p) [a] [⟨some "start",.Constant (.int 1) j p2,kp⟩] pos) (z0n X.K 1 ta):=by
 intro pins s σ H R I h;refine wpAny_Call_Name_kw (t3 I b.g b.m zn4 ?_);refine PySem.W.callWith_of (P:=λ_=>True) (by rw[Y];rfl) (λ_ _=>⟨Keeper.machine,.inr (.inl rfl),PySem.W.Looks.of_pure rfl⟩) (evalArgs_kw2 rfl (thn (f pos pins s σ H _ I h) λus u Z=>?_) n);obtain⟨vs,H1,v,w,x⟩:=Z;refine thn (zzx (nm:=some "start") (kpos:=kp) (zs2 (i:=1) (j:=j) (pos:=p2)) z2w pos pins u σ H1 (λws H2=>H2=H1/\ws=[.int 1]) v ⟨rfl,rfl⟩) λws s2 Z=>?_;obtain⟨C,H2,V,y,z,A⟩:=Z;refine⟨trivial,?_⟩;subst z A;obtain⟨l,xs,e,B,q⟩:=x;subst e;cases w with
 | cons r rr =>
   cases rr;cases r;cases y with
   | cons r' rr' =>
   obtain⟨t,rfl⟩:=r';obtain⟨its,E,pl,F⟩:=V.list B;refine zwv (t:=t) pl.isList ?_;have d:IsEnum (enHs s2.heap l) (enH s2.heap l).objs.size s2.heap.objs.size 1 .none:=c8 _ rfl;have D:(enH s2.heap l).objs.size=s2.heap.objs.size+1:=jv ..;refine wpAny_pyIter_enum d ?_;refine⟨(enH s2.heap l).objs.size,[(enH s2.heap l).objs.size,s2.heap.objs.size],_,_,H2,rfl,V.kept (t':=s2.toks) (λc o e=>av _ (av _ e)),zn3 l _ _ 1 (by rw[D];exact Nat.succ_ne_self _),⟨⟨.none,d⟩,⟨_,av _ (c8 _ rfl),rfl,rfl⟩⟩,λc U=>?_,q⟩;have U:s2.heap.objs.size<=c:=by rw[D] at U;exact mem2 U
   exact V.fpOk U (V.hok.fresh U)
def z3x(f:Bn X "zip")(j:PA X [a,b] ta)(n:starEach [a,b] X.env=[(false,eval a X.env),(false,eval b X.env)]:=by rfl)(U:starEach [b] X.env=[(false,eval b X.env)]:=by rfl) :
  PI X (.Tuple es k p1) (.Call (.Name "zip" p) [a,b] [] pos) (iZip X.K ta):=by
 intro pins s σ H R I h;refine Call_ (t3 I f.g f.m zww (f6 (thn (j pos pins s σ H _ I h) λus D o=>?_) (by rw[n,U]) (by rw[U];rfl)));obtain⟨vs,H1,V,t,u⟩:=o;obtain⟨l,v,xs,ys,e,w,Z,q⟩:=u;subst e;cases t with
 | cons r rr =>
   cases rr with
   | cons r' rr =>
   cases rr;cases r;cases r';obtain⟨its,G,pl,J⟩:=V.list w;obtain⟨its',x,d,y⟩:=V.list Z;refine call_zip_2 pl.isList d.isList λh' i z A B C E F=>wpAny_pyIter_zip i ?_;refine⟨_,[D.heap.objs.size+4,D.heap.objs.size+2,D.heap.objs.size+3,D.heap.objs.size,D.heap.objs.size+1],_,_,H1,rfl,V.kept (t':=D.toks) F,zws l v _ _ _ _ _ (zne _),⟨i,z,⟨_,_,A⟩,B,C⟩,λc Y=>?_,q⟩;have Y:D.heap.objs.size<=c:=mem5 Y;exact V.fpOk Y (V.hok.fresh Y)
def mz:Nat->g2->g2
 | _,[]=>[]
 | c,d::r=>.tup [.int c,d]::mz (c+1) r
def zipD:g2->g2->g2
 | d::r,d'::r'=>.tup [d,d']::zipD r r'
 | _,_=>[]
theorem zn5:∀(ds:g2) (c i:Nat),(mz c ds)[i]?=ds[i]?.map λd=>.tup [.int (c+i:Nat),d]
 | [],c,i=>by simp[mz]
 | d::r,c,0=>by simp[mz]
 | d::r,c,i+1=>by
   simp only[mz,ah];rw[zn5 r (c+1) i];rw[show c+1+i=c+(i+1) by lia]
def zn6:∀(ds:g2) (c:Nat),(mz c ds).length=ds.length
 | [],_=>rfl
 | d::r,c=>by simp[mz,zn6 r]
def zqr:∀(ds es:g2) (i:Nat) (p:D),(zipD ds es)[i]?=some p->∃d e,ds[i]?=some d/\es[i]?=some e/\p=.tup [d,e]
 | d::r,e::r',0,p,h=>by simp[zipD] at h;exact⟨d,e,by simp,by simp,h.symm⟩
 | d::r,e::r',i+1,p,h=>by
   exact zqr r r' i p h
def zqs:∀(ds es:g2),(zipD ds es).length=min ds.length es.length
 | [],es=>by simp[zipD]
 | d::r,[]=>by simp[zipD]
 | d::r,e::r'=>by simp[zipD,zqs r r']
@[simp] noncomputable def iEn(c:Nat)(ds:g2):Option g2:=match ds with | [.lst ds]=>some (mz c ds) | _=>none
@[simp] noncomputable def iZp(ds:g2):Option g2:=match ds with | [.lst ds,.lst es]=>some (zipD ds es) | _=>none
variable{H':Hp}
def zuf{W':Addr->Prop}{t:Addr}(r:Reps K H' (Ow G W') ds vs)(D:H' t=none):Rep K (upd H' t (.tup vs)) (Ow G W') (.tup ds) (.ref t):=by
 refine .tup (li ..) (r.mono (λa us e=>by rw[gi (m6 e D)];exact e) λa us o h=>⟨o,?_⟩);exact h.keep λo e=>by rw[gi (m6 e D)];exact e
def zug(c:Nat)(ok:Ok X.K G H0 W env σ H)(h:LsOk X.K H (Ow G W) l vs)(r:Reps X.K H (Ow G W) ds vs):z0f X.K G (Ite X.K l c) W H (mz c ds) where
 go:=λW' H' i d st e=>by
  rw[zn5] at e;cases e0:ds[i]? with
  | none=>rw[e0] at e;cases e
  | some d0 =>
    rw[e0] at e;cases e;obtain⟨v,D,I⟩:=(ok.reps st r).get e0;have h':=(ok.lsstep st h).sq;refine⟨⟨vs,v,h',D⟩,λx H'' ⟨t,us,hn,ex,eH,y,eu,hy⟩=>?_⟩;subst ex eH eu;have:=hy vs h';rw[D] at this;cases this;exact⟨yq hn,zuf (.cons (.int _) (.cons I .nil)) hn⟩
 stop:=λW' H' st=>⟨vs,(ok.lsstep st h).sq,by rw[zn6,r.length]⟩
def zwy{I:Addr}{vs':g0}{es:g2}(ok:Ok X.K G H0 W env σ H)(h:LsOk X.K H (Ow G W) l vs)(h':LsOk X.K H (Ow G W) I vs')(r:Reps X.K H (Ow G W) ds vs)(U:Reps X.K H (Ow G W) es vs'):z0f X.K G (Itz X.K l I) W H (zipD ds es) where
 go:=λW' H' i d st e=>by
  obtain⟨n,o,g,j,rfl⟩:=zqr _ _ _ _ e;obtain⟨v1,Y,k⟩:=(ok.reps st r).get g;obtain⟨v2,Z,m⟩:=(ok.reps st U).get j;have a:=(ok.lsstep st h).sq;have b:=(ok.lsstep st h').sq;refine⟨⟨vs,vs',v1,v2,a,b,Y,Z⟩,λx H'' ⟨t,us,hn,ex,eH,y1,y2,eu,hy1,hy2⟩=>?_⟩;subst ex eH eu;have c:=hy1 vs a;have f:=hy2 vs' b;rw[Y] at c;cases c;rw[Z] at f;cases f;exact⟨yq hn,zuf (.cons k (.cons m .nil)) hn⟩
 stop:=λW' H' st=>⟨vs,vs',(ok.lsstep st h).sq,(ok.lsstep st h').sq,by rw[zqs,r.length,U.length]⟩
variable{tg:Expr}
def zqt(U:PI X tg e (z0n X.K c (tDA X.K G H0 F))):DJx X G H0 tg e (gz (iEn c) F):=⟨U.imp λσ H R V=>by
 obtain⟨W,env,ds,env',ok,q,k⟩:=V;cases e1:F env with
 | none=>simp[e1] at q
 | some z =>
   obtain⟨as,D⟩:=z;cases e2:iEn c as with
   | none=>rw[gz,e1] at q;simp only[ac,e2] at q;cases q
   | some d' =>
     have q:some (d',D)=some (ds,env'):=by rw[gz,e1] at q;simp only[ac,e2] at q;exact q
     cases q;refine⟨W,env,as,_,ok,e1,λW1 vs H1 Y I p1=>?_⟩;unfold iEn at e2;split at e2
     ·rename_i xs
      cases e2;obtain⟨v,rfl,Z⟩:=rj p1;obtain⟨l,us,rfl,h,r⟩:=Z.lst_;exact⟨l,us,rfl,h.sq,k W1 _ H1 Y I (zug c I h r)⟩
     ·cases e2⟩
def zmi(D:DAx X G H0 [a] F)(I:Bn X "enumerate":=by walk_at "b")(U:starEach [a] X.env=[(false,eval a X.env)]:=by rfl) :
  DJx X G H0 (.Tuple es k p1) (.Call (.Name "enumerate" p) [a] [] pos) (gz (iEn 0) F):=zqt (z0o I D.out U)
def zwz(I:DAx X G H0 [a] F)(U:Bn X "enumerate":=by walk_at "b")(V:starEach [a] X.env=(false,eval a X.env)::starEach [] X.env:=by rfl)(D:(backTo pos (starEach [a] X.env)).any (·.1)=false:=by rfl) :
  DJx X G H0 (.Tuple es k p1) (.Call (.Name "enumerate" p) [a] [⟨some "start",.Constant (.int 1) j p2,kp⟩] pos) (gz (iEn 1) F):=zqt (zwx U I.out V D)
def zyy(Y:DAx X G H0 [a,b] F)(Z:Bn X "zip":=by walk_at "b")(c:starEach [a,b] X.env=[(false,eval a X.env),(false,eval b X.env)]:=by rfl)(U:starEach [b] X.env=[(false,eval b X.env)]:=by rfl) :
  DJx X G H0 (.Tuple es k p1) (.Call (.Name "zip" p) [a,b] [] pos) (gz iZp F):=⟨(z3x Z Y.out c U).imp λσ H R d=>by
 obtain⟨W,env,ds,env',ok,q,k⟩:=d;cases e1:F env with
 | none=>simp[e1] at q
 | some z =>
   obtain⟨as,D⟩:=z;cases e2:iZp as with
   | none=>rw[gz,e1] at q;simp only[ac,e2] at q;cases q
   | some d' =>
     have q:some (d',D)=some (ds,env'):=by rw[gz,e1] at q;simp only[ac,e2] at q;exact q
     cases q;refine⟨W,env,as,_,ok,e1,λW1 vs H1 e I p1=>?_⟩;unfold iZp at e2;split at e2
     ·rename_i xs ys
      cases e2;obtain⟨v,m,rfl,f,g⟩:=z0b p1;obtain⟨l,us,rfl,h,r⟩:=f.lst_;obtain⟨i,V,rfl,h',j⟩:=g.lst_;exact⟨l,i,us,V,rfl,h.sq,h'.sq,k W1 _ H1 e I (zwy I h h' r j)⟩
     ·cases e2⟩
def zw0{env0:DE0}{z:Int}(h:fVar i env=some (.int z,env0)):env[i]?=some (some (.sh (.int z)))/\env0=env:=by
 unfold fVar at h;split at h
 ·rename_i d hd
  cases h;exact⟨hd,rfl⟩
 all_goals cases h
variable{op:D->D->g3}
def z5w(Z:∀D I d,op D I=some d->∃u v,D=.int u/\I=.int v/\d=.int (o u v)):∀Dn σ H,tDS X G H0 (sSet i (fBin op (fVar i) f)) Dn σ H->tAug i (tD X.K G H0 f) (ipI o) Dn σ H :=
 λDn σ H a=>by
 obtain⟨W,env,fl,env',ok,q,k⟩:=a;unfold sSet fBin at q;cases e0:fVar i env with
 | none=>rw[e0] at q;cases q
 | some r0 =>
   obtain⟨b,env0⟩:=r0;rw[e0,ac] at q;cases e1:f env0 with
   | none=>rw[e1] at q;cases q
   | some U =>
     obtain⟨D,Y⟩:=U;rw[e1,ac] at q;cases e2:op b D with
     | none=>rw[e2] at q;cases q
     | some I =>
       rw[e2] at q;cases q;obtain⟨u,v,rfl,rfl,rfl⟩:=Z _ _ _ e2;obtain⟨c,rfl⟩:=zw0 e0;obtain⟨y,e,g⟩:=ok.slot i _ c;refine⟨y,e,W,env0,_,_,ok,e1,λW1 v1 H1 h V U=>⟨u,v,Rep.int_ g,U.int_,k W1 _ H1 h (V.set (.int _))⟩⟩
def wv(tn:Tos Nn X)(I:DEx X G H0 e f)(D:Nn[i]?=some x:=by rfl) :
  DSx X G H0 (.AugAssign (.Name x p') .Add e pos) (sSet i (fBin h9 (fVar i) f)):=⟨(z2d (tn.t D).nd (tn.t D).n (tn.t D).l I.out zyi (tn.t D).f).imp (z5w λU V d h=>by
 cases U <;> try (cases h;done)
 all_goals cases V <;> first | (cases h;done) | exact⟨_,_,rfl,rfl,(bh h).symm⟩)⟩
def z3y:V->V->Hp->VK->Prop:=λo i H Q=>∃l xs k v,o=.ref l/\i=.int k/\H l=some (.lst xs)/\0<=k/\xs[k.toNat]?=some v/\Q v H
theorem zqu:PGet X z3y:=by
 intro pins s σ H o i b c Q I ro V h;obtain⟨l,xs,k,v,rfl,rfl,Y,Z,U,q⟩:=h;cases ro;obtain⟨t,rfl⟩:=V;obtain⟨its,r,pl,d⟩:=I.list (.inl (.inl Y));obtain⟨w,a,D⟩:=r.get U;have e:=(am.mp U).1;have f:=uw;exact wpAny_getItem_list pl.isList Z (by lia) (by simpa using a) ⟨v,H,I,D,q⟩
def zx(i:Nat)(op:D->D->g3)(k:Int)(d v:D)(e:DE0):Option (Fl×DE0):=match e[i]? with
 | some (some (.ow ds))=>if k.toNat<ds.length then(op d v).map λr=>(.nx,e.set i (some (.ow (ds.set k.toNat r)))) else none
 | _=>none
def t0(i:Nat)(op:D->D->g3)(V Y:FE):FS:=λe=>match e[i]? with
 | some (some (.ow _))=>(V e).bind λI=>match I.1,I.2[i]? with
   | .int k,some (some (.ow ds))=>if 0<=k then(ds[k.toNat]?).bind λd=>(Y I.2).bind λU=>zx i op k d U.1 U.2 else none
   | _,_=>none
 | _=>none
theorem zyz(A:∀t x d,op t x=some d->∃u v,t=.int u/\x=.int v/\d=.int (o u v)) :
  ∀Dn σ H,tDS X G H0 (t0 i op g f) Dn σ H->z2e (tVar i) (tD X.K G H0 g) (tD X.K G H0 f) z3y (ipI o) z2z Dn σ H:=λDn σ H B=>by
 obtain⟨W,env,fl,env',ok,q,k⟩:=B;unfold t0 at q;split at q;case h_2=>cases q
 rename_i C e;obtain⟨v,b,l,E,rfl,F,J,_⟩:=ok.slot i _ e;cases e1:g env with
 | none=>rw[e1] at q;cases q
 | some c =>
 obtain⟨dk,I⟩:=c;rw[e1,ac] at q;dsimp only at q;split at q;case h_2=>cases q
 rename_i kk ds L;split at q;case isFalse=>cases q
 rename_i U;cases e2:ds[kk.toNat]? with
 | none=>rw[e2] at q;cases q
 | some dd =>
 rw[e2,ac] at q;cases e3:f I with
 | none=>rw[e3] at q;cases q
 | some r3 =>
 obtain⟨M,y⟩:=r3;rw[e3,ac] at q;unfold zx at q;split at q;case h_2=>cases q
 rename_i N V;split at q;case isFalse=>cases q
 cases e4:op dd M with
 | none=>rw[e4] at q;cases q
 | some dr =>
 rw[e4] at q;cases q;obtain⟨u,w,rfl,rfl,rfl⟩:=A _ _ _ e4;refine⟨_,b,W,env,_,_,ok,e1,λW1 v1 H1 O Y c=>?_⟩;obtain⟨P,D,Q,h,R,S,j,m⟩:=Y.slot i _ L;rw[b] at D;cases D;cases R;obtain⟨T,n,p⟩:=m.get e2;refine⟨l,h,kk,T,rfl,c.int_,j,U,n,W1,I,_,_,Y,e3,λW2 v2 H2 s2 Z r2=>?_⟩;refine⟨u,w,p.int_,r2.int_,?_⟩;obtain⟨P,D,Q,r,e6,aa,s,a⟩:=Z.slot i _ V;rw[b] at D;cases D;cases e6;obtain⟨t1,t2⟩:=Z.turn V b (Reps.set (.int (o u w)) kk.toNat a);have z:=a.length;refine⟨l,r,kk,kk.toNat,rfl,c.int_,s,?_,k W2 _ _ ((O.trans s2).trans t2) t1⟩;unfold ixN;rw[if_pos U,if_pos (by lia)]
def zw2(V:DEx X G H0 b g)(Y:DEx X G H0 e f)(an:Ats Nn Cn X)(U:Nn[i]?=some x:=by rfl)(Z:∀D I new,augStore b D I new=(do holding [new,D,I] (setItem D I new);release [new,D,I] [];pure .next):=by intros;rfl) :
  DSx X G H0 (.AugAssign (.Subscript (.Name x p') b p1) .Add e pos) (t0 i h9 g f):=⟨(zs6 ((an.a U).pe) V.out zqu Y.out zyi zl6 Z).imp (zyz λc j d h=>by
 cases c <;> try (cases h;done)
 all_goals cases j <;> first | (cases h;done) | exact⟨_,_,rfl,rfl,(bh h).symm⟩)⟩
def zw3(V:DEx X G H0 b g)(Y:DEx X G H0 e f)(an:Ats Nn Cn X)(U:Nn[i]?=some x:=by rfl)(Z:∀D I new,augStore b D I new=(do holding [new,D,I] (setItem D I new);release [new,D,I] [];pure .next):=by intros;rfl) :
  DSx X G H0 (.AugAssign (.Subscript (.Name x p') b p1) .Sub e pos) (t0 i dSub g f):=⟨(zs6 ((an.a U).pe) V.out zqu Y.out z2f zl6 Z).imp (zyz λc j d h=>by
 cases c <;> try (cases h;done)
 all_goals cases j <;> first | (cases h;done) | exact⟨_,_,rfl,rfl,(bh h).symm⟩)⟩
def z0p(I:g2)(e:DE0)(i:Nat):Option (D×DE0):=match e[i]? with
 | some (some (.ow ds))=>if Few (ds.length+I.length) then some (.non,e.set i (some (.ow (ds++I)))) else none
 | _=>none
def zmj(i:Nat)(F:FA):FE:=λe=>match e[i]? with
 | some (some (.ow _))=>(F e).bind λr=>z0p r.1 r.2 i
 | _=>none
def zuh(o:DFx X G H0 a F)(an:Ats Nn Cn X)(b:Nn[i]?=some x:=by rfl)(D:attributeBase (.Name x p') "extend" X.env (eval (.Name x p') X.env)=eval (.Name x p') X.env:=by rfl)(U:((backTo pos (starEach [a] X.env)).all (λx=>!x.1) && (backToKw pos (keywordEach [] X.env)).all (λx=>x.1.isSome)
   && decide ([a].length+([]:List Keyword).length+(if ([]:List Keyword).isEmpty then 0 else 1)<30))=true:=by rfl)(I:(p1.endLine==pos.line)=true:=by rfl)(g:starEach [a] X.env=(false,eval a X.env)::starEach [] X.env:=by rfl) :
  DEx X G H0 (.Call (.Attribute (.Name x p') "extend" p1) [a] [] pos) (zmj i F):=⟨(wb fm PySem.F.slot_list_extend PySem.F.type_list_extend ztn ((an.a b).pe) (o8 o.out qg g) D U I g rfl).imp λσ H Q p=>by
 obtain⟨W,env,d,env',ok,q,k⟩:=p;unfold zmj at q;split at q;case h_2=>cases q
 rename_i s c;obtain⟨v,e,l,t,rfl,u,f,_⟩:=ok.slot i _ c;cases e1:F env with
 | none=>rw[e1] at q;cases q
 | some r =>
   obtain⟨w,V⟩:=r;rw[e1,ac] at q;unfold z0p at q;split at q;case h_2=>cases q
   rename_i ds h;split at q;case isFalse=>cases q
   rename_i Y;cases q;refine⟨_,e,.inl ⟨rfl,_,.inl (.inl f)⟩,W,env,w,V,ok,e1,λW1 n us H1 y z Z K A j=>?_⟩;obtain⟨L,m,M,vs,B,N,C,r⟩:=Z.slot i _ h;rw[e] at m;cases m;cases B;obtain⟨E,J⟩:=Z.turn h e (r.append j);refine⟨l,n,vs,us,rfl,rfl,C,A,?_,k _ _ _ (y.trans J) E .non⟩;rw[<-r.length,<-j.length];exact b8 Y (by rw[sizeLine_eq];decide)⟩
def ui:D->Bool | .tup _=>false | .lst _=>false | .dct _ _=>false | _=>true
def Rep.atom{D:gu}{O':Addr->Prop}(r:Rep K H O d v)(h:ui d=true):Rep D H' O' d v:=by
 cases r with
 | non=>exact .non
 | bl b=>exact .bl b
 | int i=>exact .int i
 | str s=>exact .str s
 | tup _ _=>cases h
 | lst _ _ _=>cases h
 | klst _ _=>cases h
 | dct _ _=>cases h
 | exc a=>exact .exc a
structure z5x (K:gu) (G:Gd) (J:It) (W:Addr->Prop) (H:Hp) (ds:g2):Prop where
 go:∀H' (i:Nat) d,Same H H'->ds[i]?=some d->J.go i H'/\∀x H'',J.yld i H' x H''->H''=H'/\Rep K H' (Ow G W) d x
 stop:∀H',Same H H'->J.stop ds.length H'
def tDC(K:gu)(G:Gd)(H0:Hp)(f:FI):TI:=λσ H R=>DP K G H0 f (λW env ds env' =>
 ∀W' J H',Step W H W' H'->Ok K G H0 W' env' σ H'->z5x K G J W' H' ds->R J H') σ H
structure DCx (X:Cx) (G:Gd) (H0:Hp) (tg:Expr) (e:Expr) (f:FI):Prop where
 out:PI X tg e (tDC X.K G H0 f)
def fiV(i:Nat):FI:=λe=>match e[i]? with
 | some (some (.ow ds))=>some (ds,e)
 | some (some (.sh (.lst ds)))=>some (ds,e)
 | _=>none
def oa:g5->g5 | some (.sh d)=>some (.sh d) | some (.ow ds)=>some (.sh (.lst ds)) | _=>none
def ur(fi:FI)(ix:f0)(tt:FT)(te:FE):FA:=λe=>(fi e).bind λr=>if Few r.1.length then(lv tt te (ix.map λj=>oa (r.2.getD j none)) r.1).bind λds=>if ds.all ui=true then some (ds,r.2) else none else none
def z5y(h:DIx X G H0 tg e fi):DCx X G H0 tg e fi:=⟨h.out.imp λσ H R ⟨W,env,ds,env',ok,q,k⟩ =>
 ⟨W,env,ds,env',ok,q,λW' J H' st D I=>k W' J H' st D ⟨λH2 i d sm e=>I.go W' H2 i d (Step.same sm) e,λH2 sm=>I.stop W' H2 (Step.same sm)⟩⟩⟩
def zy0(an:Ats Nn Cn X)(I:Nn[i]?=some x:=by rfl):DCx X G H0 tg (.Name x p1) (fiV i):=⟨(zs8 ((an.a I).pe)).imp λσ H R c=>by
 obtain⟨W,env,ds,env',ok,q,k⟩:=c;unfold fiV at q;split at q
 ·rename_i ds' U
  cases q;obtain⟨v,V,l,vs,rfl,g,Y,r⟩:=ok.slot i _ U;refine⟨_,V,l,rfl,⟨vs,.inl (.inl Y)⟩,k W _ H Step.refl ok ⟨λH' j d sm e=>?_,λH' sm=>⟨vs,.inl (.inl (sm _ _ Y)),by rw[r.length];exact bo _⟩⟩⟩;obtain⟨w,Z,f⟩:=(ok.reps (Step.same sm) r).get e;have D:SqL X.K H' l vs:=.inl (.inl (sm _ _ Y));exact⟨⟨vs,w,D,Z⟩,λy H'' ⟨e3,z⟩=>⟨e3,by have:=z vs D;rw[Z] at this;cases this;exact f⟩⟩
 ·rename_i ds' U
  cases q;obtain⟨v,V,r⟩:=ok.slot i _ U;obtain⟨l,vs,rfl,h,r⟩:=Rep.lst_ r;have b:=zn2 ok h r;exact⟨_,V,l,rfl,⟨vs,h.sq⟩,k W _ H Step.refl ok ⟨λH' j d sm e=>b.go W H' j d (Step.same sm) e,λH' sm=>b.stop W H' (Step.same sm)⟩⟩
 ·cases q⟩
variable{te:FE}{tt:FT}
theorem z3z:∀σ H Q,tDF X.K G H0 (ju fi ix tt te) σ H Q->ul (tDC X.K G H0 fi) ix (tDxT X.K tt) (tDx X.K te) σ H Q:=λσ H Q B=>by
 obtain⟨W,env,d,env',ok,q,k⟩:=B;cases e1:fi env with
 | none=>simp[ju,e1] at q
 | some z =>
   obtain⟨ds,Z⟩:=z;by_cases g:Few ds.length
   ·simp only[ju,e1,ac,if_pos g] at q
    cases e2:lv tt te (ix.map λj=>capt (Z.getD j none)) ds with
    | none=>rw[e2] at q;cases q
    | some outs =>
      rw[e2] at q;cases q;refine⟨W,env,ds,_,ok,e1,λW1 J H1 C n u=>?_⟩;refine⟨λi m H' ys=>∃rest D,m=ds.length-i/\i<=ds.length/\Same H1 H'/\Reps X.K H' (Ow G W1) D ys/\D.length<=i/\lv tt te (ix.map λj=>capt (env'.getD j none)) (ds.drop i)=some rest/\d=D++rest,⟨ds.length,d,[],rfl,dy _,Same.refl _,.nil,bo _,e2,rfl⟩,?_⟩;rintro i m H' ys ⟨rest,D,rfl,hi,sm,rp,hd,ec,rfl⟩;have st:Step W1 H1 W1 H':=Step.same sm;have I:Ok X.K G H0 W1 env' σ H':=n.same sm;by_cases V:i<ds.length
      ·have E:ds.drop i=ds[i]::ds.drop (i+1):=fb V
       rw[E] at ec;obtain⟨F,L⟩:=u.go H' i ds[i] sm (by simp[V]);refine .inr ⟨F,λx p y=>?_⟩;obtain⟨rfl,M⟩:=L x p y;have r:=zmd (ix:=ix) I M;unfold lv at ec;cases e3:tt (some (.sh ds[i])::ix.map λj=>capt (env'.getD j none)) with
       | none=>rw[e3] at ec;cases ec
       | some bb =>
         obtain⟨b,U⟩:=bb;rw[e3,ac] at ec;refine⟨_,_,NoW,_,b,U,r,e3,λN H2 s2 Y=>?_⟩;have s:Same H1 H2:=sm.trans Y.stay;have t:Reps X.K H2 (Ow G W1) D ys:=I.reps (Step.same Y.stay) rp;cases b with
         | false =>
           exact⟨ds.length-(i+1),by lia,rest,D,rfl,V,s,t,by lia,ec,rfl⟩
         | true =>
           cases e4:te U with
           | none=>simp only[e4] at ec;cases ec
           | some vv =>
             obtain⟨A,c⟩:=vv;simp only[e4,ac] at ec;cases e5:lv tt te (ix.map λj=>capt (env'.getD j none)) (ds.drop (i+1)) with
             | none=>rw[e5] at ec;cases ec
             | some rest' =>
               rw[e5] at ec;cases ec;refine⟨_,_,N,U,A,c,Y,e4,λW3 v H3 s3 f r3=>⟨?_,ds.length-(i+1),by lia,rest',D++[A],rfl,V,sm.trans f.stay,?_,by rw[aj,dg];lia,by first | exact e5 | rfl,by simp⟩⟩
               ·have:ys.length<2 ^ 20:=by rw[<-rp.length];have:ds.length<=2 ^ 20:=g;lia
                exact bq this (by rw[sizeLine_eq];decide)
               ·refine(I.reps (Step.same f.stay) rp).append (.cons (r3.mono (λ_ _ h=>h) λa us o h=>⟨?_,h⟩) .nil)
                rcases o.1 with z | z
                ·exact z
                ·exact⟨I.good a (I.stay.free z),λw=>by obtain⟨_,us,q⟩:=I.wl a w;rw[z] at q;cases q⟩
      ·have e:i=ds.length:=by lia
       subst e;rw[i8] at ec;cases ec;refine .inl ⟨u.stop H' sm,by rw[<-rp.length];exact b8 hd (b8 g (by rw[sizeLine_eq];decide)),λl O=>?_⟩;obtain⟨h1,h2,P,R,S,T⟩:=qk I rp O;rw[cr] at k;exact k W1 l _ _ ((C.trans st).trans h1) h2 P R S T
   ·simp only[ju,e1,ac,if_neg g] at q;cases q
def zui(ok:Ok X.K G H0 W env σ H)(r:Rep X.K H (Ow G W) d v) :
  Ok X.K (gd λa=>G a\/H a=none) H NoW (some (.sh d)::ix.map λj=>oa (env.getD j none)) (some v::ix.map λj=>σ.getD j none) H:=by
 have up1:∀(a:Addr) (us:g0),Ow G W a->Rd H a (.lst us)->Ow (gd λa=>G a\/H a=none) NoW a/\Rd H a (.lst us):=λa us o h=>⟨⟨.inl o.1,λz=>z⟩,h⟩;have Z:∀ {d:D} {v:V},Rep X.K H (Ow G W) d v->Rep X.K H (Ow (gd λa=>G a\/H a=none) NoW) d v:=λr=>r.mono (λ_ _ h=>h) up1;have U:∀(i:Nat) (s:Sl),(some (Sl.sh d)::ix.map λj=>oa (env.getD j none))[i]?=some (some s)->∃d',s=.sh d':=λi s z=>by
  cases i with
  | zero=>exact⟨d,by simpa using z.symm⟩
  | succ i =>
    simp only[ah,az] at z;cases q:ix[i]? with
    | none=>rw[q] at z;cases z
    | some j =>
      rw[q] at z;have z:oa (env.getD j none)=some s:=bh z;unfold oa at z;split at z
      ·cases z;exact⟨_,rfl⟩
      ·cases z;exact⟨_,rfl⟩
      ·cases z
 refine⟨Same.refl _,λa z=>.inr z,λl z=>z.elim,λi s e=>?_,λi j b s2 v1 v2 a I _ _ _ o _=>by obtain⟨d',rfl⟩:=U i b I;exact o.elim,by simp⟩;cases i with
 | zero =>
   cases e;exact⟨v,rfl,Z r⟩
 | succ i =>
   simp only[ah,az] at e ⊢;cases q:ix[i]? with
   | none=>rw[q] at e;cases e
   | some j =>
     rw[q] at e;have e:oa (env.getD j none)=some s:=bh e;rw[aq] at e;cases q2:env[j]? with
     | none=>rw[q2] at e;cases e
     | some o =>
       rw[q2] at e;have e:oa o=some s:=e;unfold oa at e;split at e
       ·rename_i d'
        cases e;obtain⟨u,I,Y⟩:=ok.slot j _ q2;exact⟨u,by simp only[ao];rw[aq,I];rfl,Z Y⟩
       ·rename_i ds'
        cases e;obtain⟨u,I,l,vs,rfl,c,f,Y⟩:=ok.slot j _ q2;refine⟨_,by simp only[ao];rw[aq,I];rfl,?_⟩;exact .lst ⟨.inl (ok.good l (ok.wl l c).1),λz=>z⟩ (.inl f) (Y.mono (λ_ _ h=>h) up1)
       ·cases e
theorem z30:∀σ H Q,tDF X.K G H0 (ur fi ix tt te) σ H Q->ul (tDC X.K G H0 fi) ix (tDxT X.K tt) (tDx X.K te) σ H Q:=λσ H Q w=>by
 obtain⟨W,env,d,env',ok,q,k⟩:=w;cases e1:fi env with
 | none=>simp[ur,e1] at q
 | some z =>
   obtain⟨ds,Z⟩:=z;by_cases f:Few ds.length
   ·simp only[ur,e1,ac,if_pos f] at q
    cases e2:lv tt te (ix.map λj=>oa (Z.getD j none)) ds with
    | none=>rw[e2] at q;cases q
    | some outs =>
      rw[e2,ac] at q;split at q;case isFalse=>cases q
      rename_i h;cases q;refine⟨W,env,ds,_,ok,e1,λW1 J H1 A n u=>?_⟩;refine⟨λi m H' ys=>∃rest D,m=ds.length-i/\i<=ds.length/\Same H1 H'/\Reps X.K H' (Ow G W1) D ys/\D.length<=i/\lv tt te (ix.map λj=>oa (env'.getD j none)) (ds.drop i)=some rest/\d=D++rest,⟨ds.length,d,[],rfl,dy _,Same.refl _,.nil,bo _,e2,rfl⟩,?_⟩;rintro i m H' ys ⟨rest,D,rfl,hi,sm,rp,hd,ec,rfl⟩;have st:Step W1 H1 W1 H':=Step.same sm;have U:Ok X.K G H0 W1 env' σ H':=n.same sm;by_cases V:i<ds.length
      ·have B:ds.drop i=ds[i]::ds.drop (i+1):=fb V
       rw[B] at ec;obtain⟨C,E⟩:=u.go H' i ds[i] sm (by simp[V]);refine .inr ⟨C,λx o y=>?_⟩;obtain⟨rfl,F⟩:=E x o y;have p:=zui (ix:=ix) U F;unfold lv at ec;cases e3:tt (some (.sh ds[i])::ix.map λj=>oa (env'.getD j none)) with
       | none=>rw[e3] at ec;cases ec
       | some bb =>
         obtain⟨b,I⟩:=bb;rw[e3,ac] at ec;refine⟨_,_,NoW,_,b,I,p,e3,λL H2 s2 Y=>?_⟩;have r:Same H1 H2:=sm.trans Y.stay;have s:Reps X.K H2 (Ow G W1) D ys:=U.reps (Step.same Y.stay) rp;cases b with
         | false =>
           exact⟨ds.length-(i+1),by lia,rest,D,rfl,V,r,s,by lia,ec,rfl⟩
         | true =>
           cases e4:te I with
           | none=>simp only[e4] at ec;cases ec
           | some vv =>
             obtain⟨g,a⟩:=vv;simp only[e4,ac] at ec;cases e5:lv tt te (ix.map λj=>oa (env'.getD j none)) (ds.drop (i+1)) with
             | none=>rw[e5] at ec;cases ec
             | some rest' =>
               rw[e5] at ec;cases ec;have t:ui g=true:=gn.mp h g (by simp);refine⟨_,_,L,I,g,a,Y,e4,λS v T s3 c r3=>⟨?_,ds.length-(i+1),by lia,rest',D++[g],rfl,V,sm.trans c.stay,?_,by rw[aj,dg];lia,by first | exact e5 | rfl,by simp⟩⟩
               ·have:ys.length<2 ^ 20:=by rw[<-rp.length];have:ds.length<=2 ^ 20:=f;lia
                exact bq this (by rw[sizeLine_eq];decide)
               ·exact(U.reps (Step.same c.stay) rp).append (.cons (r3.atom t) .nil)
      ·have e:i=ds.length:=by lia
       subst e;rw[i8] at ec;cases ec;refine .inl ⟨u.stop H' sm,by rw[<-rp.length];exact b8 hd (b8 f (by rw[sizeLine_eq];decide)),λl M=>?_⟩;obtain⟨h1,h2,N,O,P,R⟩:=qk U rp M;rw[cr] at k;exact k W1 l _ _ ((A.trans st).trans h1) h2 N O P R
   ·simp only[ur,e1,ac,if_neg f] at q;cases q
section
variable {X:Cx} {G:Gd} {H0:Hp} {a b c e:Expr} {es rest:gp} {f g:FE} {F:FA} {u:FS} {pos p' p1 pos1:Pos} {x:Str} {i:Nat}
def zqv{Nn Cn:c3}{ix:f0}{sc:Scope}{px:Pos}{fi:FI}{te:FE}(an:Ats Nn Cn X)(hi:DCx X G H0 (.Name x px) a fi)(I:∀cl C s₂ H₂ fp G H0,Ats (x::(subN Nn ix)) (subN Nn ix) (jq X x (subN Nn ix) sc cl C s₂ H₂ fp)->DEx (jq X x (subN Nn ix) sc cl C s₂ H₂ fp) G H0 e te)(D:qe Nn Cn ix x sc=true:=by decide +kernel)(U:X.calm=true:=by rfl)(V:∀v,foldedSetIterable a X.env v=pure v:=by intro _;rfl) :
  DFx X G H0 (.ListComp e [⟨.Name x px,a,[],0⟩] sc pos) (ju fi ix fYes te) :=
 ⟨(zpf (wj an D) (λ_ _ _ _ _ _ _ _ _=>U) hi.out (λcl C s₂ H₂ fp _=>yb (X:=X) rfl) (λcl C s₂ H₂ fp _=>el_x (X:=X) rfl (λG H0=>I cl C s₂ H₂ fp G H0 (t5 D))) V).imp z3z⟩
def zsh{Nn Cn:c3}{y:Str}{ix:f0}{sc:Scope}{px c spos:Pos}{fi:FI}{te:FE}{tt:FT}{V:Expr}(an:Ats Nn Cn X)(tn:Tos Nn X)(hi:DCx X G H0 (.Name x px) a fi)(Y:∀cl C s₂ H₂ fp G H0,Ats (x::(subN Nn ix)) (subN Nn ix) (jq X x (subN Nn ix) sc cl C s₂ H₂ fp)->DTx (jq X x (subN Nn ix) sc cl C s₂ H₂ fp) G H0 V tt)(Z:∀cl C s₂ H₂ fp G H0,Ats (x::(subN Nn ix)) (subN Nn ix) (jq X x (subN Nn ix) sc cl C s₂ H₂ fp)->DEx (jq X x (subN Nn ix) sc cl C s₂ H₂ fp) G H0 e te)(U:qe Nn Cn ix x sc=true:=by decide +kernel)(d:X.calm=true:=by rfl)(I:Nn[i]?=some y:=by rfl)(b:swapsWith (.ListComp e [⟨.Name x px,a,[V],0⟩] sc pos) (some (.Name y c)) spos.line X.env=pure true:=by rfl)(g:∀v,foldedSetIterable a X.env v=pure v:=by intro _;rfl) :
  PS X (.Assign [.Name y c] (.ListComp e [⟨.Name x px,a,[V],0⟩] sc pos) spos) (tAsg (tDF X.K G H0 (ur fi ix tt te)) (ng i)) :=
 (zpg (wj an U) (λ_ _ _ _ _ _ _ _ _=>d) (tn.t I).nd (tn.t I).n (tn.t I).l hi.out (λcl C s₂ H₂ fp _=>if_x (X:=X) rfl (λG H0=>Y cl C s₂ H₂ fp G H0 (t5 U))) (λcl C s₂ H₂ fp _=>el_x (X:=X) rfl (λG H0=>Z cl C s₂ H₂ fp G H0 (t5 U))) b (tn.t I).f g).imp λD σ H h=>z30 σ H _ h
def vp(i:Nat):FE:=λe=>match e[i]? with
 | some (some (.ow ds))=>(ints? ds).map λns=>(.int ns.sum,e)
 | some (some (.sh (.lst ds)))=>(ints? ds).map λns=>(.int ns.sum,e)
 | _=>none
def zuj{Nn Cn:c3}{i:Nat}(an:Ats Nn Cn X)(Z:X.calm=true:=by rfl)(V:Bn X "sum":=by walk_at "b")(D:Nn[i]?=some x:=by rfl)(Y:starEach [.Name x p1] X.env=(false,eval (.Name x p1) X.env)::starEach [] X.env:=by rfl):DEx X G H0 (.Call (.Name "sum" p') [.Name x p1] [] pos) (vp i) :=
 ⟨(zjv (zn0 Z) V.g V.m boot_sum (o8 ((an.a D).pe) qg Y) (by decide) (by decide) Y rfl).imp λσ H Q b=>by
  obtain⟨W,env,d,env',ok,q,k⟩:=b;unfold vp at q;split at q
  ·rename_i ds I
   cases e2:ints? ds with
   | none=>rw[e2] at q;cases q
   | some ns =>
   rw[e2] at q;cases q;cases xf e2;obtain⟨v,U,l,vs,rfl,e,c,r⟩:=ok.slot i _ I;cases xj r;exact⟨_,U,l,ns,rfl,.inl (.inl c),k W _ H Step.refl ok (.int _)⟩
  ·rename_i ds I
   cases e2:ints? ds with
   | none=>rw[e2] at q;cases q
   | some ns =>
   rw[e2] at q;cases q;cases xf e2;obtain⟨v,U,r⟩:=ok.slot i _ I;obtain⟨l,us,rfl,h,r⟩:=Rep.lst_ r;cases xj r;exact⟨_,U,l,ns,rfl,h.sq,k W _ H Step.refl ok (.int _)⟩
  ·cases q⟩
def tDL(K:gu)(G:Gd)(H0:Hp)(f:FA):TA:=λσ H Q=>DP K G H0 f (λW env ds env' =>
 ∀W' vs H',Step W H W' H'->Ok K G H0 W' env' σ H'->Reps K H' G ds vs->Q vs H') σ H
structure DLx (X:Cx) (G:Gd) (H0:Hp) (es:gp) (f:FA):Prop where
 out:PA X es (tDL X.K G H0 f)
def z5z(h:DAx X G H0 es F):DLx X G H0 es F:=⟨h.out.imp λσ H Q ⟨W,env,ds,env',ok,q,k⟩ =>
 ⟨W,env,ds,env',ok,q,λW' vs H' st D r=>k W' vs H' st D (r.mono (λ_ _ h=>h) λa us o h=>⟨o.1,h⟩)⟩⟩
def zw(i:Nat)(F:FA):FA:=λe=>match e[i]? with
 | some (some (.ow _))=>(F e).bind λq=>match q.2[i]? with | some (some (.ow ds))=>some (.lst ds::q.1,q.2) | _=>none
 | _=>none
def z0q{Nn Cn:c3}{i:Nat}(d:DLx X G H0 es F)(an:Ats Nn Cn X)(I:Nn[i]?=some x:=by rfl)(e:starEach (.Name x p1::es) X.env=(false,eval (.Name x p1) X.env)::starEach es X.env:=by rfl):DLx X G H0 (.Name x p1::es) (zw i F) :=
 ⟨(o8 ((an.a I).pe) d.out e).imp λσ H Q f=>by
  obtain⟨W,env,ds,env',ok,q,k⟩:=f;unfold zw at q;split at q;case h_2=>cases q
  rename_i g U;obtain⟨v,Z,l,j,rfl,m,n,_⟩:=ok.slot i _ U;cases e1:F env with
  | none=>rw[e1] at q;cases q
  | some r =>
    obtain⟨V,b⟩:=r;rw[e1,ac] at q;split at q;case h_2=>cases q
    rename_i p Y;cases q;refine⟨_,Z,W,env,V,_,ok,e1,λW1 vs H1 s D t=>?_⟩;obtain⟨B,c,C,u,w,y,z,A⟩:=D.slot i _ Y;rw[Z] at c;cases c;cases w;exact k W1 _ H1 s D (.cons (.lst (D.good l (D.wl l y).1) (.inl z) (A.mono (λ_ _ h=>h) λa us o h=>⟨o.1,h⟩)) t)⟩
def yf(m:g2->g3)(F:FA):FE:=λe=>(F e).bind λr=>(m r.1).bind λd=>if ui d=true then some (d,r.2) else none
variable {CX:CXT} {k:Nat} {fa:Addr} {fd:FuncData} {ps:c3} {m:g2->g3} {E:XK}
def z31:∀σ H Q,tD X.K G H0 (yf m F) σ H Q->zu (dSp X.K m) [] E (tDL X.K G H0 F) σ H Q:=λσ H Q V=>by
 obtain⟨W,env,d,env',ok,q,k⟩:=V;unfold yf at q;cases e1:F env with
 | none=>rw[e1] at q;cases q
 | some r =>
   obtain⟨ds,U⟩:=r;rw[e1,ac] at q;cases e2:m ds with
   | none=>rw[e2] at q;cases q
   | some d' =>
     rw[e2,ac] at q;split at q;case isFalse=>cases q
     rename_i D;cases q;refine⟨W,env,ds,_,ok,e1,λW1 vs H1 Y I p1=>?_⟩;show dSp X.K m (vs++[]) H1 Q E;rw[cr];exact⟨G,ds,_,p1,e2,λv H2 sm Z=>k W1 v H2 (Y.trans (Step.same sm)) (I.same sm) (Z.atom D)⟩
def zw5{jr:Nat}(c:Cal X.prog X.w X.K X.mg X.base CX0 x k (dSp X.K m))(V:Room jr X.A)(Y:DLx X G H0 (e::es) F)(D:k<=jr:=by decide)(Z:Gl X x:=by walk_at "g")(a:starEach (e::es) X.env=(false,eval e X.env)::starEach es X.env:=by rfl)(I:(backTo pos (starEach es X.env)).any (·.1)=false:=by rfl) :
  DEx X G H0 (.Call (.Name x p') (e::es) [] pos) (yf m F):=let ⟨_,_,_,b,d,f,g,U⟩:=c;⟨(zpb b (V.mono D) Z d f g .nil zz6 Y.out U a I).imp z31⟩
end
section
variable {X:Cx} {G:Gd} {H0:Hp} {a b c e:Expr} {es rest:gp} {f g:FE} {F:FA} {pos p' p1 pos1:Pos} {x:Str} {i:Nat}
theorem zuk(g:X.calm=true):pv X (.builtin "min") (λxs H Q=>∃p,∃ns:f5,∃M,xs=[.ref p]/\SqL X.K H p (ns.map V.int)/\M∈ns/\(∀a,a∈ns->M<=a)/\Q (.int M) H):=by
 intro pins s σ H xs us Q I r h;obtain⟨p,ns,M,rfl,k,b,Y,q⟩:=h;obtain⟨u,rfl,l⟩:=ya r;cases l;obtain⟨its,m,pl,x⟩:=I.list k;have hi:IntsAre its ns:=ziu m;have d:=pl.isList;obtain⟨D,Z⟩:=hi.allInts.items;rw[Z] at d;have U:ns=D.toList.map (·.1):=by rw[<-hi.numsOf,<-nums_intItems,<-Z]
 have c:0<D.size:=by
  have f:=List.length_pos_of_mem b;rw[U,ae,je] at f;exact f
 refine min_intList (I.ok.hd g) d c λv h' tk n o=>?_;obtain⟨t,rfl⟩:=intItems_at n;obtain⟨h1,h2⟩:=argBest_lt (numAt D) (D.size-1);have e:numAt D (argBest (λi j=>decide (numAt D i<numAt D j)) (D.size-1))=M:=by
  apply Int.le_antisymm
  ·rw[U] at b
   obtain⟨j,w,rfl⟩:=mem_getD b;rw[ae,je] at w;rw[<-numAt_eq];exact h2 j (by lia)
  ·apply Y
   rw[U,numAt_eq];exact getD_mem (by rw[ae,je];lia)
 exact⟨.int M,H,I.kept o,⟨t,by rw[<-e]⟩,q⟩
def minI:f5->gs
 | []=>none
 | [a]=>some a
 | a::b::r=>(minI (b::r)).map λm=>if m<a then m else a
theorem zpn:∀ {ns:f5} {M:Int},minI ns=some M->M∈ns/\∀a,a∈ns->M<=a
 | [],M,h=>by cases h
 | [a],M,h=>by cases h;simp
 | a::b::r,M,h=>by
   unfold minI at h;cases e:minI (b::r) with
   | none=>rw[e] at h;cases h
   | some m =>
     rw[e] at h;obtain⟨h1,h2⟩:=zpn e;cases h;show(if m<a then m else a)∈a::b::r/\∀z,z∈a::b::r->(if m<a then m else a)<=z;by_cases D:m<a
     ·rw[if_pos D]
      refine⟨au _ h1,λz hz=>?_⟩;rcases b7.mp hz with rfl | hz
      ·lia
      ·exact h2 z hz
     ·rw[if_neg D]
      refine⟨bj,λz hz=>?_⟩;rcases b7.mp hz with rfl | hz
      ·lia
      ·have:=h2 z hz;lia
def zn8:∀ {ns:f5},ns≠[]->∃M,minI ns=some M
 | [],h=>absurd rfl h
 | [a],_=>⟨a,rfl⟩
 | a::b::r,_=>by
   obtain⟨m,D⟩:=zn8 (ns:=b::r) (by simp);exact⟨_,by unfold minI;rw[D];rfl⟩
def vo:g2->g3 | [.lst ds]=>(ints? ds).bind λns=>(minI ns).map D.int | _=>none
def z0r:uk X G H0 (λxs H Q=>∃p,∃ns:f5,∃M,xs=[.ref p]/\SqL X.K H p (ns.map V.int)/\M∈ns/\(∀a,a∈ns->M<=a)/\Q (.int M) H) vo:=by
 intro W env σ H vs ds d Q ok r e k;unfold vo at e;split at e
 ·rename_i D
  cases e1:ints? D with
  | none=>rw[e1] at e;cases e
  | some ns =>
    rw[e1,ac] at e;cases e2:minI ns with
    | none=>rw[e2] at e;cases e
    | some M =>
      rw[e2] at e;cases e;cases xf e1;obtain⟨v,rfl,I⟩:=rj r;obtain⟨l,us,rfl,h,U⟩:=I.lst_;cases xj U;obtain⟨h1,h2⟩:=zpn e2;exact⟨l,ns,M,rfl,h.sq,h1,h2,k _ H Step.refl ok (.int _)⟩
 ·cases e
def z0s(I:DAx X G H0 [e] F)(U:X.calm=true:=by rfl)(D:Bn X "min":=by walk_at "b")(V:starEach [e] X.env=(false,eval e X.env)::starEach [] X.env:=by rfl):DEx X G H0 (.Call (.Name "min" p') [e] [] pos) (er vo F) :=
 zmb (zuk U) z0r D.g D.m boot_min I (by decide) (by decide) V rfl
end
variable{xs:c3}
def gl_p(h:sc.names.lookup x=some .globalImplicit):Gl (ly X xs N' sc cl C s H fp) x:=zcy h
def ye(N cs:c3)(ix:f0)(xs:c3)(sc:Scope):Bool:=decide ((xs++subN N ix).Nodup) && decide (sc.kind=.function) && xs.all (λy=>sc.names.lookup y==some .local) && decide (∀z∈sc.names,z.2≠.cell) && decide (∀z∈sc.names,z.2=.local->sc.names.lookup z.1=some .local) && decide (∀z∈sc.names,z.2=.free->z.1∈subN N ix) && (subN N ix).all (λu=>(sc.names.lookup u==some .free) && cs.elem u) && (xs++subN N ix).all okN
variable{cs:c3}
def zw6(hA:Ats N cs X)(h:ye N cs ix xs sc=true):ztu X xs (subN N ix) ix sc:=by
 unfold ye at h;simp only[fq,decide_eq_true_eq,gn] at h;obtain⟨⟨⟨⟨⟨⟨⟨h1,h2⟩,I⟩,U⟩,V⟩,Y⟩,D⟩,_⟩:=h;exact⟨by rw[hA.n];rfl,h1,h2,λy Z=>nc (I y Z),U,V,λz a b=>hA.ck z.1 (xw (D z.1 (Y z a b)).2),λu c=>nc (D u c).1⟩
def zoa(h:ye N cs ix xs sc=true):Ats (xs++subN N ix) (subN N ix) (ly X xs (subN N ix) sc cl C s H fp)/\Tos xs (ly X xs (subN N ix) sc cl C s H fp):=by
 unfold ye at h;simp only[fq,decide_eq_true_eq,gn] at h;obtain⟨⟨⟨⟨⟨⟨⟨h1,h2⟩,D⟩,Y⟩,Z⟩,a⟩,I⟩,U⟩:=h;refine⟨⟨rfl,λi x e=>⟨e,?_,(qf (U x (bc e))).1,(qf (U x (bc e))).2⟩,λu V=>?_⟩,⟨λi x e=>⟨h1,?_,.inl (lookup_relabel_local (nc (D x (bc e)))),.inr (lookup_relabel_local (nc (D x (bc e))))⟩⟩⟩
 ·rcases de.mp (bc e) with hm | hm
  ·exact .inl (lookup_relabel_local (nc (D x hm)))
  ·exact .inr (vj (nc (I x hm).1))
 ·exact vj (env:=X.env) (nc (I u V).1)
 ·show(xs++subN N ix)[i]?=some x
  rw[bf (am.mp e).1];exact e
def p8:f0->g0->St->St
 | i::ix,v::vs,σ=>p8 ix vs (σ.set i (some v))
 | _,_,σ=>σ
def zkm:∀(ix:f0) (vs:g0) (a b:St),(∀i∈ix,i<a.length)->p8 ix vs (a++b)=p8 ix vs a++b/\(p8 ix vs a).length=a.length
 | [],vs,a,b,_=>by simp[p8]
 | i::ix,[],a,b,_=>by simp[p8]
 | i::ix,v::vs,a,b,h=>by
   have hi:=h i bj;have D:=zkm ix vs (a.set i (some v)) b λj I=>by rw[du];exact h j (au _ I)
   rw[p8,p8,List.set_append_left _ _ hi,D.1];exact⟨rfl,by rw[D.2,du]⟩
def zul{K:gu}{G:Gd}{W:Addr->Prop}{H0 H:Hp}:∀(ix:f0) (ds:g2) (vs:g0) (env:DE0) (σ:St) (Q:St->Hp->Prop),Ok K G H0 W env σ H->Reps K H (Ow G W) ds vs->ds.length=ix.length ->
  (Ok K G H0 W (l4 ix ds env) (p8 ix vs σ) H->Q (p8 ix vs σ) H)->gIs ix vs σ H Q
 | [],ds,vs,env,σ,Q,ok,r,hl,k=>by
   cases r with
   | nil=>exact⟨rfl,k ok⟩
   | cons _ _=>cases hl
 | i::ix,ds,vs,env,σ,Q,ok,r,hl,k=>by
   cases r with
   | nil=>cases hl
   | @cons d v ds vs r0 r =>
     exact⟨v,vs,rfl,zul ix ds vs _ _ Q (ok.set r0) r (lg hl) k⟩
def qj(tt:FT)(te:FE)(n:Nat)(base:DE0):g2->Option g2
 | []=>some []
 | d::r=>(unp (List.range n) d (List.replicate n none++base)).bind λe=>(tt e).bind λb=>if b.1=true then(te b.2).bind λv=>(qj tt te n base r).map (v.1::·) else qj tt te n base r
def rn(n:Nat)(fi:FI)(ix:f0)(tt:FT)(te:FE):FA:=λe=>(fi e).bind λr=>if Few r.1.length then(qj tt te n (ix.map λj=>capt (r.2.getD j none)) r.1).map λds=>(ds,r.2) else none
def z50(h:DIx X G H0 tg e fi):DJx X G H0 tg e fi:=⟨h.out.imp λσ H R ⟨W,env,ds,env',ok,q,k⟩ =>
 ⟨W,env,ds,env',ok,q,λW' J H' st I U=>k W' J H' st I ⟨λD H2 i d s2 e=>⟨(U.go D H2 i d s2 e).1,λx V y=>by
  obtain⟨rfl,r⟩:=(U.go D H2 i d s2 e).2 x V y;exact⟨Same.refl _,r⟩⟩,λD H2 s2=>U.stop D H2 s2⟩⟩⟩
theorem zum{I:St}(Z:I.length=n)(ok:Ok X.K G H0 W env σ H) :
  Ok X.K (gd λa=>Ow G W a\/H a=none) H NoW (List.replicate n none++ix.map λj=>capt (env.getD j none)) (I++ix.map λj=>σ.getD j none) H:=by
 have b:∀ {d:D} {v:V},Rep X.K H (Ow G W) d v->Rep X.K H (Ow (gd λa=>Ow G W a\/H a=none) NoW) d v:=λr=>r.mono (λ_ _ h=>h) λa us o h=>⟨⟨.inl o,λz=>z⟩,h⟩;have look:∀(i:Nat) (s:Sl),(List.replicate n none++ix.map λj=>capt (env.getD j none))[i]?=some (some s)->∃k j,i=n+k/\ix[k]?=some j/\capt (env.getD j none)=some s:=λi s z=>by
  by_cases hi:i<n
  ·rw[bf (by simpa using hi),kx,if_pos hi] at z
   cases z
  ·rw[ci (by simpa using js hi),fz,az] at z
   cases q:ix[i-n]? with
   | none=>rw[q] at z;cases z
   | some j =>
     rw[q] at z;exact⟨i-n,j,by lia,q,bh z⟩
 have U:∀(o:g5) (s:Sl),capt o=some s->∃d',s=.sh d':=λo s z=>by
  unfold capt at z;split at z
  ·cases z;exact⟨_,rfl⟩
  ·cases z
 refine⟨Same.refl _,λa z=>.inr z,λl z=>z.elim,λi s e=>?_,λi j c s2 v1 v2 a Y _ _ _ o _=>by
  obtain⟨k,g,_,_,e⟩:=look i c Y;obtain⟨d',rfl⟩:=U _ _ e;exact o.elim,by simp[Z]⟩
 obtain⟨k,j,rfl,q,e⟩:=look i s e;rw[ci (by lia),Z,Nat.add_sub_cancel_left,az,q];rw[aq] at e;cases q2:env[j]? with
 | none=>rw[q2] at e;cases e
 | some o =>
   rw[q2] at e;have e:capt o=some s:=e;unfold capt at e;split at e
   ·rename_i d'
    cases e;obtain⟨u,Y,f⟩:=ok.slot j _ q2;exact⟨u,by simp only[ao];rw[aq,Y];rfl,b f⟩
   ·cases e
theorem z32:∀σ H Q,tDF X.K G H0 (rn n fi ix tt te) σ H Q->zyn n (tDJ X.K G H0 fi) (gTup X.K n (gIs (List.range n))) ix (tDxT X.K tt) (tDx X.K te) σ H Q:=λσ H Q zq=>by
 obtain⟨W,env,d,env',ok,q,k⟩:=zq;cases e1:fi env with
 | none=>simp[rn,e1] at q
 | some z =>
   obtain⟨ds,r⟩:=z;by_cases C:Few ds.length
   ·simp only[rn,e1,ac,if_pos C] at q
    cases e2:qj tt te n (ix.map λj=>capt (r.getD j none)) ds with
    | none=>rw[e2] at q;cases q
    | some outs =>
      rw[e2] at q;cases q;refine⟨W,env,ds,_,ok,e1,λW1 J H1 s1 E S=>?_⟩;refine⟨λi m H' ys=>∃rest D,m=ds.length-i/\i<=ds.length/\Same H1 H'/\Reps X.K H' (Ow G W1) D ys/\D.length<=i/\qj tt te n (ix.map λj=>capt (env'.getD j none)) (ds.drop i)=some rest/\d=D++rest,⟨ds.length,d,[],rfl,dy _,Same.refl _,.nil,bo _,e2,rfl⟩,?_⟩;rintro i m H' ys ⟨rest,D,rfl,hi,sm,rp,hd,ec,rfl⟩;have st:Step W1 H1 W1 H':=Step.same sm;have c:Ok X.K G H0 W1 env' σ H':=E.same sm;by_cases Y:i<ds.length
      ·have eq:ds.drop i=ds[i]::ds.drop (i+1):=fb Y
       rw[eq] at ec;obtain⟨hg,hy⟩:=S.go W1 H' i ds[i] st (by simp[Y]);refine .inr ⟨hg,λx Z y s U=>?_⟩;obtain⟨f,T⟩:=hy x Z y;have I:=c.same f;have t:Reps X.K Z (Ow G W1) D ys:=c.reps (Step.same f) rp;have sm:=sm.trans f;have F:=zum (ix:=ix) U I;unfold qj at ec;generalize ds[i]=dn at T ec;cases eu:unp (List.range n) dn (List.replicate n none++ix.map λj=>capt (env'.getD j none)) with
       | none=>rw[eu] at ec;cases ec
       | some enu =>
       rw[eu,ac] at ec;unfold unp at eu;split at eu;case h_2=>cases eu
       rename_i g;split at eu;case isFalse=>cases eu
       rename_i u;cases eu;cases T with
       | @tup at' vs _ ht rr =>
       have L:Reps X.K Z (Ow (gd λa=>Ow G W1 a\/Z a=none) NoW) g vs:=rr.mono (λ_ _ h=>h) λa us o h=>⟨⟨.inl o,λz=>z⟩,h⟩;refine⟨at',vs,rfl,SqT.of ht,by rw[<-rr.length,u,gg],zul (List.range n) g vs _ _ _ F L u λM=>?_⟩;obtain⟨N,O⟩:=zkm (List.range n) vs s (ix.map λj=>σ.getD j none) λj hj=>by rw[U];exact fu.mp hj
       refine⟨p8 (List.range n) vs s,by rw[O,U],N,?_⟩;cases e3:tt (l4 (List.range n) g (List.replicate n none++ix.map λj=>capt (env'.getD j none))) with
       | none=>rw[e3] at ec;cases ec
       | some bb =>
         obtain⟨b,V⟩:=bb;rw[e3,ac] at ec;refine⟨_,_,NoW,_,b,V,M,e3,λW2 H2 s2 p=>?_⟩;have P:Same H1 H2:=sm.trans p.stay;have R:Reps X.K H2 (Ow G W1) D ys:=I.reps (Step.same p.stay) t;cases b with
         | false =>
           dsimp only;rw[if_neg ce] at ec ⊢;exact⟨ds.length-(i+1),by lia,rest,D,rfl,Y,P,R,by lia,ec,rfl⟩
         | true =>
           dsimp only;rw[if_pos rfl] at ec ⊢;cases e4:te V with
           | none=>simp only[e4] at ec;cases ec
           | some vv =>
             obtain⟨dv,A⟩:=vv;simp only[e4,ac] at ec;cases e5:qj tt te n (ix.map λj=>capt (env'.getD j none)) (ds.drop (i+1)) with
             | none=>rw[e5] at ec;cases ec
             | some rest' =>
               rw[e5] at ec;cases ec;refine⟨_,_,W2,V,dv,A,p,e4,λW3 v H3 s3 B r3=>⟨?_,ds.length-(i+1),by lia,rest',D++[dv],rfl,Y,sm.trans B.stay,?_,by rw[aj,dg];lia,by first | exact e5 | rfl,by simp⟩⟩
               ·have:ys.length<2 ^ 20:=by rw[<-rp.length];have:ds.length<=2 ^ 20:=C;lia
                exact bq this (by rw[sizeLine_eq];decide)
               ·refine(I.reps (Step.same B.stay) t).append (.cons (r3.mono (λ_ _ h=>h) λa us o h=>⟨?_,h⟩) .nil)
                rcases o.1 with z | z
                ·exact z
                ·exact⟨I.good a (I.stay.free z),λw=>by obtain⟨_,us,q⟩:=I.wl a w;rw[z] at q;cases q⟩
      ·have e:i=ds.length:=by lia
       subst e;rw[i8] at ec;cases ec;refine .inl ⟨S.stop W1 H' st,by rw[<-rp.length];exact b8 hd (b8 C (by rw[sizeLine_eq];decide)),λl hn=>?_⟩;obtain⟨h1,h2,h3,h4,h5,h6⟩:=qk c rp hn;rw[cr] at k;exact k W1 l _ _ ((s1.trans st).trans h1) h2 h3 h4 h5 h6
   ·simp only[rn,e1,ac,if_neg C] at q;cases q
def zqw(xs:c3)(an:Ats Nn Cn X)(hi:DJx X G H0 (.Tuple es k p1) a fi)(Y:∀cl C s₂ H₂ fp,Tos xs (ly X xs (subN Nn ix) sc cl C s₂ H₂ fp)->PGs (ly X xs (subN Nn ix) sc cl C s₂ H₂ fp) es (gIs (List.range xs.length)))(I:∀cl C s₂ H₂ fp G H0,Ats (xs++subN Nn ix) (subN Nn ix) (ly X xs (subN Nn ix) sc cl C s₂ H₂ fp)->DEx (ly X xs (subN Nn ix) sc cl C s₂ H₂ fp) G H0 e te)(D:ye Nn Cn ix xs sc=true:=by decide +kernel)(V:X.calm=true:=by rfl)(Z:∀cl C s₂ H₂ fp,(assignEach es (ly X xs (subN Nn ix) sc cl C s₂ H₂ fp).env).length=xs.length:=by intros;rfl)(U:∀cl C s₂ H₂ fp,(assignEach es (ly X xs (subN Nn ix) sc cl C s₂ H₂ fp).env).findIdx? (·.1)=none:=by intros;rfl)(b:∀v,foldedSetIterable a X.env v=pure v:=by intro _;rfl) :
  DFx X G H0 (.ListComp e [⟨.Tuple es k p1,a,[],0⟩] sc pos) (rn xs.length fi ix fYes te) :=
 ⟨(zwh (zw6 an D) V hi.out (λcl C s₂ H₂ fp=>yb (X:=X) rfl) (λcl C s₂ H₂ fp=>el_x (X:=X) rfl (λG H0=>I cl C s₂ H₂ fp G H0 (zoa D).1)) (λcl C s₂ H₂ fp=>zyh (X:=ly X xs (subN Nn ix) sc cl C s₂ H₂ fp) V (Y cl C s₂ H₂ fp (zoa D).2) (Z cl C s₂ H₂ fp) (U cl C s₂ H₂ fp)) b).imp z32⟩
section
variable (P:Program) (w:World)
end
section
variable {X:Cx}
variable {a b:Expr} {ta tb:TE} {pos:Pos}
variable {tA tB':TT} {rest:gp}
end
section
variable {X:Cx} {st:Stmt} {rest:List Stmt} {t u:TS} {e:Expr} {te:TE} {pos:Pos}
end
section
variable {X:Cx} {CX:CXT} {k:Nat} {f C:Addr} {fd:FuncData} {ps ks:c3} {sp:Sp} {E:XK} {x m:Str} {p pos apos kpos:Pos} {e o:Expr} {es:gp} {kws:List Keyword} {te ta:TE} {t tk:TA} {nm:gr}
variable {g:fe->fe->fe} {gV:g0->g0->g0}
end
section
variable {κ:Type} [DecidableEq κ]
def valV(kvs:List (κ×V))(k:κ):Option V:=(kvs.find? λD=>decide (D.1=k)).map (·.2)
def zqx{p:κ×V}{r:List (κ×V)}{k:κ}(e:p.1=k):valV (p::r) k=some p.2:=by simp[valV,ji,e]
def zqy{p:κ×V}{r:List (κ×V)}{k:κ}(e:¬p.1=k):valV (p::r) k=valV r k:=by simp[valV,ji,e]
def KV.val{kvs:List (κ×V)}{vs:List (κ×Value)}(r:KV kvs vs)(k:κ):RelO (valV kvs k) (valueAt vs k):=by
 unfold KV at r;induction r with
 | nil=>exact True.intro
 | @cons p q ps qs h t ih =>
   obtain⟨h1,h2⟩:=h;by_cases e:p.1=k
   ·have e':q.1=k:=h1.symm.trans e
    have b:valueAt (q::qs) k=some q.2:=by simp[valueAt,ji,e']
    rw[zqx e,b];exact h2
   ·have e':¬q.1=k:=λz=>e (h1.trans z)
    have b:valueAt (q::qs) k=valueAt qs k:=by simp[valueAt,ji,e']
    rw[zqy e,b];exact ih
end
variable{u:Value}
def z33{k:Key}(r:RelV (kV k) u):(mx P w).is k u=true:=by
 cases k with
 | inl i=>obtain⟨t,e⟩:=(show ∃t,u=Value.int i t from r);subst e;exact zj5 P w i t
 | inr x=>obtain⟨t,e⟩:=(show ∃t,u=Value.str x t from r);subst e;exact zpa P w x t
def zob{P:Program}{w:World}:∀ {ks:List Key} {us:fe},Vals (ks.map kV) us->ItemsAre (mx P w) ks us
 | [],_,r=>by rw[cy] at r;cases r;exact .nil
 | k::ks,_,r=>by
   rw[bg] at r;cases r with
   | cons h t=>exact .cons (z33 h) (zob t)
abbrev KT(H:Hp):List (List Key×V)->List (List Key×Addr×Value)->Prop:=Paired λp q=>p.1=q.1/\H q.2.1=some (.tup (p.1.map kV))/\RelV p.2 q.2.2
variable{kvs:List (List Key×V)}
def KT.val{xs:List (List Key×Addr×Value)}(r:KT H kvs xs)(k:List Key):RelO (valV kvs k) ((atKey xs k).map (·.2)):=by
 induction r with
 | nil=>exact True.intro
 | @cons p q ps qs h t ih =>
   obtain⟨h1,_,h2⟩:=h;by_cases e:p.1=k
   ·have e':q.1=k:=h1.symm.trans e
    have b:atKey (q::qs) k=some q.2:=by simp[atKey,ji,e']
    rw[zqx e,b];exact h2
   ·have e':¬q.1=k:=λz=>e (h1.trans z)
    have b:atKey (q::qs) k=atKey qs k:=by simp[atKey,ji,e']
    rw[zqy e,b];exact ih
variable{a:Addr}
def z34{u:HO}(ok:HOk P w H h)(e:Rd H a u):ObjOk P w H h a u:=e.ok ok
def z35{kvs:List (Key×V)}(ok:HOk P w H h)(e:Rd H a (.dK kvs)):kvs.length<=sizeLine/\(a==sysModules)=false/\∃vs,KV kvs vs/\h.DictOf (mx P w) a vs :=
 show ObjOk P w H h a (.dK kvs) from z34 ok e
def zy1{ks:List Key}(ok:HOk P w H h)(e:H a=some (.tup (ks.map kV))):(tupleKind (mx P w)).is h ks a:=by
 obtain⟨_,its,r,o,h1,h2,n,D⟩:=(show ObjOk P w H h a (.tup (ks.map kV)) from ok a _ e);exact⟨o,its.toArray,n,h1,h2,D,by simpa using zob r⟩
def z36(ok:HOk P w H h)(e:Rd H a (.dT kvs)):kvs.length<=sizeLine/\(a==sysModules)=false /\
  ∃xs,KT H kvs xs/\h.DictOfH (tupleKind (mx P w)) a xs:=by
 obtain⟨z,y,xs,r,o,es,D,h1,h2,I,U,Y⟩:=(show ObjOk P w H h a (.dT kvs) from z34 ok e);refine⟨z,y,xs,r,o,es,D,h1,h2,I,U,λx hx=>?_,Y⟩;have all:∀ {l:List (List Key×V)} {m:List (List Key×Addr×Value)},KT H l m->∀x∈m,(tupleKind (mx P w)).is h x.1 x.2.1:=by
  intro l m q;induction q with
  | nil=>intro x hx;exact nomatch hx
  | @cons p q ps qs hq t ih =>
    intro x hx;rcases b7.mp hx with e | hx
    ·subst e
     exact zy1 ok (by rw[<-hq.1];exact hq.2.1)
    ·exact ih x hx
 exact all r x hx
def DGet(H:Hp)(a:Addr)(y:V)(r:Option V):Prop :=
 (∃kvs k,Rd H a (.dK kvs)/\y=kV k/\r=valV kvs k)\/∃kvs k b,Rd H a (.dT kvs)/\y=.ref b/\H b=some (.tup (k.map kV))/\r=valV kvs k
protected def DGet.k{H:Hp}{a:Addr}{kvs:List (Key×V)}{k:Key}(e:H a=some (.dK kvs)):DGet H a (kV k) (valV kvs k):=.inl ⟨kvs,k,.inl e,rfl,rfl⟩
def Inv.big(I:Inv X pins σ H s):sysModules<s.heap.objs.size:=by
 have h:mainGlobals<s.heap.objs.size:=(I.mod.glob.keeps I.bk).lt;exact nv (by decide) h
variable{y:V}
def zun(f:A.units+1<cLine)(I:Inv X pins σ H s)(g:DGet H a y (some v))(d:RelV y u)(h:∀V s',Inv X pins σ H s'->RelV v V->Q V s') :
  wpAny (model X.prog X.w) A (getItem (.ref a) u) Q E s:=by
 rcases g with⟨kvs,k,e,Y,l⟩ | ⟨kvs,k,b,e,Y,eb,l⟩
 ·subst Y
  obtain⟨z,hd,vs,D,dd⟩:=z35 I.hok e;obtain⟨V,Z,U⟩:=RelO.some_of (v:=v) (o:=valueAt vs k) (by rw[l];exact D.val k);exact wpAny_getItem_of (z33 d) dd.mapOf Z (h V _ (I.tok _) U)
 ·subst Y
  cases (show u=Value.ref b from d);obtain⟨z,hd,xs,D,dd⟩:=z36 I.hok e;obtain⟨V,Z,U⟩:=RelO.some_of (v:=v) (o:=(atKey xs k).map (·.2)) (by rw[l];exact D.val k);obtain⟨p,i,c⟩:=ic.mp Z;refine wpAny_getItem_heap (tupleKind_room_in1 f) (zy1 I.hok eb) dd i ?_;rw[c];exact h V _ (I.tok _) U
def z37{h':Heap}{kvs:List (Key×V)}{vs:List (Key×Value)}(z:kvs.length<=sizeLine)(hd:(a==sysModules)=false)(D:KV kvs vs)(dd:h'.DictOf (mx P w) a vs) :
  ObjOk P w H' h' a (.dK kvs):=⟨z,hd,vs,D,dd⟩
def NoSl(i:Expr):Prop:=∀D I,subscripted i false D I=operate [D,I] (getItem D I)
def z0t{env:Env}{value D:Expr}{T id:String}(a:typeLookup (.type T) "__getitem__" = pure (some (.builtin id)))(b:NoSl D)(h:wpAny (model prog w) A (eval value env) (λo U=>wpAny (model prog w) A (eval D env) (λi s₂=>s₂.TypeIs o T/\wpAny (model prog w) A (getItem o i) Q E s₂) E U) E s) :
  wpAny (model prog w) A (eval (.Subscript value D pos) env) Q E s:=by
 refine Subscript_ (wpAny_mono h (λo U h₁=>wpAny_mono h₁ (λi s₂ I=>?_) λ_ _ x=>x) λ_ _ x=>x);obtain⟨hT,I⟩:=I;unfold subscriptTail;refine wpAny_bind ?_;rw[getitemInPython_of_ne hT.not_modules];refine wpAny_bind (wpAny_specialOf hT a ?_);have Y:wpAny (model prog w) A (subscripted D false o i) (λr V=>wpAny (model prog w) A (letTemporaryGo value o r >>= λ_=>pure r) Q E V) E s₂:=by
  rw[b o i];exact wpAny_operating (wpAny_mono I (λr V Z=>wpAny_bind (wpAny_letTemporaryGo (wpAny_pure Z))) λ_ _ x=>x)
 first
  | exact wpAny_pure (wpAny_bind Y)
  | exact wpAny_bind (wpAny_pure (wpAny_bind Y))
  | exact wpAny_bind Y
variable{o:Expr}
def zpo{o:Option V}(I:Inv X pins σ H s)(g:DGet H a y o):s.TypeIs (.ref a) "dict":=by
 rcases g with⟨kvs,k,e,_,_⟩ | ⟨kvs,k,b,e,_,_,_⟩
 ·obtain⟨_,_,vs,_,dd⟩:=z35 I.hok e
  exact dd.typeIs
 ·obtain⟨_,_,xs,_,dd⟩:=z36 I.hok e
  exact dd.typeIs
def z51(td ty:TE):TE:=λσ H Q=>td σ H λx H1=>ty σ H1 λy H2=>∃a v,x=.ref a/\DGet H2 a y (some v)/\Q v H2
variable{i:Expr}{td ty:TE}
def z0u(Y:X.A.units+1<cLine)(Z:PE X o td)(hi:PE X i ty)(b:NoSl i):PE X (.Subscript o i pos) (z51 td ty):=by
 intro pins s σ H Q I h;refine z0t PySem.F.slot_dict_getitem.lookup b (thn (Z pins s σ H _ I h) λu c D=>?_);obtain⟨x,H1,d,e,f⟩:=D;refine thn (hi pins c σ H1 _ d f) λm s2 D=>?_;obtain⟨y,H2,V,j,a,v,ex,g,k⟩:=D;subst ex;obtain rfl:u=Value.ref a:=e;exact⟨zpo V g,zun Y V g j λn p l U=>⟨v,H2,l,U,k⟩⟩
structure M1 (X:Cx) (o:Expr) (m:Str) (apos:Pos) (e:Expr) (cpos:Pos):Prop where
 base:attributeBase o m X.env (eval o X.env)=eval o X.env
 few:((backTo cpos (starEach [e] X.env)).all (λx=>!x.1) && (backToKw cpos (keywordEach [] X.env)).all (λx=>x.1.isSome)
  && decide (([e]:gp).length+([]:List Keyword).length+(if ([]:List Keyword).isEmpty then 0 else 1)<30))=true
 line:(apos.endLine==cpos.line)=true
 trees:backTo cpos (starEach [e] X.env)=[(false,eval e X.env)]
structure M2 (X:Cx) (o:Expr) (m:Str) (apos:Pos) (e f:Expr) (cpos:Pos):Prop where
 base:attributeBase o m X.env (eval o X.env)=eval o X.env
 few:((backTo cpos (starEach [e,f] X.env)).all (λx=>!x.1) && (backToKw cpos (keywordEach [] X.env)).all (λx=>x.1.isSome)
  && decide (([e,f]:gp).length+([]:List Keyword).length+(if ([]:List Keyword).isEmpty then 0 else 1)<30))=true
 line:(apos.endLine==cpos.line)=true
 trees:backTo cpos (starEach [e,f] X.env)=[(false,eval e X.env),(false,eval f X.env)]
end L2
namespace Att
open PySem PySem.W PySem.Calls PyProof.Rows
end Att
namespace L2
open PySem PySem.Spec PyProof.Rows
section
variable {κ:Type} [DecidableEq κ]
end
def zoc:typeLookup (.type "list") "keys" = pure none:=by rw[typeLookup_type,builtinLookup_eq_fast];kernel_rfl
variable{n:Nat}{sl:Array fg}{prog:Program}{w:World}{A:Around}{E:Value->Shared->Prop}{s:Shared}{a:Addr}
theorem zuo{Q:fg->Shared->Prop}{its:gy}(hh:A.handled=none)(V:s.heap.get? a=some ⟨.type "list",none,.seq its n,sl⟩)(Y:∀h' tk,(∀b o,s.heap.get? b=some o->h'.get? b=some o)->Q none { s with heap:=h',toks:=tk }):wpAny (model prog w) A (getAttr? (.ref a) "keys") Q E s:=by
 obtain⟨U,g,d,tk,os⟩:=s;have hT:∀D,(⟨U,g,d,D,os⟩:Shared).TypeIs (.ref a) "list":=λ_=>⟨_,V,rfl⟩;have c:=sub_AttributeError;have f:=F.slot_list_getattribute.lookup;have h:=F.slot_list_getattribute.bind (.ref a);have i:=am_list_getattr_none;unfold getAttr? getAttrBy? getAttrBy;repeat (any_goals (first | assumption | exact hT _ | wp_step))
 refine codeAny_mono (codeAny_call_builtin (R:=λr s'=>∃h' D e,r=.error (.ref e)/\Heap.NewAttrErr U h' e (.ref a) "keys"/\s'=⟨h',g,d,D,os⟩) F.slot_list_getattribute.plain am_entry_list_getattribute (F.slot_list_getattribute.check _ _ _ _ _ _ _ _ (hT _) (F.args_list_getattribute_2 _ _)
  (meets_getattribute_miss_list a its n sl "keys" tk zoc (by decide) (by size_fits) prog w A (λr s'=>∃h' D e,r=.error (.ref e)/\Heap.NewAttrErr U h' e (.ref a) "keys"/\s'=⟨h',g,d,D,os⟩) _ ⟨V,hh,λh' D e I=>⟨h',D,e,rfl,I,rfl⟩⟩))) λr s' Z=>?_
 obtain⟨h',D,e,rfl,I,rfl⟩:=Z;obtain⟨t',j,k⟩:=I.there;show wpAny _ _ (getattributeRaised _ _ _ _ _ _ _) _ _ _;unfold getattributeRaised;repeat (any_goals (first | assumption | wp_step))
 exact Y h' D I.keeps
def zji:entryFor table "dict.update.loop" = some Builtin.«dict.update.loop»:=entryFor_of_tree (by kernel_rfl)
abbrev PT4:=Addr×Int×Tok×Value
def zod{d it l:Addr}{R:Result->Shared->Prop}(all:List PT4)(nd:(all.map (·.2.1)).Nodup)(V:all.length<=sizeLine)(v:it≠l)(g:d≠it)(y:d≠l)(h:∀p∈all,p.1≠it/\p.1≠d) :
  ∀(U D:List PT4) (A:Around) (s:Shared),all=D++U->A.handled=none->s.heap.IsListIter it l D.length->s.heap.IsList l (all.map λp=>Value.ref p.1).toArray->(∀p∈all,s.heap.IsTuple p.1 #[.int p.2.1 p.2.2.1,p.2.2.2]) ->
   s.heap.DictOf (mx prog w) d (D.map λp=>(Sum.inl p.2.1,p.2.2.2)) ->
   (∀h' tk,h'.DictOf (mx prog w) d (all.map λp=>(Sum.inl p.2.1,p.2.2.2))->(∀b o,b≠d->b≠it->s.heap.get? b=some o->h'.get? b=some o)->R (.ok (.ret .none)) { s with heap:=h',toks:=tk }) ->
   codeAny (model prog w) A (.builtin "dict.update.loop" ⟨[.ref d,.ref it,rawInt D.length,.none],[]⟩) R s
 | [],D,A,s,he,hh,hit,hl,ht,hd,hR=>by
   refine codeAny_builtin zji ?_;rw[Around.under_plain rfl rfl];unfold Builtin.«dict.update.loop»;refine wpAny_bind (wpAny_pyNext_list_end hh hit hl ?_ λh' B=>?_)
   ·rw[he];simp
   ·exact wpAny_bind (wpAny_pure (wpAny_pure (hR h' s.toks (by rw[he,cr];exact hd.extBut B g) λb o _ J e=>B b o J e)))
 | p::U,D,A,s,he,hh,hit,hl,ht,hd,hR=>by
   refine codeAny_builtin zji ?_;rw[Around.under_plain rfl rfl];unfold Builtin.«dict.update.loop»;have i:p∈all:=by rw[he];simp
   refine wpAny_bind (wpAny_pyNext_list_item hit hl (x:=.ref p.1) ?_ λh' Y Z=>?_)
   ·rw[he];simp
   ·have K:p∈all:=i
    obtain⟨o,C,L,m,j⟩:=(ht p i).extBut Z.extBut (h p i).1;have k:h'.DictOf (mx prog w) d (D.map λp=>(Sum.inl p.2.1,p.2.2.2)):=hd.extBut Z.extBut g;have a:¬((D.map λp:PT4=>((Sum.inl p.2.1:Key),p.2.2.2)).any λE=>decide (E.1=Sum.inl p.2.1))=true:=by
     intro z;obtain⟨E,n,e⟩:=List.any_eq_true.mp z;obtain⟨q,c,rfl⟩:=cx.mp n;have e:q.2.1=p.2.1:=by simpa using e
     rw[he,bi,bg] at nd;exact(ke.mp nd).2.2 _ (cx.mpr ⟨q,c,rfl⟩) _ bj e
    have r:stored (D.map λp:PT4=>((Sum.inl p.2.1:Key),p.2.2.2)) (Sum.inl p.2.1) p.2.2.2=(D++[p]).map λp=>(Sum.inl p.2.1,p.2.2.2):=by
     unfold stored;rw[if_neg a,bi];rfl
    refine wpAny_bind (wpAny_holding (wpAny_bind (wpAny_tryCatch ?_)));unfold Builtin.Dict.pairItems;refine wpAny_bind (wpAny_typeOf (T:="tuple") ⟨o,C,L⟩ ?_);rw[if_pos (by decide)];refine wpAny_bind (wpAny_seqItems C j (wpAny_pure ?_));show wpAny _ _ (holding [.int p.2.1 p.2.2.1,p.2.2.2] (dictSet d (.int p.2.1 p.2.2.1) p.2.2.2)) _ _ _;refine wpAny_holding (wpAny_dictSet_pairs (knd:=mx prog w) (zj5 prog w p.2.1 p.2.2.1) k (λh2 f I=>?_) (by rw[ae];rw[he,aj] at V;omega));rw[r] at f;refine wpAny_pure ⟨Code.quiet_builtin _ (by decide +kernel),?_⟩;have F:=zod all nd V v g y h U (D++[p]) A { s with heap:=h2,toks:=s.toks+1 } (by rw[he];simp) hh
     (by rw[aj];exact Y.extBut I.extBut g.symm) ((hl.extBut Z.extBut v.symm).extBut I.extBut y.symm) (λq c=>((ht q c).extBut Z.extBut (h q c).1).extBut I.extBut (h q c).2) f
     (λM tk t k3=>hR M tk t λb u G H e=>k3 b u G H (I.extBut b u G (Z.extBut b u H e)))
    rw[aj,dg] at F;exact F
theorem zld{l:Addr}{Q:Value->Shared->Prop}(all:List PT4)(nd:(all.map (·.2.1)).Nodup)(f:all.length<=sizeLine)(hh:A.handled=none)(k:s.heap.get? l=some ⟨.type "list",none,.seq (all.map λp=>Value.ref p.1).toArray n,sl⟩)(m:∀p∈all,s.heap.IsTuple p.1 #[.int p.2.1 p.2.2.1,p.2.2.2])(h:∀h' tk,h'.DictOf (mx prog w) s.heap.objs.size (all.map λp=>(Sum.inl p.2.1,p.2.2.2))->(∀b o,s.heap.get? b=some o->h'.get? b=some o)->Q (.ref s.heap.objs.size) { s with heap:=h',toks:=tk }) :
  wpAny (model prog w) A (call (.type "dict") [.ref l]) Q E s:=by
 refine callType_codes (Q₁:=λobj U=>obj=.ref s.heap.objs.size/\U={ s with heap:=s.heap.push { cls:=.type "dict",data:=.dict #[] } }) F.kt_called_dict (F.kt_typeCall_dict_1 _) F.entry_dict_init (kt_code_dict_new _ ⟨rfl,rfl⟩) ?_;rintro obj U ⟨rfl,rfl⟩;have D:(s.heap.push { cls:=.type "dict",data:=.dict #[] }).DictOf (mx prog w) s.heap.objs.size []:=Heap.DictOf.new s.heap;refine⟨D.typeIs,F.args_dict_init_2 _ _,?_⟩;unfold Builtin.«dict.__init__»;refine wpAny_bind ?_;unfold Builtin.Dict.selfAndRest;refine wpAny_bind (wpAny_notOrdered_dict D.typeIs (show wpAny _ _ (pure (s.heap.objs.size,[Value.ref l])) _ _ _ from wpAny_pure ?_));show wpAny _ _ (Builtin.Dict.updateFrom "dict.__init__" s.heap.objs.size (.ref l) [] .none) _ _ _;have V:(s.heap.push { cls:=.type "dict",data:=.dict #[] }).get? l=some ⟨.type "list",none,.seq (all.map λp=>Value.ref p.1).toArray n,sl⟩:=av _ k;unfold Builtin.Dict.updateFrom;refine wpAny_bind (wpAny_typeOf (T:="list") ⟨_,V,rfl⟩ ?_);rw[if_pos (by decide)];refine wpAny_bind (zuo (its:=(all.map λp=>Value.ref p.1).toArray) (n:=n) (sl:=sl) hh V λh1 Y k1=>?_);rw[if_pos (show(none:fg).isNone=true from rfl)];refine wpAny_bind (wpAny_rule ?_);have Z:h1.IsList l (all.map λp=>Value.ref p.1).toArray:=⟨_,k1 _ _ V,rfl,n,rfl⟩;refine wpAny_bind (wpAny_pyIter_list (s:={ s with heap:=h1,toks:=Y }) Z ?_);refine wpAny_pure ⟨Code.quiet_builtin _ (by decide +kernel),?_⟩;have I:s.heap.objs.size<h1.objs.size:=by
  obtain⟨o,_,_,a,_⟩:=D;exact bw (k1 _ _ a)
 have c:l<s.heap.objs.size:=bw k;have kp:∀b o,s.heap.get? b=some o->(h1.push { cls:=.type "list_iterator",data:=.fields #[.ref l,.int 0 0] }).get? b=some o:=λb o e=>av _ (k1 b o (av _ e));refine zod (d:=s.heap.objs.size) (it:=h1.objs.size) (l:=l) all nd f (i6 (nv c I)) (bv I) (i6 c) (λp g=>?_) all [] A.in1 { s with heap:=h1.push { cls:=.type "list_iterator",data:=.fields #[.ref l,.int 0 0] },toks:=Y } rfl hh ⟨_,c8 _ rfl,rfl,rfl⟩ (Z.push _) (λp g=>(m p g).at λo e=>kp _ o e) ?_ λq i j k3=>?_
 ·obtain⟨o,a,_⟩:=m p g
  have:=bw a;exact⟨bv (nv this I),bv this⟩
 ·obtain⟨o,es,t,a,r⟩:=D
  exact⟨o,es,t,av _ (k1 _ _ a),r⟩
 ·refine⟨rfl,h q i j λb o e=>?_⟩
  have lt:=bw e;exact k3 b o (bv lt) (bv (nv lt I)) (kp b o e)
section
variable {X:Cx} {G:Gd} {H0:Hp} {a b c e:Expr} {es rest:gp} {f g:FE} {F:FA} {pos p' p1 pos1:Pos} {x:Str} {i:Nat}
def zls{pins:gx}{s:Shared}{σ:St}{H:Hp}(I:Inv X pins σ H s):∀ys:List (Addr×Int×V),(∀y∈ys,SqT X.K H y.1 [.int y.2.1,y.2.2]) ->
  ∃all:List PT4,all.map (·.1)=ys.map (·.1)/\all.map (·.2.1)=ys.map (·.2.1)/\(∀p∈all,s.heap.IsTuple p.1 #[.int p.2.1 p.2.2.1,p.2.2.2])/\KV (ys.map λy=>((Sum.inl y.2.1:Key),y.2.2)) (all.map λp=>((Sum.inl p.2.1:Key),p.2.2.2))
 | [],_=>⟨[],rfl,rfl,λp hp=>by simp at hp,.nil⟩
 | y::ys,h=>by
   obtain⟨all,h1,h2,D,U⟩:=zls I ys λz Y=>h z (au _ Y);obtain⟨its,r,pl,_⟩:=I.tuple (h y bj);obtain⟨u,v,rfl,Z,a⟩:=z2r r;obtain⟨t,rfl⟩:∃t,u=.int y.2.1 t:=Z;refine⟨(y.1,y.2.1,t,v)::all,by simp[h1],by simp[h2],λp hp=>?_,.cons ⟨rfl,a⟩ U⟩;rcases b7.mp hp with rfl | hp
   ·exact pl
   ·exact D p hp
def zoe:∀ {as:fh} {us:fe},Vals (as.map V.ref) us->us=as.map Value.ref
 | [],_,.nil=>rfl
 | a::as,_,.cons r t=>by rw[zoe t];cases r;rfl
def zsk(d:X.calm=true):pv X (.type "dict") (λxs H Q=>∃p,∃ys:List (Addr×Int×V),xs=[.ref p]/\SqL X.K H p (ys.map λy=>V.ref y.1)/\(∀y∈ys,SqT X.K H y.1 [.int y.2.1,y.2.2])/\(ys.map (·.2.1)).Nodup /\
  ∀a,H a=none->Q (.ref a) (upd H a (.dK (ys.map λy=>(Sum.inl y.2.1,y.2.2))))):=by
 intro pins s σ H xs us Q I r h;obtain⟨p,ys,rfl,f,g,nd,q⟩:=h;obtain⟨u,rfl,i⟩:=ya r;cases i;obtain⟨its,b,pl,c⟩:=I.list f;obtain⟨all,h1,h2,j,l⟩:=zls I ys g;have e:its=all.map λp=>Value.ref p.1:=by
  have:ys.map (λy=>V.ref y.1)=(ys.map (·.1)).map V.ref:=by rw[ed];rfl
  rw[this] at b;rw[zoe b,<-h1,ed];rfl
 subst e;have D:all.length=ys.length:=by have:=congrArg List.length h1;simpa using this
 obtain⟨⟨oc,od,m,sl⟩,n,t,U,Y,Z⟩:=pl;cases U;cases Y;cases Z;refine zld (n:=n) (sl:=sl) all (by rw[h2];exact nd) (by rw[D];simpa using c) (I.ok.hd d) t j λh' tk hd k=>?_;refine⟨.ref s.heap.objs.size,_,I.laid (a:=s.heap.objs.size) (o:=.dK (ys.map λy=>(Sum.inl y.2.1,y.2.2))) (t':=tk) k (bo _) (z37 (by simpa using c) (beq_eq_false_iff_ne.mpr (Ne.symm (bv I.big))) l hd),rfl,q _ (I.hok.fresh (bo _))⟩
def pairs?:g2->Option (List (Int×D))
 | []=>some []
 | .tup [.int k,d]::r=>(pairs? r).map ((k,d)::·)
 | _::_=>none
def uh:g2->g3
 | [.lst ds]=>(pairs? ds).bind λps=>if (ps.map (·.1)).Nodup then some (.dct (ps.map (·.1)) (ps.map (·.2))) else none
 | _=>none
def zof{K:gu}{H:Hp}{O:Addr->Prop}:∀ {ds:g2} {vs:g0} {ps:List (Int×D)},pairs? ds=some ps->Reps K H O ds vs ->
  ∃ys:List (Addr×Int×V),vs=ys.map (λy=>V.ref y.1)/\(∀y∈ys,SqT K H y.1 [.int y.2.1,y.2.2])/\ys.map (·.2.1)=ps.map (·.1)/\Reps K H O (ps.map (·.2)) (ys.map (·.2.2))
 | [],_,_,h,.nil=>by cases h;exact⟨[],rfl,λy hy=>by simp at hy,rfl,.nil⟩
 | d::ds,_,ps,h,.cons r t=>by
   unfold pairs? at h;split at h
   ·cases ‹_::_=[]›
   ·rename_i k d' U I
    cases I;cases e:pairs? ds with
    | none=>rw[e] at h;cases h
    | some ps' =>
      rw[e] at h;cases h;obtain⟨ys,h1,h2,Y,Z⟩:=zof e t;obtain⟨a,us,rfl,b,U⟩:=r.tup_;obtain⟨u,v,rfl,c,f⟩:=z0b U;cases c.int_;refine⟨(a,k,v)::ys,by rw[h1];rfl,λy hy=>?_,by simp[Y],.cons f Z⟩;rcases b7.mp hy with rfl | hy
      ·exact SqT.of b
      ·exact h2 y hy
   ·cases h
def zup:∀ys:List (Addr×Int×V),(ys.map λy=>((Sum.inl y.2.1:Key),y.2.2))=dkv (ys.map (·.2.1)) (ys.map (·.2.2))
 | []=>rfl
 | y::ys=>by rw[bg,zup ys];rfl
def z0v:uk X G H0 (λxs H Q=>∃p,∃ys:List (Addr×Int×V),xs=[.ref p]/\SqL X.K H p (ys.map λy=>V.ref y.1)/\(∀y∈ys,SqT X.K H y.1 [.int y.2.1,y.2.2])/\(ys.map (·.2.1)).Nodup /\
  ∀a,H a=none->Q (.ref a) (upd H a (.dK (ys.map λy=>(Sum.inl y.2.1,y.2.2))))) uh:=by
 intro W env σ H vs ds d Q ok r e k;unfold uh at e;split at e;case h_2=>cases e
 rename_i I;cases e1:pairs? I with
 | none=>rw[e1] at e;cases e
 | some ps =>
   rw[e1,ac] at e;split at e;case isFalse=>cases e
   rename_i nd;cases e;obtain⟨v,rfl,U⟩:=rj r;obtain⟨l,us,rfl,h,Y⟩:=U.lst_;obtain⟨ys,rfl,h2,D,Z⟩:=zof e1 Y;refine⟨l,ys,rfl,h.sq,h2,by rw[D];exact nd,λa c=>?_⟩;have sm:Same H (upd H a (.dK (ys.map λy=>(Sum.inl y.2.1,y.2.2)))):=λb o e=>by rw[gi (m6 e c)];exact e
   have st:Step W H W (upd H a (.dK (ys.map λy=>(Sum.inl y.2.1,y.2.2)))):=Step.same sm;refine k _ _ st (ok.same sm) (.dct (vs:=ys.map (·.2.2)) ?_ (ok.reps st Z));rw[li,zup,D]
def zsl:bootBuiltins "dict" = some (.type "dict"):=by decide +kernel
def zuq(I:DAx X G H0 [e] F)(U:X.calm=true:=by rfl)(D:Bn X "dict":=by walk_at "b")(V:starEach [e] X.env=(false,eval e X.env)::starEach [] X.env:=by rfl):DEx X G H0 (.Call (.Name "dict" p') [e] [] pos) (er uh F) :=
 zwk (zsk U) z0v D.g D.m zsl I (by decide) (by decide) V rfl
def rg:f5->g2->Int->g3
 | k::ks,d::ds,i=>if k=i then some d else rg ks ds i
 | _,_,_=>none
def pj:D->D->g3 | .dct ks ds,.int i=>rg ks ds i | _,_=>none
def zog{K:gu}{H:Hp}{O:Addr->Prop}{i:Int}{d:D}:∀ {ks:f5} {ds:g2} {vs:g0},Reps K H O ds vs->rg ks ds i=some d->∃v,valV (dkv ks vs) (Sum.inl i)=some v/\Rep K H O d v
 | [],_,_,_,h=>by simp[rg] at h
 | k::ks,_,_,.nil,h=>by simp[rg] at h
 | k::ks,_,_,.cons (v:=v) r t,h=>by
   unfold rg at h;by_cases e:k=i
   ·rw[if_pos e] at h;cases h
    exact⟨v,by simp[dkv,valV,e],r⟩
   ·rw[if_neg e] at h
    obtain⟨w,h1,h2⟩:=zog t h;refine⟨w,?_,h2⟩;rw[<-h1];simp[dkv,valV,e]
def z0w{W:Addr->Prop}:OpD X G H0 (λx y H Q=>∃a v,x=.ref a/\DGet H a y (some v)/\Q v H) pj:=by
 intro W env σ H x y U V d Q ok D I e k;unfold pj at e;split at e;case h_2=>cases e
 rename_i ks ds i;cases I.int_;cases D with
 | @dct a _ vs _ ha rr =>
   obtain⟨v,h1,h2⟩:=zog rr e;exact⟨a,v,rfl,by rw[<-h1];exact DGet.k (k:=Sum.inl i) ha,k v H Step.refl ok h2⟩
def wu{jr:Nat}(D:Room jr X.A)(I:DEx X G H0 a f)(U:DEx X G H0 b g)(V:NoSl b:=by intro _ _;rfl):DEx X G H0 (.Subscript a b pos) (fBin pj f g) :=
 ⟨(z0u (z5j D) I.out U.out V).imp (x9 (r:=λx y H Q=>∃a v,x=.ref a/\DGet H a y (some v)/\Q v H) (z0w (W:=λ_=>True)))⟩
end
section
variable {X:Cx} {G:Gd} {H0:Hp} {a b c e:Expr} {es rest:gp} {f g:FE} {F:FA} {pos p' p1 pos1:Pos} {x:Str} {i:Nat}
def zw7:MtM X "list.index" (λx xs H Q=>∃p,∃ns:f5,∃k:Int,x=.ref p/\xs=[.int k]/\SqL X.K H p (ns.map V.int)/\k∈ns/\Q (.int (ns.idxOf k:Nat)) H):=by
 intro pins s σ H x xs v us Q I c d h;obtain⟨p,ns,k,rfl,rfl,e,f,q⟩:=h;cases c;obtain⟨u,rfl,g⟩:=d.one;obtain⟨t,rfl⟩:=g;obtain⟨its,i,pl,l⟩:=I.list e;have hi:IntsAre its ns:=ziu i;have m:=pl.isList;obtain⟨⟨cls,dd,data,sl⟩,a,b,n,hd⟩:=id m;simp only at b hd;subst b hd;have D:=hi.length;have Y:ns.idxOf k<ns.length:=List.idxOf_lt_length_iff.mpr f;rw[ae] at l;have r:=uw;refine call_meets zh ⟨_,a,rfl⟩ PySem.F.entry_list_index (PySem.F.args_list_index_2 _ _)
  (SeqAt.list_indexAt p its.toArray n dd sl (.int k t) (isInt k) (ns.idxOf k) (by simpa[D] using Y) (by omega) ?_ ?_) ⟨a,λy o=>(eq_isInt k t hi y (by simpa using o)).at _ _,⟨.int (ns.idxOf k:Nat),H,I.tok _,⟨_,rfl⟩,q⟩⟩
 ·show isInt k its[ns.idxOf k]=true
  rw[isInt_at k hi _ (by omega) Y];simpa using List.getElem_idxOf Y
 ·intro j U Z
  show isInt k its[j]=false;rw[isInt_at k hi j (by simpa using U) (by have:j<its.length:=(by simpa using U);omega)];exact ne_of_lt_idxOf Z _
def tz:D->D->g3 | .lst ds,.int k=>(ints? ds).bind λns=>if k∈ns then some (.int (ns.idxOf k:Nat)) else none | _,_=>none
def z52{r:V->g0->Hp->VK->Prop}{op:D->D->g3}(c:∀a i d,op a i=some d->∃ds,a=.lst ds)(j:OpD X G H0 (λx y H Q=>r x [y] H Q) op) :
  ∀σ H Q,tD X.K G H0 (fBin op f g) σ H Q->tBM X.K "list" r (tD X.K G H0 f) (zzw (tD X.K G H0 g) tNil) σ H Q:=by
 rintro σ H Q ⟨W,env,d,env',ok,e,k⟩;cases e1:f env with
 | none=>simp[fBin,e1] at e
 | some r1 =>
   cases e2:g r1.2 with
   | none=>simp[fBin,e1,e2] at e
   | some r2 =>
     have e:(op r1.1 r2.1).map (λd=>(d,r2.2))=some (d,env'):=by simpa[fBin,e1,e2] using e
     cases e3:op r1.1 r2.1 with
     | none=>rw[e3] at e;cases e
     | some d' =>
       rw[e3] at e;have m:(d',r2.2)=(d,env'):=bh e;cases m;obtain⟨ds,U⟩:=c _ _ _ e3;refine⟨W,env,r1.1,r1.2,ok,e1,λW1 v1 H1 n I p1=>⟨?_,W1,r1.2,r2.1,r2.2,I,e2,λb v2 H2 s2 Y p2=>?_⟩⟩
       ·rw[U] at p1
        obtain⟨l,us,rfl,h,s⟩:=p1.lst_;exact .inl ⟨rfl,_,h.sq⟩
       ·exact j b _ σ H2 v1 v2 _ _ _ Q Y (I.rep s2 p1) p2 e3 λv o p Z q=>k b v o ((n.trans s2).trans p) Z q
def zw8:OpD X G H0 (λx y H Q=>∃p,∃ns:f5,∃k:Int,x=.ref p/\[y]=[V.int k]/\SqL X.K H p (ns.map V.int)/\k∈ns/\Q (.int (ns.idxOf k:Nat)) H) tz:=by
 intro W env σ H x y Z a d Q ok D I e k;unfold tz at e;split at e;case h_2=>cases e
 rename_i ds i;cases e1:ints? ds with
 | none=>rw[e1] at e;cases e
 | some ns =>
   rw[e1,ac] at e;split at e;case isFalse=>cases e
   rename_i U;cases e;cases xf e1;obtain⟨l,us,rfl,h,Y⟩:=D.lst_;cases xj Y;exact⟨l,ns,i,rfl,by rw[I.int_],h.sq,U,k _ H Step.refl ok (.int _)⟩
def zqz(Y:DEx X G H0 b g)(Z:DEx X G H0 a f)(D:attributeBase b "index" X.env (eval b X.env)=eval b X.env:=by rfl)(U:((backTo pos (starEach [a] X.env)).all (λx=>!x.1) && (backToKw pos (keywordEach [] X.env)).all (λx=>x.1.isSome)
   && decide ([a].length+([]:List Keyword).length+(if ([]:List Keyword).isEmpty then 0 else 1)<30))=true:=by rfl)(I:(p1.endLine==pos.line)=true:=by rfl)(V:starEach [a] X.env=(false,eval a X.env)::starEach [] X.env:=by rfl) :
  DEx X G H0 (.Call (.Attribute b "index" p1) [a] [] pos) (fBin tz g f):=⟨(wb fm zh PySem.F.type_list_index zw7 Y.out (o8 Z.out qg V) D U I V rfl).imp
 (z52 (λc e d h=>by unfold tz at h;split at h;exact⟨_,rfl⟩;cases h) zw8)⟩
end
section
variable {X:Cx} {G:Gd} {H0:Hp} {a b c e:Expr} {es rest:gp} {f g:FE} {F:FA} {pos p' p1 pos1:Pos} {x:Str} {i:Nat}
end
end L2
namespace L2
open PySem
theorem zq0{i:Nat}{g:FS}(P:Nat->DE0->Prop):∀(ds:g2) (e:DE0) (n:Nat),P n e->(∀(k:Nat) (d:D) (e:DE0),ds[k]?=some d->P (n+k) e->∃e',g (e.set i (some (.sh d)))=some (.nx,e')/\P (n+k+1) e') ->
  ∃e',forL i g ds e=some (.nx,e')/\P (n+ds.length) e'
 | [],e,n,h,_=>⟨e,rfl,h⟩
 | d::r,e,n,h,hs=>by
   obtain⟨I,h1,p1⟩:=hs 0 d e rfl h;obtain⟨U,h2,p2⟩:=zq0 P r I (n+1) p1 λk d' e' V Y=>by
    have:=hs (k+1) d' e' (by simpa using V) (by rw[<-Nat.add_assoc,Nat.add_right_comm];exact Y);rw[show n+(k+1)+1=n+1+k+1 by lia] at this;exact this
   refine⟨U,?_,by rw[aw,show n+(r.length+1)=n+1+r.length by lia];exact p2⟩;simp[forL,h1,h2]
variable{i:Int}{g:FS}
def qv{i:Nat}(P:Nat->DE0->Prop)(ds:g2)(e:DE0)(h:P 0 e)(I:∀(k:Nat) (d:D) (e:DE0),ds[k]?=some d->P k e->∃e',g (e.set i (some (.sh d)))=some (.nx,e')/\P (k+1) e') :
  ∃e',forL i g ds e=some (.nx,e')/\P ds.length e':=by
 obtain⟨e',h1,h2⟩:=zq0 P ds e 0 h λk d e U V=>by
  obtain⟨e',Y,Z⟩:=I k d e U (by simpa using V);exact⟨e',Y,by simpa using Z⟩
 exact⟨e',h1,by simpa using h2⟩
variable{lo:Int}{n:Nat}{d:D}
def qp{k:Nat}(h:(rngD lo n)[k]?=some d):d=.int (lo+k)/\k<n:=by
 unfold rngD at h;rw[az] at h;by_cases D:k<n
 ·rw[jd D] at h
  exact⟨(bh h).symm,D⟩
 ·rw[c7 (by simpa using D)] at h;cases h
def pd:(rngD lo n).length=n:=by simp[rngD]
theorem l3(h:-1000000000000<i/\i<1000000000000):ln i:=⟨by lia,by lia⟩
variable{α:Type}
theorem z38{xs:List α}(I:0<=i)(h1:i<xs.length):∃x,atI xs i=some x/\xs[i.toNat]?=some x:=by
 have D:i.toNat<xs.length:=by lia
 exact⟨xs[i.toNat],by unfold atI ixN;rw[if_pos I,if_pos h1];simp[D],by simp[D]⟩
variable{ar:Nat}{ds:g2}
def j4{e':DE0}(h:ds.length=ar)(D:g (jw n ds)=some (.rt d,e')):runD n ar g ds=some d:=by
 unfold runD;rw[if_pos h,D]
def few(h:n<=1000000):Few n:=b8 h (by decide)
theorem oo(n:Nat)(D:n<=1000000):iR1 [.int n]=some (rngD 0 n):=by
 unfold iR1;dsimp only;rw[if_pos (show Bnd _ _ _ from⟨by lia,by lia⟩),fy]
variable{j:Int}
def zq1(h:ln j):dMul (.int i) (.int j)=some (.int (i*j)):=by
 unfold dMul;dsimp only;rw[if_pos (.inr h)]
def om(h:ln i):dMul (.int i) (.int j)=some (.int (i*j)):=by
 unfold dMul;dsimp only;rw[if_pos (.inl h)]
def vc(h:0<j):dMod (.int i) (.int j)=some (.int (i % j)):=by
 unfold dMod;dsimp only;rw[if_pos h]
theorem zml(h:0<j)(h2:j<1073741824):dDiv (.int i) (.int j)=some (.int (i / j)):=by
 unfold dDiv;dsimp only;rw[if_pos (show Bnd _ _ _ from⟨by lia,h2⟩)]
def qu{α:Type}{te:FE}{base:DE0}(φ ψ:α->D):∀(xs:List α),(∀x∈xs,∃e',te (some (.sh (φ x))::base)=some (ψ x,e'))->lv fYes te base (xs.map φ)=some (xs.map ψ)
 | [],_=>rfl
 | x::xs,h=>by
   obtain⟨e',I⟩:=h x bj;have U:=qu φ ψ xs λy V=>h y (au _ V);simp[lv,I,U]
def zmm{α:Type}{tt:FT}{te:FE}{base:DE0}(φ ψ:α->D)(p:α->Bool):∀(xs:List α),(∀x∈xs,∃I,tt (some (.sh (φ x))::base)=some (p x,I)/\(p x=true->∃e',te I=some (ψ x,e')))->lv tt te base (xs.map φ)=some ((xs.filter p).map ψ)
 | [],_=>rfl
 | x::xs,h=>by
   obtain⟨I,h1,h2⟩:=h x bj;have U:=zmm φ ψ p xs λy V=>h y (au _ V);cases hp:p x with
   | false =>
     simp[lv,h1,U,pi,hp]
   | true =>
     obtain⟨e',Y⟩:=h2 hp;simp[lv,h1,Y,U,pi,hp]
def zlt{α:Type}{te:FA}{base:DE0}(φ:α->D)(ψ:α->g2):∀(xs:List α),(∀x∈xs,∃e',te (some (.sh (φ x))::base)=some (ψ x,e'))->uu te base (xs.map φ)=some (xs.map ψ)
 | [],_=>rfl
 | x::xs,h=>by
   obtain⟨e',I⟩:=h x bj;have U:=zlt φ ψ xs λy V=>h y (au _ V);simp[uu,I,U]
def z0x(a b c:D):atI [a,b,c] 0=some a:=rfl
def ug(a b c:D):atI [a,b,c] 1=some b:=rfl
def uf(a b c:D):atI [a,b,c] 2=some c:=rfl
def z53(a b c d:D):atI [a,b,c,d] 0=some a:=rfl
def z54(a b c d:D):atI [a,b,c,d] 1=some b:=rfl
def z55(a b c d:D):atI [a,b,c,d] 2=some c:=rfl
def z56(a b c d:D):atI [a,b,c,d] 3=some d:=rfl
def zoh{α:Type}{i:Nat}{g:FS}(φ:α->D)(P:List α->DE0->Prop)(all:List α)(U:∀(p:List α) (x:α) (q:List α) (e:DE0),all=p++x::q->P p e->∃e',g (e.set i (some (.sh (φ x))))=some (.nx,e')/\P (p++[x]) e') :
  ∀(xs I:List α) (e:DE0),all=I++xs->P I e->∃e',forL i g (xs.map φ) e=some (.nx,e')/\P all e'
 | [],I,e,h,hp=>⟨e,rfl,by rw[h,cr];exact hp⟩
 | x::xs,I,e,h,hp=>by
   obtain⟨V,h1,p1⟩:=U I x xs e h hp;obtain⟨Y,h2,p2⟩:=zoh φ P all U xs (I++[x]) V (by rw[h];simp) p1;exact⟨Y,by simp[forL,h1,h2],p2⟩
def nr{i:Nat}(φ:α->D)(P:List α->DE0->Prop)(all:List α)(e:DE0)(I:P [] e)(U:∀(p:List α) (x:α) (q:List α) (e:DE0),all=p++x::q->P p e->∃e',g (e.set i (some (.sh (φ x))))=some (.nx,e')/\P (p++[x]) e') :
  ∃e',forL i g (all.map φ) e=some (.nx,e')/\P all e':=zoh φ P all U all [] e rfl I
def zw9(h:ds.length=ar)(D:∃e',g (jw n ds)=some (.rt d,e')):runD n ar g ds=some d:=by
 obtain⟨e',D⟩:=D;exact j4 h D
end L2
namespace L2
open PySem PySem.Spec PyProof.Rows PySem.W
abbrev Ag:=AK×g4
abbrev g7:=List Ag
abbrev g8:=Option (D×List Ag)
def slA(x:Ag)(j:Nat):Sl:=.ag x.1 (some j) x.2
def getA(env:DE0):f0->Option g7
 | []=>some []
 | i::r=>match env[i]? with | some (some (.ag k _ ps))=>(getA env r).map λt=>(k,ps)::t | _=>none
def putA(env:DE0):f0->g7->DE0
 | i::r,x::t=>match env[i]? with | some (some (.ag _ l _))=>putA (env.set i (some (.ag x.1 l x.2))) r t | _=>putA env r t
 | _,_=>env
def ni(ags:g7):DE0:=ags.zipIdx.map λp=>some (slA p.1 p.2)
variable{env:DE0}
def vb:∀ {is:f0} {ags:g7} {j i:Nat},getA env is=some ags->is[j]?=some i->∃x l,ags[j]?=some x/\env[i]?=some (some (.ag x.1 l x.2))
 | a::r,ags,j,i,h,e=>by
   unfold getA at h;split at h
   ·rename_i k l ps q
    cases h2:getA env r with
    | none=>rw[h2] at h;cases h
    | some t =>
      rw[h2] at h;cases h;cases j with
      | zero=>simp at e;subst e;exact⟨(k,ps),l,rfl,q⟩
      | succ j=>obtain⟨x,D,I,U⟩:=vb h2 (by simpa using e);exact⟨x,D,by simpa using I,U⟩
   ·cases h
def zjy:∀ {is:f0} {ags:g7},getA env is=some ags->ags.length=is.length
 | [],_,h=>by cases h;rfl
 | a::r,ags,h=>by
   unfold getA at h;split at h
   ·cases h2:getA env r with
    | none=>rw[h2] at h;cases h
    | some t=>rw[h2] at h;cases h;rw[aw,aw,zjy h2]
   ·cases h
def zmn:∀ {is:f0} {ags:g7} {env:DE0},(putA env is ags).length=env.length
 | [],_,_=>by simp[putA]
 | a::r,[],_=>by simp[putA]
 | a::r,x::t,env=>by
   unfold putA;split
   ·rw[zmn,du]
   ·rw[zmn]
def zmo:∀ {is:f0} {ags:g7} {env:DE0} {i:Nat},i∉is->(putA env is ags)[i]?=env[i]?
 | [],_,_,_,_=>by simp[putA]
 | a::r,[],_,_,_=>by simp[putA]
 | a::r,x::t,env,i,h=>by
   have h1:a≠i:=λz=>h (by simp[z]);have h2:i∉r:=λz=>h (by simp[z]);unfold putA;split
   ·rw[zmo h2,d7 h1]
   ·rw[zmo h2]
def zps:∀ {is:f0} {ags:g7} {env:DE0} {j i:Nat} {x:Ag} {k:AK} {l:Option Nat} {ps:g4},is.Nodup->is[j]?=some i->ags[j]?=some x->env[i]?=some (some (.ag k l ps))->(putA env is ags)[i]?=some (some (.ag x.1 l x.2))
 | a::r,y::t,env,j,i,x,k,l,ps,nd,e1,e2,e3=>by
   cases j with
   | zero =>
     simp at e1 e2;subst e1;subst e2;unfold putA;rw[e3];rw[zmo (cq.mp nd).1,fx (am.mp e3).1]
   | succ j =>
     have hi:a≠i:=λz=>by subst z;exact(cq.mp nd).1 (bc (by simpa using e1))
     unfold putA;split
     ·exact zps (cq.mp nd).2 (by simpa using e1) (by simpa using e2) (by rw[d7 hi];exact e3)
     ·exact zps (cq.mp nd).2 (by simpa using e1) (by simpa using e2) e3
variable{ags:g7}{j:Nat}{s:Stmt}
def zjz{s:Sl}(h:(ni ags)[j]?=some (some s)):∃x,ags[j]?=some x/\s=slA x j:=by
 unfold ni at h;rw[az,iy] at h;cases e:ags[j]? with
 | none=>rw[e] at h;cases h
 | some x=>rw[e] at h;cases h;exact⟨x,rfl,by simp⟩
def zoi:(ni ags).length=ags.length:=by simp[ni]
def mask(H:Hp)(W:Addr->Prop):Hp:=λa=>open Classical in if W a then none else H a
variable{a:Addr}{W:Addr->Prop}{H:Hp}
def zmp(h:W a):mask H W a=none:=if_pos h
def zq2(h:¬W a):mask H W a=H a:=if_neg h
variable{o:Expr}
def zoj{o:HO}(h:mask H W a=some o):¬W a/\H a=some o:=by
 by_cases z:W a
 ·rw[zmp z] at h;cases h
 ·rw[zq2 z] at h;exact⟨z,h⟩
def zok(h:mask H W a=none):W a\/H a=none:=by
 by_cases z:W a
 ·exact .inl z
 ·rw[zq2 z] at h;exact .inr h
def Lent(H:Hp)(env:DE0)(σ:St)(is:f0):Addr->Prop:=λa=>∃i s v,i∈is/\env[i]?=some (some s)/\σ[i]?=some (some v)/\Owns H s v a
variable{is:f0}{K:gu}{G:Gd}{H0:Hp}{σ:St}
def Ok.lentW(ok:Ok K G H0 W env σ H)(h:Lent H env σ is a):W a:=by
 obtain⟨i,s,v,_,e,I,o⟩:=h;obtain⟨U,D,q⟩:=ok.slot i s e;rw[I] at D;cases D;exact q.owns o
def re(G:Gd)(W L:Addr->Prop)(r:Nat->fh):Gd:=⟨λa=>G a/\(W a->L a),r⟩
def Ok.lend(ok:Ok K G H0 W env σ H)(nd:is.Nodup)(g:getA env is=some ags) :
  ∃(r:Nat->fh) (us:g0),us.length=is.length/\(∀(j i:Nat),is[j]?=some i->∃u,us[j]?=some u/\σ[i]?=some (some u)) /\
   (∀(j i:Nat) (k:AK) (l:Option Nat) (ps:g4),is[j]?=some i->env[i]?=some (some (.ag k l ps))->∃p as,us[j]?=some (.ref p)/\Lab k (r j) p as/\∀n,l=some n->Lab k (G.r n) p as) /\
   Ok K (re G W (Lent H env σ is) r) (mask H (Lent H env σ is)) (Lent H env σ is) (ni ags) (us.map some) H:=by
 have F:∀a,Lent H env σ is a->W a:=λa=>ok.lentW;have ex:∀j:Nat,∃t:fh×V,∀(i:Nat) (x:Ag) (l:Option Nat),is[j]?=some i->ags[j]?=some x->env[i]?=some (some (.ag x.1 l x.2)) ->
   σ[i]?=some (some t.2)/\∃p as us,t.2=.ref p/\Lab x.1 t.1 p as/\W p/\(p::as).Nodup/\(∀n,l=some n->Lab x.1 (G.r n) p as)/\AkOk K H x.1 p us/\PtsOk K G W H x.2 as us:=λj=>by
  cases U:is[j]? with
  | none=>exact⟨([],.non),λi x l e=>by cases e⟩
  | some i =>
    obtain⟨x,l,h1,h2⟩:=vb g U;obtain⟨v,I,p,as,us,Y,hW,M,hl,J,L⟩:=ok.slot i _ h2;refine⟨(match x.1 with | .ins true _ _=>[p] | _=>p::as,v),λN O P z1 z2 z3=>?_⟩;cases z1;rw[h1] at z2;cases z2;rw[h2] at z3;cases z3;refine⟨I,p,as,us,Y,?_,hW,M,hl,J,L⟩;obtain⟨k,ps⟩:=x;cases k with
    | ls=>rfl
    | ins b c fs=>cases b <;> rfl
 obtain⟨t,f⟩:=Classical.axiomOfChoice ex;have y:=zjy g;refine⟨λj=>(t j).1,(List.range is.length).map λj=>(t j).2,by simp,λj i e=>?_,λj i k l ps I Y=>?_,?_⟩
 ·have U:=(am.mp e).1
  obtain⟨x,l,h1,h2⟩:=vb g e;exact⟨_,by simp[U],(f j i x l e h1 h2).1⟩
 ·have U:=(am.mp I).1
  obtain⟨x,P,h1,h2⟩:=vb g I;rw[Y] at h2;cases h2;obtain⟨q1,p,as,us,A,Q,_,_,q4,_⟩:=f j i x l I h1 Y;exact⟨p,as,by simp[U,A],Q,q4⟩
 ·have own:∀ {j i:Nat} {x:Ag} {l:Option Nat},is[j]?=some i->ags[j]?=some x->env[i]?=some (some (.ag x.1 l x.2))->∀a,Owns H (slA x j) (t j).2 a->Lent H env σ is a:=λ{j i x l} I Y B a o =>
   ⟨i,_,_,bc I,B,(f j i x l I Y B).1,o⟩
  have cv:∀ {d:D} {v:V},Rep K H (Ow G W) d v->Rep K H (Ow (re G W (Lent H env σ is) λj=>(t j).1) (Lent H env σ is)) d v:=λr =>
   r.mono (λ_ _ h=>h) λa us o h=>⟨⟨⟨o.1,λz=>absurd z o.2⟩,λz=>o.2 (F a z)⟩,h⟩
  have R:∀ {d:g2} {v:g0},Reps K H (Ow G W) d v->Reps K H (Ow (re G W (Lent H env σ is) λj=>(t j).1) (Lent H env σ is)) d v:=λr =>
   r.mono (λ_ _ h=>h) λa us o h=>⟨⟨⟨o.1,λz=>absurd z o.2⟩,λz=>o.2 (F a z)⟩,h⟩
  have pos:∀ {j:Nat} {s:Sl},(ni ags)[j]?=some (some s)->∃i x l,is[j]?=some i/\ags[j]?=some x/\env[i]?=some (some (.ag x.1 l x.2))/\s=slA x j/\(((List.range is.length).map λj=>(t j).2).map some)[j]?=some (some (t j).2):=λ{j s} e=>by
   obtain⟨x,h1,rfl⟩:=zjz e;have U:j<is.length:=by rw[<-y];exact(am.mp h1).1
   obtain⟨O,l,h2,Z⟩:=vb g (show is[j]?=some is[j] by simp[U]);rw[h1] at h2;cases h2;exact⟨is[j],x,l,by simp[U],h1,Z,rfl,by simp[U]⟩
  refine⟨λa o e=>(zoj e).2,λa e=>?_,λa e=>⟨zmp e,(ok.wl a (F a e)).2⟩,λj s e=>?_,λj j' s s' v v' a I Y B e4 o1 o2=>?_,by rw[zoi,ae,ae,gg,y]⟩
  ·rcases zok e with z | z
   ·exact⟨ok.good a (ok.wl a (F a z)).1,λ_=>z⟩
   ·exact⟨ok.good a (ok.stay.free z),λw=>by obtain⟨_,m,q⟩:=ok.wl a w;rw[z] at q;cases q⟩
  ·obtain⟨i,x,l,h1,h2,Z,rfl,S⟩:=pos e
   obtain⟨q1,p,as,us,A,Q,hW,M,q4,J,L⟩:=f j i x l h1 h2 Z;refine⟨_,S,p,as,us,A,own h1 h2 Z p (.inl A),M,λn z=>by cases z;exact Q,J,L.step (λa vs ha z=>⟨own h1 h2 Z a (.inr ⟨p,us,A,J.o,L.parts_iff.mpr ha⟩),z⟩) (λ_ _ r=>cv r) λ_ _ r=>R r⟩
  ·obtain⟨i,x,l,h1,h2,Z,rfl,S⟩:=pos I
   obtain⟨N,O,P,C,T,E,rfl,X⟩:=pos Y;rw[S] at B;cases B;rw[X] at e4;cases e4;have:=ok.uniq i N _ _ _ _ a Z E (f j i x l h1 h2 Z).1 (f j' N O P C T E).1 o1 o2;subst this;exact zqj nd h1 C
variable{us:g0}{W':Addr->Prop}{H':Hp}
theorem Ok.unlend(ok:Ok K G H0 W env σ H){I:g7}{r:Nat->fh}{env':DE0}{σ':St}(nd:is.Nodup)(hg:getA env is=some ags)(hu:∀(j i:Nat),is[j]?=some i->∃u,us[j]?=some u/\σ[i]?=some (some u))(T:∀(j i:Nat) (k:AK) (l:Option Nat) (ps:g4),is[j]?=some i->env[i]?=some (some (.ag k l ps))->∃p as,us[j]?=some (.ref p)/\Lab k (r j) p as/\∀n,l=some n->Lab k (G.r n) p as)(hl:I.length=is.length)(ab:∀(j:Nat) (x y:Ag),ags[j]?=some x->I[j]?=some y->y.1=x.1)(st:Step (Lent H env σ is) H W' H')(F:Ok K (re G W (Lent H env σ is) r) (mask H (Lent H env σ is)) W' env' σ' H')(g:∀(j:Nat) (x:Ag),I[j]?=some x->env'[j]?=some (some (slA x j))) :
  Ok K G H0 (λa=>W' a\/(W a/\¬Lent H env σ is a)) (putA env is I) σ H'/\Step W H (λa=>W' a\/(W a/\¬Lent H env σ is a)) H' /\
   (∀ {d:D} {v:V},Rep K H' (Ow (re G W (Lent H env σ is) r) W') d v->Rep K H' (Ow G (λa=>W' a\/(W a/\¬Lent H env σ is a))) d v):=by
 have lW:∀a,Lent H env σ is a->W a:=λa=>ok.lentW;have P:∀a,W' a->Lent H env σ is a\/H a=none:=st.ws;have n':∀a,W' a->W a->Lent H env σ is a:=λa h w=>(P a h).elim id λz=>by obtain⟨_,m,q⟩:=ok.wl a w;rw[z] at q;cases q
 have X:Step W H (λa=>W' a\/(W a/\¬Lent H env σ is a)) H':=⟨λb o e n=>st.keep b o e λz=>n (lW b z),λa z=>by
  rcases z with z | z
  ·exact(P a z).imp (lW a) id
  ·exact .inl z.1⟩
 have back:∀ {j i:Nat} {y:Ag} {k:AK} {l:Option Nat} {ps:g4},is[j]?=some i->I[j]?=some y->env[i]?=some (some (.ag k l ps)) ->
   ∃u p as vs,σ[i]?=some (some u)/\σ'[j]?=some (some u)/\u=.ref p/\W' p/\(p::as).Nodup/\(∀n,l=some n->Lab y.1 (G.r n) p as)/\AkOk K H' y.1 p vs/\PtsOk K (re G W (Lent H env σ is) r) W' H' y.2 as vs:=λ{j i y k l ps} Y E J=>by
  obtain⟨x,l',h1,h2⟩:=vb hg Y;rw[J] at h2;cases h2;obtain⟨v,O,p,as,vs,rfl,hW,n1,hr,hk,hp⟩:=F.slot j _ (g j y E);obtain⟨u,M,N⟩:=hu j i Y;obtain⟨p0,Q,S,t,z5⟩:=T j i _ _ _ Y J;rw[M] at S;cases S;have hy:=ab j x y h1 E;have Z:Lab y.1 (r j) p as:=hr j rfl;have same:p=p0/\(as=Q\/∃c fs,y.1=.ins true c fs):=by
   rw[<-hy] at t;generalize y.1=kk at Z t;cases kk with
   | ls=>have Z:r j=p::as:=Z;have t:r j=p0::Q:=t;rw[Z] at t;cases t;exact⟨rfl,.inl rfl⟩
   | ins b c fs =>
     cases b with
     | true=>have Z:r j=[p]:=Z;have t:r j=[p0]:=t;rw[Z] at t;cases t;exact⟨rfl,.inr ⟨c,fs,rfl⟩⟩
     | false=>have Z:r j=p::as:=Z;have t:r j=p0::Q:=t;rw[Z] at t;cases t;exact⟨rfl,.inl rfl⟩
  obtain⟨rfl,hs⟩:=same;refine⟨_,p,as,vs,N,O,rfl,hW,n1,λn hn=>?_,hk,hp⟩;have z6:=z5 n hn;rw[<-hy] at z6;rcases hs with rfl | ⟨c,fs,q⟩
  ·exact z6
  ·rw[q] at z6 ⊢;exact z6
 have up:∀(a:Addr) (us:g0),Ow (re G W (Lent H env σ is) r) W' a->Rd H' a (.lst us)->Ow G (λa=>W' a\/(W a/\¬Lent H env σ is a)) a/\Rd H' a (.lst us):=λa us o h=>⟨⟨o.1.1,λz=>z.elim o.2 λy=>y.2 (o.1.2 y.1)⟩,h⟩;have cv:∀ {d:D} {v:V},Rep K H' (Ow (re G W (Lent H env σ is) r) W') d v->Rep K H' (Ow G (λa=>W' a\/(W a/\¬Lent H env σ is a))) d v:=λrp=>rp.mono (λ_ _ h=>h) up;have ai:∀ {d:g2} {v:g0},Reps K H' (Ow (re G W (Lent H env σ is) r) W') d v->Reps K H' (Ow G (λa=>W' a\/(W a/\¬Lent H env σ is a))) d v:=λrp=>rp.mono (λ_ _ h=>h) up;have A:∀ {i:Nat} {s:Sl} {v:V},i∉is->env[i]?=some (some s)->σ[i]?=some (some v)->∀a,Owns H s v a->W a/\¬Lent H env σ is a:=λ{i s v} hi e Y a o=>by
  obtain⟨v',E,q⟩:=ok.slot i s e;rw[Y] at E;cases E;refine⟨q.owns o,λz=>?_⟩;obtain⟨i',s',v',B,M,N,S⟩:=z;exact hi ((ok.uniq i i' s s' _ _ a e M Y N o S) ▸ B)
 have R:∀ {i:Nat} {s:Sl} {v:V},i∉is->env[i]?=some (some s)->σ[i]?=some (some v)->∀a (m:Mo),Owns H s v a->H a=some m.out->(W' a\/(W a/\¬Lent H env σ is a))/\H' a=some m.out:=λ{i s v} hi e Y a m o q=>by
  have z:=A hi e Y a o;exact⟨.inr z,st.keep a _ q z.2⟩
 have C:∀ {i:Nat} {s:Sl} {v:V} {a:Addr},i∉is->env[i]?=some (some s)->σ[i]?=some (some v)->Owns H' s v a->Owns H s v a:=λ{i s v a} hi e Y o=>by
  obtain⟨v',E,q⟩:=ok.slot i s e;rw[Y] at E;cases E;refine q.back (λl z w m N=>?_) o;refine st.keep l _ N λy=>?_;obtain⟨i',s',v',B,M,S,t⟩:=y;have ol:Owns H s v l:=by
   cases s with
   | sh d=>exact o.elim
   | ow ds=>exact z
   | o2 dss=>exact .inl z
   | ag k r ps=>exact .inl z
   | al _ _=>exact o.elim
   | ro _ _=>exact o.elim
  exact hi ((ok.uniq i i' s s' _ _ l e M Y S ol t) ▸ B)
 have U:∀ {i:Nat} {s:Sl},(putA env is I)[i]?=some (some s)->(i∉is/\env[i]?=some (some s))\/∃(j:Nat) (y:Ag) (k:AK) (l:Option Nat) (ps:g4),is[j]?=some i/\I[j]?=some y/\env[i]?=some (some (.ag k l ps))/\s=.ag y.1 l y.2:=λ{i s} e=>by
  by_cases hi:i∈is
  ·obtain⟨j,hj,ej⟩:=gl hi
   have Y:is[j]?=some i:=by simp[hj,ej]
   obtain⟨x,l,h1,h2⟩:=vb hg Y;have h3:I[j]?=some (I[j]'(by lia)):=by simp[hl,hj]
   rw[zps nd Y h3 h2] at e;cases e;exact .inr ⟨j,_,_,l,_,Y,h3,h2,rfl⟩
  ·rw[zmo hi] at e;exact .inl ⟨hi,e⟩
 refine⟨⟨λb o e=>?_,ok.good,λa z=>?_,λi s e=>?_,λi i' s s' v v' a Y E J O o1 o2=>?_,by rw[zmn];exact ok.len⟩,X,cv⟩
 ·exact st.keep b o (ok.stay b o e) λz=>by rw[(ok.wl b (lW b z)).1] at e;cases e
 ·rcases z with z | z
  ·refine⟨?_,(F.wl a z).2⟩
   rcases P a z with y | y
   ·exact(ok.wl a (lW a y)).1
   ·exact ok.stay.free y
  ·obtain⟨q,m,hm⟩:=ok.wl a z.1
   exact⟨q,m,st.keep a _ hm z.2⟩
 ·rcases U e with⟨hi,e⟩ | ⟨j,y,k,l,ps,Y,E,J,rfl⟩
  ·obtain⟨v,Y,q⟩:=ok.slot i s e
   exact⟨v,Y,ok.slstep X q (R hi e Y)⟩
  ·obtain⟨u,p,as,vs,L,_,rfl,hW,n1,an,hk,hp⟩:=back Y E J
   exact⟨_,L,p,as,vs,rfl,.inl hW,n1,an,hk,hp.step (λa ws ha z=>⟨.inl (hp.own ha).1,z⟩) (λ_ _ r=>cv r) λ_ _ r=>ai r⟩
 ·rcases U Y with⟨hi,f1⟩ | ⟨j,y,k,l,ps,f1,f2,f3,rfl⟩ <;> rcases U E with⟨B,f⟩ | ⟨j',y',k',l',ps',f,f2',f3',rfl⟩
  ·exact ok.uniq i i' s s' v v' a f1 f J O (C hi f1 J o1) (C B f O o2)
  ·exfalso
   obtain⟨M,N⟩:=A hi f1 J a (C hi f1 J o1);obtain⟨u,p,as,vs,L,q2,_⟩:=back f f2' f3';rw[O] at L;cases L;obtain⟨v0,w1,w2⟩:=F.slot j' _ (g j' y' f2');rw[q2] at w1;cases w1;exact N (n' a (w2.owns o2) M)
  ·exfalso
   obtain⟨M,N⟩:=A B f O a (C B f O o2);obtain⟨u,p,as,vs,L,q2,_⟩:=back f1 f2 f3;rw[J] at L;cases L;obtain⟨v0,w1,w2⟩:=F.slot j _ (g j y f2);rw[q2] at w1;cases w1;exact N (n' a (w2.owns o1) M)
  ·obtain⟨u,p,as,vs,L,q2,_⟩:=back f1 f2 f3
   obtain⟨u',p',ar,vs',aa,ap,_⟩:=back f f2' f3';rw[J] at L;cases L;rw[O] at aa;cases aa;have:=F.uniq j j' _ _ _ _ a (g j y f2) (g j' y' f2') q2 ap o1 o2;subst this;rw[f1] at f;cases f;rfl
def MCal(P:Program)(w:World)(K:gu)(mg:Str->fg)(base:Heap)(cn m:Str)(k:Nat)(sp:Sp):Prop :=
 ∃C fa fd ps,Cls K C/\Meth K C m fa/\FnOk P w K mg base (CXr P w) k fa fd ps sp/\Binds K fd ps []/\Cl K cn C
def Atr(K:gu)(cn m:Str):Prop:=∃C,Cls K C/\NoAttr K C m/\Cl K cn C
def KCal(P:Program)(w:World)(K:gu)(mg:Str->fg)(base:Heap)(x:Str)(k:Nat)(sp:Sp):Prop :=
 ∃C fa fd ps,Mk K C fa/\FnOk P w K mg base (CXr P w) k fa fd ps sp/\mg x=some (.ref C)/\Binds K fd ps []/\Cl K x C/\(x==("__debug__" : Str))=false
def EXs(X:Cx)(σ:St):XK:=λcls _ H'=>∀pins H s C D s',cls=.ref C->Inv X pins σ H s->Fly X.prog X.w X.stack H s C D H' s'->X.xe (.ref D) s'
variable{vs:g0}{X:Cx}{k:Nat}{f:Addr}{fd:FuncData}{ps:c3}{sp:Sp}
theorem zpt{pins:gx}{s:Shared}{Q:VK}{us:fe}(F:FnOk X.prog X.w X.K X.mg X.base (CXr X.prog X.w) k f fd ps sp)(V:Room k X.A)(Y:Binds X.K fd ps [])(I:Inv X pins σ H s)(r:Vals vs us)(h:sp vs H Q (EXs X σ)):wpAny (model X.prog X.w) X.A (call (.ref f) us) (EP X pins σ Q) X.xe s:=by
 have Z:(us++[]).length=ps.length:=by rw[cr,<-r.length];exact F.len _ _ _ _ h
 have U:=Y s us I.kIn Z;rw[cr] at U;refine wpAny_call (codeAny_mono (F.run X.A X.stack s H ⟨us,[]⟩ us vs Q (EXs X σ) V I.env0 U r h) λr s' D=>?_);cases r with
 | error e =>
   obtain⟨a,C,H',rfl,fl,z⟩:=D;exact z pins H s C a s' rfl I fl
 | ok fl =>
   cases fl with
   | ret u=>exact I.after D
   | next=>exact False.elim D
   | brk=>exact False.elim D
   | cont=>exact False.elim D
def z39(X:Cx)(sp:Sp)(t:TA):TE:=λσ H Q=>t σ H λvs H1=>sp vs H1 Q (EXs X σ)
variable{x:Str}{p pos:Pos}{e:Expr}{es:gp}{t:TA}
def zq3(F:FnOk X.prog X.w X.K X.mg X.base (CXr X.prog X.w) k f fd ps sp)(Y:Room k X.A)(Z:Gl X x)(a:X.mg x=some (.ref f))(b:PySem.W.keepIn X.K (.ref f)=true)(c:Binds X.K fd ps [])(d:PA X (e::es) t)(D:(x==("__debug__" : Str))=false:=by decide)(g:starEach (e::es) X.env=(false,eval e X.env)::starEach es X.env:=by rfl)(U:(backTo pos (starEach es X.env)).any (·.1)=false:=by rfl) :
  PE X (.Call (.Name x p) (e::es) [] pos) (z39 X sp t):=by
 intro pins s σ H Q I h;refine wpAny_Call_Name_kw (yo I Z a ?_ D);refine j5 (h₀:=X.base) I.ok.mod.kin b (thn (d pos pins s σ H _ I h) λus j i=>?_) g U;obtain⟨vs,H1,V,r,q⟩:=i;refine⟨V.kIn,?_⟩;exact zpt F Y c V r q
def zur(X:Cx)(C:Addr)(m:Str)(sp:Sp)(ta:TE)(t:TA):TE:=λσ H Q=>ta σ H λx H1=>∃a dx fs,x=.ref a/\H1 a=some (.ins C dx fs)/\fs.lookup m=none/\t σ H1 λvs H2=>sp (x::vs) H2 Q (EXs X σ)
variable{C:Addr}{m:Str}{apos:Pos}{ta:TE}
def zq4{pl:Sem Bool}(d:PE X o ta)(c:Cls X.K C)(Y:Meth X.K C m f)(F:FnOk X.prog X.w X.K X.mg X.base (CXr X.prog X.w) k f fd ps sp)(g:Room k X.A)(i:Binds X.K fd ps [])(j:PA X (e::es) t)(D:starEach (e::es) X.env=(false,eval e X.env)::starEach es X.env:=by rfl)(U:(backTo pos (starEach es X.env)).any (·.1)=false:=by rfl)(n:eval (.Call (.Attribute o m apos) (e::es) [] pos) X.env=(do
   let ov <-eval o X.env
   standAt apos.atName
   let (f,first) <-holding [ov] (getMethod ov m pl)
   callWith pos f first (backTo pos (starEach (e::es) X.env)) (backToKw pos (keywordEach [] X.env))):=by rfl) :
  PE X (.Call (.Attribute o m apos) (e::es) [] pos) (zur X C m sp ta t):=by
 intro pins s σ H Q I h;refine PySem.W.methodCall_KW (pl:=pl) (thn (d pins s σ H _ I h) λu p V=>?_) n;obtain⟨x,H1,Z,v,a,dx,fs,ex,y,l,q⟩:=V;subst ex;obtain rfl:u=Value.ref a:=v;refine zlp Z y c Y l ?_;refine j5 (first:=[.ref a]) (h₀:=X.base) I.ok.mod.kin Y.kp (thn (j pos pins p σ H1 _ Z q) λus s2 V=>?_) D U;obtain⟨vs,H2,b,r,z⟩:=V;refine⟨b.kIn,?_⟩;exact zpt (us:=.ref a::us) (vs:=.ref a::vs) F g i b (.cons rfl r) z
def zus{pl:Sem Bool}(V:PE X o ta)(c:Cls X.K C)(U:Meth X.K C m f)(F:FnOk X.prog X.w X.K X.mg X.base (CXr X.prog X.w) k f fd ps sp)(Y:Room k X.A)(Z:Binds X.K fd ps [])(b:eval (.Call (.Attribute o m apos) [] [] pos) X.env=(do
   let ov <-eval o X.env
   standAt apos.atName
   let (f,first) <-holding [ov] (getMethod ov m pl)
   callWith pos f first (backTo pos (starEach [] X.env)) (backToKw pos (keywordEach [] X.env))):=by rfl) :
  PE X (.Call (.Attribute o m apos) [] [] pos) (zur X C m sp ta tNil):=by
 intro pins s σ H Q I h;refine PySem.W.methodCall_KW (pl:=pl) (thn (V pins s σ H _ I h) λu i d=>?_) b;obtain⟨x,H1,D,e,a,dx,fs,ex,g,l,q⟩:=d;subst ex;obtain rfl:u=Value.ref a:=e;refine zlp D g c U l ?_;exact PySem.W.callWith_K0 (first:=[.ref a]) D.kIn U.kp (zpt (us:=[.ref a]) (vs:=[.ref a]) F Y Z D (.cons rfl .nil) q)
def z4a(X:Cx)(C:Addr)(sp:Sp)(t:TA):TE:=λσ H Q=>t σ H λvs H1=>∀x dx,H1 x=none->H1 dx=none->dx≠x ->
 sp (.ref x::vs) (upd (upd H1 dx (.own x)) x (.ins C dx [])) (λv H2=>v=.non/\Q (.ref x) H2) (EXs X σ)
theorem zxa(M:Mk X.K C f)(F:FnOk X.prog X.w X.K X.mg X.base (CXr X.prog X.w) k f fd ps sp)(g:Room (k+1) X.A)(i:Gl X x)(j:X.mg x=some (.ref C))(l:Binds X.K fd ps [])(m:PA X (e::es) t)(Y:(x==("__debug__" : Str))=false:=by decide)(n:starEach (e::es) X.env=(false,eval e X.env)::starEach es X.env:=by rfl)(Z:(backTo pos (starEach es X.env)).any (·.1)=false:=by rfl) :
  PE X (.Call (.Name x p) (e::es) [] pos) (z4a X C sp t):=by
 intro pins o σ H0 Q a q;refine wpAny_Call_Name_kw (yo a i j ?_ Y);refine j5 (h₀:=X.base) a.ok.mod.kin M.kp (thn (m pos pins o σ H0 _ a q) λus s y=>?_) n Z;obtain⟨vs,H,I,r,h⟩:=y;refine⟨I.kIn,?_⟩;have b:=h (s.heap.objs.size+1) s.heap.objs.size (I.hok.fresh (l8 _)) (I.hok.fresh (bo _)) (bv (di _));have U:=Inv.made (C:=C) I;have c:Vals (V.ref (s.heap.objs.size+1)::vs) (Value.ref (s.heap.objs.size+1)::us):=.cons rfl r;have B:((Value.ref (s.heap.objs.size+1)::us)++[]).length=ps.length:=by rw[cr,<-c.length];exact F.len _ _ _ _ b
 have d:=l ⟨_,s.gens,s.drawn,s.toks,s.os⟩ (Value.ref (s.heap.objs.size+1)::us) U.kIn B;rw[cr] at d;refine wpAny_call (zv9 (f:=f) I.kIn M.makes M.init (beq_iff_eq.mp M.fn) (codeAny_mono (F.run _ X.stack _ _ ⟨Value.ref (s.heap.objs.size+1)::us,[]⟩ (Value.ref (s.heap.objs.size+1)::us) _ _ (EXs X σ) (g.make C us [])
  (U.env0.make C us []) d c b) λr s' D=>?_))
 cases r with
 | error e =>
   obtain⟨E,G,H',rfl,fl,z⟩:=D;exact z pins _ _ G E s' rfl U fl
 | ok fl =>
   cases fl with
   | ret u =>
     obtain⟨v,H',J,L,N,O⟩:=U.after D;subst N;exact⟨L,⟨V.ref (s.heap.objs.size+1),H',J,rfl,O⟩⟩
   | next=>exact False.elim D
   | brk=>exact False.elim D
   | cont=>exact False.elim D
abbrev XF:=DE0->Option (Str×DE0)
def XEnd(X:Cx)(G:Gd)(H0:Hp)(W:Addr->Prop)(H:Hp)(σ:St)(c:Str)(env':DE0):Prop:=∀W' H' C,Cl X.K c C->Step W H W' H'->Ok X.K G H0 W' env' σ H'->∀pins e s',XS X pins σ H' C e s'->X.xe (.ref e) s'
def tDX(X:Cx)(G:Gd)(H0:Hp)(x:XF)(σ:St)(H:Hp):Prop:=DP X.K G H0 x (λW env c env'=> XEnd X G H0 W H σ c env') σ H
structure JX (X:Cx) (G:Gd) (H0:Hp) (e:Expr) (x:XF):Prop where
 out:PE X e (λσ H _=>tDX X G H0 x σ H)
structure JXA (X:Cx) (G:Gd) (H0:Hp) (es:gp) (x:XF):Prop where
 out:PA X es (λσ H _=>tDX X G H0 x σ H)
structure JXS (X:Cx) (G:Gd) (H0:Hp) (s:Stmt) (x:XF):Prop where
 out:PS X s (λ_ σ H=>tDX X G H0 x σ H)
@[simp] noncomputable def sXp(x:XF)(g:FS):FS:=λe=>match x e with | some r=>some (.xc r.1,r.2) | none=>g e
variable{x:XF}{g:FS}
def wc(V:DSx X G H0 s g)(Y:JXS X G H0 s x):DSx X G H0 s (sXp x g):=⟨λpins s' σ H D I Z=>by
 obtain⟨W,env,fl,env',ok,q,k⟩:=Z;unfold sXp at q;cases e1:x env with
 | none=>rw[e1] at q;exact V.out pins s' σ H D I ⟨W,env,fl,env',ok,q,k⟩
 | some r =>
   rw[e1] at q;cases q;exact Y.out pins s' σ H D I ⟨W,env,r.1,r.2,ok,e1,λW' H' C a st U=>k W' σ H' C a st U⟩⟩
def wy(h:JX X G H0 e x)(D:swapsWith e none pos.line X.env=pure false:=by rfl):JXS X G H0 (.Expr e pos) x:=⟨(zs3 h.out D).imp λ_ _ _ z=>z⟩
variable{c:Str}
def Cl.inj{D:Addr}(h:Cl K c C)(h':Cl K c D):C=D:=by
 unfold Cl at h h';rw[h] at h';cases h';rfl
def zn(K:gu)(O:Addr->Prop)(H:Hp)(ags:g7)(us:g0):Prop :=
 us.length=ags.length/\∀(j:Nat) (x:Ag) (u:V),ags[j]?=some x->us[j]?=some u->∃p vs,u=.ref p/\AkOk K H x.1 p vs/\PtsRo K (gd O) NoW H x.2 vs
def qSp(K:gu)(m:g7->g2->g3)(x:g7->g2->gr):Sp:=λvs H Q E =>
 ∃(O:Addr->Prop) (ags:g7) (us:g0) (ds:g2) (ws:g0),vs=us++ws/\zn K O H ags us/\Reps K H O ds ws /\
  ((∃d,m ags ds=some d/\∀v H',Same H H'->Rep K H' (λa=>O a\/H a=none) d v->Q v H')\/∃c,x ags ds=some c/\∀C H',Cl K c C->Same H H'->E (.ref C) none H')
def ml(n:Nat)(ags:g7)(ds:g2):DE0:=ags.map (λx=>some (Sl.ro x.1 x.2))++jw (n-ags.length) ds
def runQ(n p ar:Nat)(g:FS):g7->g2->g3:=λags ds=>if ags.length=p/\ds.length=ar then(match g (ml n ags ds) with | some (.rt d,_)=>some d | some (.nx,_)=>some .non | _=>none) else none
def xQ(n p ar:Nat)(g:FS):g7->g2->gr:=λags ds=>if ags.length=p/\ds.length=ar then(match g (ml n ags ds) with | some (.xc c,_)=>some c | _=>none) else none
variable{O O':Addr->Prop}
def nh(h:∀a,O a->O' a):(∀(d:D) (v:V),Rep K H O d v->Rep K H O' d v)/\∀(d:g2) (v:g0),Reps K H O d v->Reps K H O' d v :=
 ⟨λd v r=>r.mono (λ_ _ h=>h) λa us o q=>⟨h a o,q⟩,λd v r=>r.mono (λ_ _ h=>h) λa us o q=>⟨h a o,q⟩⟩
variable{ws:g0}{ds:g2}{N:c3}
theorem zy2(I:zn K O H ags us)(r:Reps K H O ds ws)(g:us.length<=N.length) :
  Ok K (gd λa=>O a\/H a=none) H NoW (ml N.length ags ds) (start N (us++ws)) H:=by
 have V:=yp (N:=N.drop us.length) r;have U:=V.len;have es:start N (us++ws)=us.map some++start (N.drop us.length) ws:=by
  unfold start;rw[bi,b9,aj,d5,Nat.sub_sub]
 have b:ml N.length ags ds=ags.map (λx=>some (Sl.ro x.1 x.2))++jw (N.drop us.length).length ds:=by unfold ml;rw[d5,I.1]
 rw[es,b];refine⟨Same.refl _,V.good,V.wl,λi s e=>?_,λi j h s2 v1 v2 a D _ k _ o _=>?_,?_⟩
 ·by_cases hi:i<ags.length
  ·rw[bf (by simpa using hi),az] at e
   cases D:ags[i]? with
   | none=>rw[D] at e;cases e
   | some x =>
     rw[D] at e;cases e;have Y:us[i]?=some (us[i]'(by rw[I.1];exact hi)):=by simp[I.1,hi]
     obtain⟨p,vs,h1,h2,c⟩:=I.2 i x _ D Y;refine⟨_,by rw[bf (by rw[ae,I.1];exact hi),az,Y];rfl,p,vs,h1,λz=>z,h2,c.step (λa vs n z=>⟨n,z⟩) (λd v q=>(nh λa z=>⟨.inl z.1,λz=>z⟩).1 d v q) λd v q=>(nh λa z=>⟨.inl z.1,λz=>z⟩).2 d v q⟩
  ·rw[ci (by simpa using hi),ae] at e
   obtain⟨v,Z,f⟩:=V.slot _ s e;rw[<-I.1] at Z;exact⟨v,by rw[ci (by rw[ae,I.1];lia),ae];exact Z,f⟩
 ·by_cases hi:i<ags.length
  ·rw[bf (by simpa using hi),az] at D
   cases q:ags[i]? with
   | none=>rw[q] at D;cases D
   | some x=>rw[q] at D;cases D;exact o.elim
  ·rw[ci (by simpa using hi)] at D
   obtain⟨d,_,rfl⟩:=zhq D;exact o.elim
 ·rw[aj,aj,ae,ae,U,I.1]
variable{x qual:Str}{st:Stmt}{P:Program}{w:World}{mg:Str->fg}{base:Heap}
theorem z4b{n p ar:Nat}(F:Fun K x qual st f fd)(S:sg N ps (i5 st))(l:n=N.length)(m:p+ar=ps.length)(Y:∀(cdv:Value) (A:Around) (outer:gj) (s:Shared) (H:Hp) (E:XK) (G:Gd) (H0:Hp),Room k (A.deeper (envOfC qual (i5 st) s.heap.objs.size f cdv)) ->
   DBx (cxOf (CXr P w) P w K mg base N qual (i5 st) f cdv A outer s H E) G H0 (mh st) g):FnOk P w K mg base (CXr P w) (k+1) f fd ps (qSp K (runQ n p ar g) (xQ n p ar g)):=by
 subst l;have q:ps.length<=N.length:=by have:=congrArg List.length S.pre;rw[dz] at this;lia
 have Z:∀ {O:Addr->Prop} {H:Hp} {ags:g7} {us:g0} {ds:g2} {ws:g0},zn K O H ags us->Reps K H O ds ws->(ags.length=p/\ds.length=ar)->(us++ws).length=ps.length:=λU r h=>by rw[aj,U.1,h.1,<-r.length,h.2,m]
 refine F.okX S (λvs H Q E h=>?_) (λcdv A outer s H vs Q E t h=>?_)
 ·obtain⟨O,ags,us,ds,ws,rfl,U,r,h⟩:=h
  refine Z U r ?_;rcases h with⟨d,e,_⟩ | ⟨c,e,_⟩
  ·unfold runQ at e;split at e
   ·assumption
   ·cases e
  ·unfold xQ at e;split at e
   ·assumption
   ·cases e
 ·obtain⟨O,ags,us,ds,ws,rfl,U,r,h⟩:=h
  refine⟨_,(Y cdv A outer s H E (gd λa=>O a\/H a=none) H t).out,?_⟩;rcases h with⟨d,e,k⟩ | ⟨c,e,k⟩
  ·unfold runQ at e
   split at e;case isFalse=>cases e
   rename_i j;have i:=zy2 (N:=N) U r (by rw[U.1,j.1];lia);split at e
   ·rename_i d' env' b
    cases e;exact⟨NoW,_,_,env',i,b,λW' σ' v H' st I u=>k v H' I.stay (u.mono (λ_ _ h=>h) λa us o h=>⟨o.1,h⟩)⟩
   ·rename_i env' b
    cases e;exact⟨NoW,_,_,env',i,b,λW' σ' H' st I=>k .non H' I.stay .non⟩
   ·cases e
  ·unfold xQ at e
   split at e;case isFalse=>cases e
   rename_i j;have i:=zy2 (N:=N) U r (by rw[U.1,j.1];lia);split at e
   ·rename_i B env' b
    cases e;exact⟨NoW,_,_,env',i,b,λW' σ' H' y z st I pins e s' xs=>zlr xs (k y H' z I.stay)⟩
   ·cases e
def lSp(K:gu)(m:g7->g2->g8)(x:g7->g2->Option (Str×g7)):Sp:=λvs H Q E =>
 ∃(G:Gd) (W:Addr->Prop) (U:Hp) (ags:g7) (us:g0) (ds:g2) (ws:g0),vs=us++ws/\us.length=ags.length/\Ok K G U W (ni ags) (us.map some) H/\Reps K H (Ow G W) ds ws /\
  ((∃d I, m ags ds = some (d, I) /\ ∀W' env' σ' v H', Step W H W' H' -> Ok K G U W' env' σ' H' -> (∀(j : Nat) (x : Ag), I[j]? = some x -> env'[j]? = some (some (slA x j))) -> Rep K H' (Ow G W') d v -> Q v H') \/
   ∃c I,x ags ds=some (c,I)/\∀C W' env' σ' H',Cl K c C->Step W H W' H'->Ok K G U W' env' σ' H'->(∀(j:Nat) (x:Ag),I[j]?=some x->env'[j]?=some (some (slA x j)))->E (.ref C) none H')
def qi(n:Nat)(ags:g7)(ds:g2):DE0:=ni ags++jw (n-ags.length) ds
def outA(e:DE0):Nat->f0->Option g7
 | _,[]=>some []
 | j,_::r=>match e[j]? with | some (some (.ag k (some j') ps))=>if j'=j then(outA e (j+1) r).map λt=>(k,ps)::t else none | _=>none
def runL(n p ar:Nat)(g:FS):g7->g2->g8:=λags ds=>if ags.length=p/\ds.length=ar then(match g (qi n ags ds) with | some (.rt d,e)=>(outA e 0 (List.range p)).map λt=>(d,t) | some (.nx,e)=>(outA e 0 (List.range p)).map λt=>(.non,t) | _=>none) else none
def xL(n p ar:Nat)(g:FS):g7->g2->Option (Str×g7):=λags ds=>if ags.length=p/\ds.length=ar then(match g (qi n ags ds) with | some (.xc c,e)=>(outA e 0 (List.range p)).map λt=>(c,t) | _=>none) else none
theorem zmr{e:DE0}:∀ {l:f0} {i:Nat} {ags:g7},outA e i l=some ags->ags.length=l.length/\∀(j:Nat) (x:Ag),ags[j]?=some x->e[i+j]?=some (some (slA x (i+j)))
 | [],_,_,h=>by cases h;exact⟨rfl,λj x z=>by simp at z⟩
 | _::r,i,ags,h=>by
   unfold outA at h;split at h
   ·rename_i k D ps q
    split at h
    ·rename_i I
     subst I;cases e2:outA e (D+1) r with
     | none=>rw[e2] at h;cases h
     | some t =>
       rw[e2] at h;cases h;obtain⟨h1,h2⟩:=zmr e2;refine⟨by rw[aw,aw,h1],λj x z=>?_⟩;cases j with
       | zero=>simp at z;subst z;exact q
       | succ j =>
         have:=h2 j x (by simpa using z);rwa [show D+1+j=D+(j+1) by lia] at this
    ·cases h
   ·cases h
theorem z4c{I:Hp}(ok:Ok K G I W (ni ags) (us.map some) H)(U:us.length=ags.length)(r:Reps K H (Ow G W) ds ws) :
  Ok K G I W (qi N.length ags ds) (start N (us++ws)) H:=by
 have V:(ni ags).length=us.length:=by rw[zoi,U]
 have es:start N (us++ws)=us.map some++start (N.drop us.length) ws:=by
  unfold start;rw[bi,b9,aj,d5,Nat.sub_sub]
 have g:qi N.length ags ds=ni ags++jw (N.drop us.length).length ds:=by unfold qi;rw[d5,U]
 have h:=yp (N:=N.drop us.length) (O:=Ow G W) r;rw[es,g];have D:∀ {i:Nat} {s:Sl},(ni ags++jw (N.drop us.length).length ds)[i]?=some (some s)->(i<us.length/\(ni ags)[i]?=some (some s))\/(us.length<=i/\∃d,ds[i-us.length]?=some d/\s=.sh d):=λ{i s} e=>by
  by_cases hi:i<us.length
  ·rw[bf (by lia)] at e;exact .inl ⟨hi,e⟩
  ·rw[ci (by lia),V] at e
   obtain⟨d,q,z⟩:=zhq e;exact .inr ⟨by lia,d,q,z⟩
 refine⟨ok.stay,ok.good,ok.wl,λi s e=>?_,λi j k s2 v1 v2 a l m Y Z b c=>?_,?_⟩
 ·rcases D e with⟨hi,e⟩ | ⟨hi,d,q,rfl⟩
  ·obtain⟨v,h1,h2⟩:=ok.slot i s e
   exact⟨v,by rw[bf (by simpa using hi)];exact h1,h2⟩
  ·obtain⟨v,h1,h2⟩:=r.get q
   refine⟨v,?_,h2⟩;rw[ci (by simpa using hi),ae];unfold start;rw[bf (by simpa using(am.mp h1).1),az,h1];rfl
 ·rcases D l with⟨hi,n⟩ | ⟨hi,d,q,rfl⟩
  ·rcases D m with⟨f,o⟩ | ⟨f,d,q,rfl⟩
   ·rw[bf (by simpa using hi)] at Y
    rw[bf (by simpa using f)] at Z;exact ok.uniq i j k s2 v1 v2 a n o Y Z b c
   ·exact c.elim
  ·exact b.elim
 ·rw[aj,aj,V,ae,h.len]
theorem z4d{n p ar:Nat}(F:Fun K x qual st f fd)(S:sg N ps (i5 st))(a:n=N.length)(b:p+ar=ps.length)(I:∀(cdv:Value) (A:Around) (outer:gj) (s:Shared) (H:Hp) (E:XK) (G:Gd) (H0:Hp),Room k (A.deeper (envOfC qual (i5 st) s.heap.objs.size f cdv)) ->
   DBx (cxOf (CXr P w) P w K mg base N qual (i5 st) f cdv A outer s H E) G H0 (mh st) g):FnOk P w K mg base (CXr P w) (k+1) f fd ps (lSp K (runL n p ar g) (xL n p ar g)):=by
 subst a;refine F.okX S (λvs H Q E h=>?_) (λcdv A outer s H vs Q E i h=>?_)
 ·obtain⟨G,W,Z,ags,us,ds,ws,rfl,V,ok,r,h⟩:=h
  have:ags.length=p/\ds.length=ar:=by
   rcases h with⟨d,t,e,_⟩ | ⟨c,t,e,_⟩
   ·unfold runL at e;split at e
    ·assumption
    ·cases e
   ·unfold xL at e;split at e
    ·assumption
    ·cases e
  rw[aj,V,this.1,<-r.length,this.2,b]
 ·obtain⟨G,W,Z,ags,us,ds,ws,rfl,V,ok,r,h⟩:=h
  refine⟨_,(I cdv A outer s H E G Z i).out,?_⟩;have Y:=z4c (N:=N) ok V r;rcases h with⟨d,t,e,k⟩ | ⟨c,t,e,k⟩
  ·unfold runL at e
   split at e;case isFalse=>cases e
   split at e
   ·rename_i d' env' U
    cases e2:outA env' 0 (List.range p) with
    | none=>rw[e2] at e;cases e
    | some t' =>
      rw[e2] at e;cases e;exact⟨W,_,_,env',Y,U,λW' σ' v H' st D l=>k W' env' σ' v H' st D (λj x z=>by have:=(zmr e2).2 j x z;rwa [j1] at this) l⟩
   ·rename_i env' U
    cases e2:outA env' 0 (List.range p) with
    | none=>rw[e2] at e;cases e
    | some t' =>
      rw[e2] at e;cases e;exact⟨W,_,_,env',Y,U,λW' σ' H' st D=>k W' env' σ' .non H' st D (λj x z=>by have:=(zmr e2).2 j x z;rwa [j1] at this) .non⟩
   ·cases e
  ·unfold xL at e
   split at e;case isFalse=>cases e
   split at e
   ·rename_i q env' U
    cases e2:outA env' 0 (List.range p) with
    | none=>rw[e2] at e;cases e
    | some t' =>
      rw[e2] at e;cases e;exact⟨W,_,_,env',Y,U,λW' σ' H' m o st D pins e s' xs=>zlr xs (k m W' env' σ' H' o st D λj x z=>by have:=(zmr e2).2 j x z;rwa [j1] at this)⟩
   ·cases e
def getR(env:DE0):f0->Option g7
 | []=>some []
 | i::r=>match env[i]? with
   | some (some (.ag k _ ps))=>(getR env r).map λt=>(k,ps)::t
   | some (some (.ro k ps))=>(getR env r).map λt=>(k,ps)::t
   | _=>none
def aggs(env:DE0)(is:f0):Prop:=∀i∈is,∃s,env[i]?=some (some s)
instance (env:DE0) (is:f0):Decidable (aggs env is):=Classical.propDecidable _
variable{ps:g4}{as:fh}
def PtsOk.ro(h:PtsOk K G W H ps as us):PtsRo K (gd (Ow G W)) NoW H ps us:=by
 induction h with
 | nil=>exact .nil
 | d q _ ih=>exact .d ((nh λa z=>⟨z,λz=>z⟩).1 _ _ q) ih
 | o hW hl q _ ih=>exact .o (λz=>z) hl ((nh λa z=>⟨z,λz=>z⟩).2 _ _ q) ih
def PtsRo.ro(h:PtsRo K G W H ps us):PtsRo K (gd (Ow G W)) NoW H ps us :=
 h.step (λa vs _ z=>⟨λz=>z,z⟩) (λd v q=>(nh λa z=>⟨z,λz=>z⟩).1 d v q) λd v q=>(nh λa z=>⟨z,λz=>z⟩).2 d v q
def Ok.roAll(ok:Ok K G H0 W env σ H):∀ {is:f0} {ags:g7} {us:g0},getR env is=some ags->us.length=is.length->(∀(j i:Nat),is[j]?=some i->∃u,us[j]?=some u/\σ[i]?=some (some u))->zn K (Ow G W) H ags us
 | [],_,us,h,hl,_=>by cases h;exact⟨hl,λj x u e=>by simp at e⟩
 | i::r,ags,us,h,hl,hu=>by
   cases us with
   | nil=>simp at hl
   | cons u us =>
     obtain⟨o,b,c⟩:=hu 0 i rfl;simp at b;subst b;have Y:∃k ps t,ags=(k,ps)::t/\getR env r=some t/\∃p vs,u=.ref p/\AkOk K H k p vs/\PtsRo K (gd (Ow G W)) NoW H ps vs:=by
      unfold getR at h;split at h
      ·rename_i k l ps q
       cases h2:getR env r with
       | none=>rw[h2] at h;cases h
       | some t =>
         rw[h2] at h;cases h;obtain⟨v,D,p,as,vs,rfl,_,_,_,I,U⟩:=ok.slot i _ q;rw[c] at D;cases D;exact⟨k,ps,t,rfl,rfl,p,vs,rfl,I,U.ro⟩
      ·rename_i k ps q
       cases h2:getR env r with
       | none=>rw[h2] at h;cases h
       | some t =>
         rw[h2] at h;cases h;obtain⟨v,D,p,vs,rfl,_,I,U⟩:=ok.slot i _ q;rw[c] at D;cases D;exact⟨k,ps,t,rfl,rfl,p,vs,rfl,I,U.ro⟩
      ·cases h
     obtain⟨k,ps,t,rfl,h2,p,vs,rfl,I,U⟩:=Y;obtain⟨d,f⟩:=ok.roAll (us:=us) h2 (by simpa using hl) λj g e=>by
      obtain⟨u,m,n⟩:=hu (j+1) g (by simpa using e);exact⟨u,by simpa using m,n⟩
     refine⟨by rw[aw,aw,d],λj x v Z a=>?_⟩;cases j with
     | zero=>simp at Z a;subst Z;subst a;exact⟨p,vs,rfl,I,U⟩
     | succ j=>exact f j x v (by simpa using Z) (by simpa using a)
variable{v:V}
def Ok.newRep(ok:Ok K G H0 W env σ H){d:D}(r:Rep K H' (λa=>Ow G W a\/H a=none) d v):Rep K H' (Ow G W) d v :=
 r.mono (λ_ _ h=>h) λa us o h=>⟨o.elim id λz=>⟨ok.good a (ok.stay.free z),λw=>by obtain⟨_,m,q⟩:=ok.wl a w;rw[z] at q;cases q⟩,h⟩
def tLA(X:Cx)(G:Gd)(H0:Hp)(is:f0)(F:FA):TA:=λσ H Q=>∃W env ds env',Ok X.K G H0 W env σ H/\aggs env is/\F env=some (ds,env') /\
 ∀W' us ws H',Step W H W' H'->Ok X.K G H0 W' env' σ H'->us.length=is.length->(∀(j i:Nat),is[j]?=some i->∃u,us[j]?=some u/\σ[i]?=some (some u))->Reps X.K H' (Ow G W') ds ws->Q (us++ws) H'
structure JLA (X:Cx) (G:Gd) (H0:Hp) (is:f0) (es:gp) (F:FA):Prop where
 out:PA X es (tLA X G H0 is F)
variable{F:FA}
def o7(h:DAx X G H0 es F):JLA X G H0 [] es F:=⟨h.out.imp λσ H Q ⟨W,env,ds,env',ok,_,q,k⟩=>⟨W,env,ds,env',ok,q,λW' vs H' st D r=>k W' [] vs H' st D rfl (λj i e=>by simp at e) r⟩⟩
def ko(m:g7->g2->g3)(is:f0)(F:FA):FE:=λe=>if aggs e is then(F e).bind λr=>(getR r.2 is).bind λags=>(m ags r.1).map λd=>(d,r.2) else none
def p5(x:g7->g2->gr)(is:f0)(F:FA):XF:=λe=>if aggs e is then(F e).bind λr=>(getR r.2 is).bind λags=>(x ags r.1).map λc=>(c,r.2) else none
variable{m:g7->g2->g3}{xx:g7->g2->gr}
def zpu:∀σ H Q,tD X.K G H0 (ko m is F) σ H Q->tLA X G H0 is F σ H λvs H1=>qSp X.K m xx vs H1 Q (EXs X σ):=λσ H Q U=>by
 obtain⟨W,env,d,env',ok,q,k⟩:=U;unfold ko at q;split at q;case isFalse=>cases q
 rename_i I;cases e1:F env with
 | none=>rw[e1] at q;cases q
 | some r =>
   rw[e1,ac] at q;cases e2:getR r.2 is with
   | none=>rw[e2] at q;cases q
   | some ags =>
     rw[e2,ac] at q;cases e3:m ags r.1 with
     | none=>rw[e3] at q;cases q
     | some d' =>
       rw[e3] at q;cases q;exact⟨W,env,r.1,r.2,ok,I,e1,λW1 us ws H1 V D Y Z a=>⟨Ow G W1,ags,us,r.1,ws,rfl,D.roAll e2 Y Z,a,.inl ⟨_,e3,λv H' sm b=>k W1 v H' (V.trans (Step.same sm)) (D.same sm) (D.newRep b)⟩⟩⟩
def zxc:∀σ H (Q:VK),tDX X G H0 (p5 xx is F) σ H->tLA X G H0 is F σ H λvs H1=>qSp X.K m xx vs H1 Q (EXs X σ):=λσ H Q V=>by
 obtain⟨W,env,c,env',ok,q,k⟩:=V;unfold p5 at q;split at q;case isFalse=>cases q
 rename_i U;cases e1:F env with
 | none=>rw[e1] at q;cases q
 | some r =>
   rw[e1,ac] at q;cases e2:getR r.2 is with
   | none=>rw[e2] at q;cases q
   | some ags =>
     rw[e2,ac] at q;cases e3:xx ags r.1 with
     | none=>rw[e3] at q;cases q
     | some c' =>
       rw[e3] at q;cases q;refine⟨W,env,r.1,r.2,ok,U,e1,λW1 us ws H1 Y D Z a b=>⟨Ow G W1,ags,us,r.1,ws,rfl,D.roAll e2 Z a,b,.inr ⟨_,e3,λC H' d sm pins H2 s2 g e s' f I fl=>?_⟩⟩⟩;cases f;exact k W1 H' C d (Y.trans (Step.same sm)) (D.same sm) pins e s' (.inl ⟨s2,H2,I,fl⟩)
variable{jr:Nat}{p':Pos}
def xi(c:Cal X.prog X.w X.K X.mg X.base (CXr X.prog X.w) x k (qSp X.K m xx))(V:Room jr X.A)(Y:JLA X G H0 is (e::es) F)(D:k<=jr:=by decide)(Z:Gl X x:=by walk_at "g")(a:starEach (e::es) X.env=(false,eval e X.env)::starEach es X.env:=by rfl)(I:(backTo pos (starEach es X.env)).any (·.1)=false:=by rfl) :
  DEx X G H0 (.Call (.Name x p') (e::es) [] pos) (ko m is F):=let ⟨_,_,_,b,d,f,g,U⟩:=c;⟨(zq3 b (V.mono D) Z d f g Y.out U a I).imp zpu⟩
def wx(c:Cal X.prog X.w X.K X.mg X.base (CXr X.prog X.w) x k (qSp X.K m xx))(V:Room jr X.A)(Y:JLA X G H0 is (e::es) F)(D:k<=jr:=by decide)(Z:Gl X x:=by walk_at "g")(a:starEach (e::es) X.env=(false,eval e X.env)::starEach es X.env:=by rfl)(I:(backTo pos (starEach es X.env)).any (·.1)=false:=by rfl) :
  JX X G H0 (.Call (.Name x p') (e::es) [] pos) (p5 xx is F):=let ⟨_,_,_,b,d,f,g,U⟩:=c;⟨(zq3 b (V.mono D) Z d f g Y.out U a I).imp zxc⟩
instance (a b:List AK):Decidable (a=b):=Classical.propDecidable _
def o5(m:g7->g2->g8)(is:f0)(F:FA):FE:=λe=>if aggs e is then(F e).bind λr=>(getA r.2 is).bind λags=>(m ags r.1).bind λq=>if q.2.map (·.1)=ags.map (·.1) then some (q.1,putA r.2 is q.2) else none else none
variable{b:Expr}
def z57{a b:g7}(h:b.map (·.1)=a.map (·.1)):b.length=a.length/\∀(j:Nat) (x y:Ag),a[j]?=some x->b[j]?=some y->y.1=x.1:=by
 refine⟨by simpa using congrArg List.length h,λj x y D I=>?_⟩;have:=congrArg (λl:List AK=>l[j]?) h;simp[az,D,I,Option.some.injEq] at this;exact this
variable{m:Str}{xx:g7->g2->Option (Str×g7)}
theorem z0y{m:g7->g2->g8}(nd:is.Nodup):∀σ H Q,tD X.K G H0 (o5 m is F) σ H Q->tLA X G H0 is F σ H λvs H1=>lSp X.K m xx vs H1 Q (EXs X σ):=λσ H Q g=>by
 obtain⟨W,env,d,env',ok,q,k⟩:=g;unfold o5 at q;split at q;case isFalse=>cases q
 rename_i V;cases e1:F env with
 | none=>rw[e1] at q;cases q
 | some r =>
   rw[e1,ac] at q;cases e2:getA r.2 is with
   | none=>rw[e2] at q;cases q
   | some ags =>
     rw[e2,ac] at q;cases e3:m ags r.1 with
     | none=>rw[e3] at q;cases q
     | some z =>
       rw[e3,ac] at q;split at q;case isFalse=>cases q
       rename_i Y;cases q;obtain⟨i,l⟩:=z57 Y;refine⟨W,env,r.1,r.2,ok,V,e1,λW1 us ws H1 n I N p s=>?_⟩;obtain⟨O,U,t,c,w,Z⟩:=I.lend nd e2;have x:U=us:=by
        apply d6;intro j;by_cases e:j<is.length
        ·obtain⟨u,y,A⟩:=p j is[j] (by simp[e])
         obtain⟨P,B,f⟩:=c j is[j] (by simp[e]);rw[A] at f;cases f;rw[y,B]
        ·rw[c7 (by lia),c7 (by lia)]
       subst x;refine⟨_,_,_,ags,U,r.1,ws,rfl,by rw[t,zjy e2],Z,?_,.inl ⟨_,_,e3,λW' env' σ' v H' st b C E=>?_⟩⟩
       ·exact s.mono (λ_ _ h=>h) λa us o h=>⟨⟨⟨o.1,λz=>absurd z o.2⟩,λz=>o.2 (I.lentW z)⟩,h⟩
       ·obtain⟨J,L,M⟩:=I.unlend nd e2 c w (by rw[i,zjy e2]) l st b C
        exact k _ v H' (n.trans L) J (M E)
def isK(κ:AK)(e:DE0)(i:Nat):Prop:=(∃l ps,e[i]?=some (some (.ag κ l ps)))\/∃ps,e[i]?=some (some (.ro κ ps))
instance (κ:AK) (e:DE0) (i:Nat):Decidable (isK κ e i):=Classical.propDecidable _
def fK(κ:AK)(i:Nat)(f:FE):FE:=λe=>if isK κ e i then f e else none
variable{i:Nat}
def isK.at{K:gu}{W:Addr->Prop}{H:Hp}{env:DE0}{σ:St}{c:Str}{fs:c3}{C:Addr}(ok:Ok K G H0 W env σ H)(h:isK (.ins false c fs) env i)(Y:Cl K c C):∃p dx us,σ[i]?=some (some (.ref p))/\H p=some (.ins C dx (fs.zip us))/\fs.length=us.length:=by
 rcases h with⟨l,ps,e⟩ | ⟨ps,e⟩
 ·obtain⟨v,I,p,as,us,rfl,_,_,_,⟨Z,dx,U,D,V⟩,_⟩:=ok.slot i _ e
  rw[Cl.inj U Y] at D;exact⟨p,dx,us,I,D,V⟩
 ·obtain⟨v,I,p,us,rfl,_,⟨Z,dx,U,D,V⟩,_⟩:=ok.slot i _ e
  rw[Cl.inj U Y] at D;exact⟨p,dx,us,I,D,V⟩
variable{fs:c3}
def zxd(h:m∉fs):(fs.zip us).lookup m=none:=by
 induction fs generalizing us with
 | nil=>rfl
 | cons f r ih =>
   cases us with
   | nil=>rfl
   | cons u us =>
     rw[ie,cz];have:(m==f)=false:=by simp;exact λz=>h (by simp[z])
     rw[this];exact ih λz=>h (by simp[z])
variable{f:FE}
def zut(Y:Cl X.K c C)(Z:m∉fs)(h:∀σ H Q,tD X.K G H0 f σ H Q->tLA X G H0 [i] F σ H λvs H1=>sp vs H1 Q (EXs X σ)):∀σ H Q,tD X.K G H0 (fK (.ins false c fs) i f) σ H Q->zur X C m sp (tVar i) (tDA X.K G H0 F) σ H Q:=λσ H Q a=>by
 obtain⟨W,env,d,env',ok,q,k⟩:=a;unfold fK at q;split at q;case isFalse=>cases q
 rename_i b;obtain⟨p,dx,us,V,g,_⟩:=b.at ok Y;obtain⟨l,env0,ds,D,I,_,n,o⟩:=h σ H Q ⟨W,env,d,env',ok,q,k⟩;refine⟨_,V,p,dx,_,rfl,g,zxd Z,l,env0,ds,D,I,n,λW' ws H' st U r=>?_⟩;exact o W' [.ref p] ws H' st U rfl (λj s e=>by cases j with | zero=>simp at e;subst e;exact⟨_,rfl,V⟩ | succ j=>simp at e) r
section
variable {X:Cx} {G:Gd} {H0:Hp} {a b e:Expr} {es:gp} {f:FE} {F:FA} {x m cn:Str} {fs:c3} {is:f0} {pos p' p1 p2 apos:Pos} {i:Nat} {k:Nat} {fa C:Addr} {fd:FuncData} {ps:c3} {pl:Sem Bool}
variable {mm:g7->g2->g3} {xx:g7->g2->gr}
def zuu{Nn Cn:c3}{jr:Nat}{i:Nat}(c:MCal X.prog X.w X.K X.mg X.base cn m k (qSp X.K mm xx))(Z:Room jr X.A)(b:DAx X G H0 (e::es) F)(an:Ats Nn Cn X)(D:k<=jr:=by decide)(I:Nn[i]?=some x:=by rfl)(d:m∉fs:=by decide +kernel)(U:starEach (e::es) X.env=(false,eval e X.env)::starEach es X.env:=by rfl)(V:(backTo pos (starEach es X.env)).any (·.1)=false:=by rfl)(g:eval (.Call (.Attribute (.Name x p') m apos) (e::es) [] pos) X.env=(do
   let ov <-eval (.Name x p') X.env
   standAt apos.atName
   let (f,first) <-holding [ov] (getMethod ov m pl)
   callWith pos f first (backTo pos (starEach (e::es) X.env)) (backToKw pos (keywordEach [] X.env))):=by rfl) :
  DEx X G H0 (.Call (.Attribute (.Name x p') m apos) (e::es) [] pos) (fK (.ins false cn fs) i (ko mm [i] F)):=let ⟨_,_,_,_,c,Y,h,j,l⟩:=c;⟨(zq4 ((an.a I).pe) c Y h (Z.mono D) j b.out U V g).imp (zut l d zpu)⟩
def yu{Nn Cn:c3}{jr:Nat}{i:Nat}(c:MCal X.prog X.w X.K X.mg X.base cn m k (qSp X.K mm xx))(Y:Room jr X.A)(an:Ats Nn Cn X)(D:k<=jr:=by decide)(I:Nn[i]?=some x:=by rfl)(Z:m∉fs:=by decide +kernel)(b:eval (.Call (.Attribute (.Name x p') m apos) [] [] pos) X.env=(do
   let ov <-eval (.Name x p') X.env
   standAt apos.atName
   let (f,first) <-holding [ov] (getMethod ov m pl)
   callWith pos f first (backTo pos (starEach [] X.env)) (backToKw pos (keywordEach [] X.env))):=by rfl) :
  DEx X G H0 (.Call (.Attribute (.Name x p') m apos) [] [] pos) (fK (.ins false cn fs) i (ko mm [i] fNil)):=let ⟨_,_,_,_,c,U,d,e,g⟩:=c;⟨(zus ((an.a I).pe) c U d (Y.mono D) e b).imp λσ H Q h=>by
   obtain⟨j,h1,h2⟩:=zut (F:=fNil) g Z (zpu (xx:=xx)) σ H Q h;obtain⟨a,dx,V,l,n,o,W,env,ds,env',ok,q,kk⟩:=h2;cases q;exact⟨j,h1,a,dx,V,l,n,o,kk W [] H Step.refl ok .nil⟩⟩
variable {mm:g7->g2->g8} {xx:g7->g2->Option (Str×g7)}
def zol{Nn Cn:c3}{jr:Nat}{i:Nat}(c:MCal X.prog X.w X.K X.mg X.base cn m k (lSp X.K mm xx))(Z:Room jr X.A)(b:DAx X G H0 (e::es) F)(an:Ats Nn Cn X)(D:k<=jr:=by decide)(I:Nn[i]?=some x:=by rfl)(d:m∉fs:=by decide +kernel)(U:starEach (e::es) X.env=(false,eval e X.env)::starEach es X.env:=by rfl)(V:(backTo pos (starEach es X.env)).any (·.1)=false:=by rfl)(g:eval (.Call (.Attribute (.Name x p') m apos) (e::es) [] pos) X.env=(do
   let ov <-eval (.Name x p') X.env
   standAt apos.atName
   let (f,first) <-holding [ov] (getMethod ov m pl)
   callWith pos f first (backTo pos (starEach (e::es) X.env)) (backToKw pos (keywordEach [] X.env))):=by rfl) :
  DEx X G H0 (.Call (.Attribute (.Name x p') m apos) (e::es) [] pos) (fK (.ins false cn fs) i (o5 mm [i] F)):=let ⟨_,_,_,_,c,Y,h,j,l⟩:=c;⟨(zq4 ((an.a I).pe) c Y h (Z.mono D) j b.out U V g).imp (zut l d (z0y (by simp)))⟩
def qo{z:Int}(D:∃t,X.mg x=some (.int z t))(I:Gl X x:=by walk_at "g")(hd:(x==("__debug__" : Str))=false:=by decide +kernel):DEx X G H0 (.Name x pos) (fC (.int z)):=by
 obtain⟨t,D⟩:=D;exact de_c (zzi I D (v:=.int z) ⟨t,rfl⟩ hd) λ_ _=>.int _
abbrev FV:=DE0->Option DE0
def tV(X:Cx)(G:Gd)(H0:Hp)(v:FV):TE:=λσ H Q=>∃W env env',Ok X.K G H0 W env σ H/\v env=some env'/\∀W' z H',Step W H W' H'->Ok X.K G H0 W' env' σ H'->Q (.str z) H'
structure JV (X:Cx) (G:Gd) (H0:Hp) (e:Expr) (v:FV):Prop where
 out:PE X e (tV X G H0 v)
def z4e{z:Str}{j:Nat}:JV X G H0 (.Constant (.str z) j pos) some:=⟨zyf.imp λσ H Q ⟨W,env,env',ok,q,k⟩=>by cases q;exact k W z H Step.refl ok⟩
structure JVP (X:Cx) (G:Gd) (H0:Hp) (e:Expr) (v:FV):Prop where
 out:∀(pins:gx) (s:Shared) (σ:St) (H:Hp) (Q:Nat->Hp->Prop),Inv X pins σ H s->(∃W env env',Ok X.K G H0 W env σ H/\v env=some env'/\∀n W' H',n<=1000->Step W H W' H'->Ok X.K G H0 W' env' σ H'->Q n H') ->
  wpAny (model X.prog X.w) X.A (eval e X.env) (λu s'=>∃z t H',u=.str z t/\Inv X pins σ H' s'/\Q z.length H') X.xe s
def va{z:Str}{j:Nat}(D:z.length<=1000:=by decide):JVP X G H0 (.Constant (.str z) j pos) some:=⟨λpins s σ H Q I U=>by
 obtain⟨W,env,env',ok,q,k⟩:=U;cases q;exact Calls.Constant_str ⟨z,_,H,rfl,I.tok _,k _ W H D Step.refl ok⟩⟩
def vInt(f:FE):FV:=λe=>(f e).bind λr=>match r.1 with | .int z=>if z.natAbs<1000000 then some r.2 else none | _=>none
theorem yk(h:DEx X G H0 a f):JVP X G H0 (.FormattedValue a (-1) none pos) (vInt f):=⟨λpins s σ H Q I U=>by
 obtain⟨W,env,env',ok,q,k⟩:=U;unfold vInt at q;cases e1:f env with
 | none=>rw[e1] at q;cases q
 | some r =>
   rw[e1,ac] at q;split at q;case h_2=>cases q
   rename_i z d;split at q;case isFalse=>cases q
   rename_i Y;cases q;refine FormattedValue_plain (thn (h.out pins s σ H (λv H1=>v=.int z/\∀n,n<=1000->Q n H1) I ⟨W,env,r.1,r.2,ok,e1,λW1 v H1 Z V b=>⟨by rw[d] at b;exact b.int_,λn e=>k n W1 H1 e Z V⟩⟩) λu Z U=>?_);obtain⟨v,H1,g,i,j,l⟩:=U;subst j;obtain⟨t,rfl⟩:=i;have D:z.natAbs.log2<1920:=by
    by_cases c:z.natAbs=0
    ·rw[c];decide
    ·exact(Nat.log2_lt c).mpr (bq Y (b8 (by decide:(1000000:Nat)<=2 ^ 20) (Nat.pow_le_pow_right (by decide) (by decide))))
   refine formatField_int_small D ⟨_,_,H1,rfl,(g.tok _).tok _,l _ ?_⟩;have:(toString z).length<=6+1:=int_text_length_le10 (by decide) Y;rw[PySem.ofString_length]
   lia⟩
structure JVs (X:Cx) (G:Gd) (H0:Hp) (es:gp) (v:FV):Prop where
 out:∀(acc:Str) (pins:gx) (s:Shared) (σ:St) (H:Hp) (Q:VK),acc.length+1000*es.length<=100000->Inv X pins σ H s->tV X G H0 v σ H Q ->
  wpAny (model X.prog X.w) X.A (joinParts acc (evalEach es X.env)) (EP X pins σ Q) X.xe s
theorem yj  : JVs X G H0 [] some:=⟨λD pins s σ H Q V I U=>by
 obtain⟨W,env,env',ok,q,k⟩:=U;cases q;exact joinParts_nil ⟨.str D,H,I.tok _,⟨_,rfl⟩,k W D H Step.refl ok⟩ (by rw[sizeLine_eq];lia)⟩
theorem o9{v w:FV}(h:JVP X G H0 e v)(t:JVs X G H0 es w)(f:evalEach (e::es) X.env=eval e X.env::evalEach es X.env:=by rfl):JVs X G H0 (e::es) (λz=>(v z).bind w):=⟨λa pins s σ H Q b I D=>by
 obtain⟨W,env,env',ok,q,k⟩:=D;cases e1:v env with
 | none=>simp only[e1] at q;cases q
 | some env1 =>
   have q:w env1=some env':=by simpa only[e1,ac] using q
   rw[aw] at b;refine joinParts_cons (thn (h.out pins s σ H (λn H1=>n<=1000/\tV X G H0 w σ H1 Q) I ⟨W,env,env1,ok,e1,λn W1 H1 Z U V=>⟨Z,W1,env1,env',V,q,λW' z H' s2 Y=>k W' z H' (U.trans s2) Y⟩⟩) λu U D=>?_);obtain⟨z,tk,H1,c,d,Z,tv⟩:=D;subst c;exact⟨by rw[strLen_append,sizeLine_eq];lia,t.out _ pins U σ H1 Q (by rw[strLen_append];lia) d tv⟩⟩
theorem yi{e':Expr}{v:FV}(h:JVs X G H0 (e::e'::es) v)(D:1000*(e::e'::es).length<=100000:=by decide):JV X G H0 (.JoinedStr (e::e'::es) pos) v :=
 ⟨λpins s σ H Q I t=>JoinedStr_many (h.out Str.empty pins s σ H Q (by show 0+_<=_;lia) I t)⟩
abbrev VEs:fe:=[.type "ValueError",.type "Exception",.type "BaseException",.type "object"]
def XC(K:gu)(C:Addr):Prop:=PySem.W.excIn K C VEs "ValueError.__new__" = true
def Exc(K:gu)(mg:Str->fg)(c:Str):Prop:=∃C,Cl K c C/\XC K C/\mg c=some (.ref C)/\(c==("__debug__" : Str))=false
def XC.obj{K:gu}{C:Addr}{h:Heap}(I:XC K C)(D:K.In h):∃bm N nm q bs hdct sn sub ab col dd k0 k1 k2 k3 k5 mN,h.get? C=some (excClassObj nm q C N bs bm hdct sn sub ab col dd k0 k1 k2 k3 k5 "ValueError.__new__")/\h.Ns N mN/\mN "__init__" = none/\OwnTail h VEs bm:=by
 unfold XC PySem.W.excIn at I;split at I;case h_2=>cases I
 rename_i dd V sl Y;split at I;case h_2=>cases I
 rename_i m bm k0 k1 k2 k3 n k5 Z a;simp only[fq,beq_iff_eq,kg] at I;obtain⟨⟨⟨⟨⟨b,c⟩,d⟩,e⟩,U⟩,f⟩:=I;subst b;subst c;have g:=D _ _ Y;obtain⟨nm,bs,i,ns,j,hd,sn,sub,ab,col,k⟩:=V;obtain⟨l⟩:=sl;subst Z;subst d;subst a;exact⟨bm,ns,nm,j,bs,hd,sn,sub,ab,col,dd,k0,k1,k2,k3,k5,_,g,.of_isNs (isNs_of_in D U),nsMap_none_of_in D U f,tail_of_in D e⟩
def qh(c:Str)(v:FV):FS:=λe=>(v e).map λe'=>(.xc c,e')
def xh{v:FV}{c:Str}{l cpos:Pos}(n:Exc X.K X.mg c)(o:JV X G H0 a v)(hh:X.calm=true:=by rfl)(p:Gl X c:=by walk_at "g")(Y:starEach [a] X.env=(false,eval a X.env)::starEach [] X.env:=by rfl)(Z:(backTo cpos (starEach [a] X.env)).any (·.1)=false:=by rfl) :
  DSx X G H0 (.Raise (some (.Call (.Name c l) [a] [] cpos)) none pos) (qh c v):=let ⟨C,r,t,u,b⟩:=n;⟨λpins s σ H D I d=>by
 obtain⟨W,env,fl,env',ok,q,k⟩:=d;unfold qh at q;cases e1:v env with
 | none=>rw[e1] at q;cases q
 | some env1 =>
   rw[e1] at q;cases q;obtain⟨tl,N,nm,q,bs,hdct,sn,sub,ab,col,dd,k0,k1,k2,k3,k5,mN,w,x,y,i⟩:=t.obj I.ok.mod.kin;refine wpAny_Raise_call_subT (C:=C) (nm:=nm) (q:=q) (N:=N) (bs:=bs) (bm:=tl) (hdct:=hdct) (sn:=sn) (sub:=sub) (ab:=ab) (col:=col) (dd:=dd) (k0:=k0) (k1:=k1) (k2:=k2) (k3:=k3) (k5:=k5) ua (mN:=mN)
    (i.hasType ua.hasBase) (I.ok.hd hh) Z y (yo I p u ⟨rfl,?_⟩ b)
   rw[Y];refine Calls.evalArgs_plain ?_;have j:=(o8 o.out qg Y) cpos pins s σ H (λvs H1=>vs.length=1/\∃W1,Step W H W1 H1/\Ok X.K G H0 W1 env' σ H1) I ⟨W,env,env',ok,e1,λW1 z H1 f U=>⟨rfl,W1,f,U⟩⟩;rw[Y] at j;refine thn j λus f d=>?_;obtain⟨vs,H1,V,A,B,W1,g,U⟩:=d;have h:us.length<=sizeLine:=by rw[<-A.length,B];decide
   exact⟨rfl,h,V.bk _ _ w,x.keeps V.bk,i.keeps V.bk,λh' e m=>k W1 σ H1 C r g U pins e _ (.inr ⟨f,us,V,m,rfl⟩)⟩⟩
end
def agAt(e:DE0)(i:Nat):Option Ag:=match e[i]? with | some (some (.ag k _ ps))=>some (k,ps) | some (some (.ro k ps))=>some (k,ps) | _=>none
def rd:g4->Nat->Nat
 | .o _::r,j+1=>rd r j+1
 | .d _::r,j+1=>rd r j
 | _,_=>0
inductive Acc where
 | at (κ:AK) | al (x:Nat)
def Acc.ok:Acc->DE0->Nat->Nat->Prop
 | .at κ,e,i,_=>isK κ e i
 | .al x,e,i,j=>∃k r ps,e[i]?=some (some (.ag k (some r) ps))/\e[x]?=some (some (.al r (rd ps j)))
instance (A:Acc) (e:DE0) (i j:Nat):Decidable (A.ok e i j):=Classical.propDecidable _
def n9(A:Acc)(i j:Nat)(e:DE0):Option g2:=if A.ok e i j then(agAt e i).bind λx=>match x.2[j]? with | some (.o ds)=>some ds | _=>none else none
def PartAt(K:gu)(H:Hp)(env:DE0)(σ:St)(i j:Nat)(a:Addr):Prop:=∃k ps p us,agAt env i=some (k,ps)/\σ[i]?=some (some (.ref p))/\AkOk K H k p us/\us[j]?=some (.ref a)
def tPt(X:Cx)(G:Gd)(H0:Hp)(A:Acc)(i j:Nat):TE:=λσ H Q=>∃W env ds,Ok X.K G H0 W env σ H/\n9 A i j env=some ds /\
 ∀a vs,PartAt X.K H env σ i j a->H a=some (.lst vs)->Reps X.K H (Ow G W) ds vs->Q (.ref a) H
structure JPt (X:Cx) (G:Gd) (H0:Hp) (e:Expr) (A:Acc) (i j:Nat):Prop where
 out:PE X e (tPt X G H0 A i j)
protected def PtsOk.ix(h:PtsOk K G W H ps as us)(e:ps[j]?=some (.o ds)):∃a,us[j]?=some (.ref a)/\as[rd ps j]?=some a:=by
 induction h generalizing j with
 | nil=>simp at e
 | d _ _ ih =>
   cases j with
   | zero=>simp at e
   | succ j=>obtain⟨a,h1,h2⟩:=ih (j:=j) (by simpa using e);exact⟨a,by simpa using h1,h2⟩
 | @o _ a _ _ _ _ _ _ _ _ ih =>
   cases j with
   | zero=>exact⟨a,rfl,rfl⟩
   | succ j=>obtain⟨b,h1,h2⟩:=ih (j:=j) (by simpa using e);exact⟨b,by simpa using h1,by simpa[rd] using h2⟩
variable{k:AK}
def Ok.part(ok:Ok K G H0 W env σ H)(e:agAt env i=some (k,ps))(Y:ps[j]?=some (.o ds)):∃p us a vs,σ[i]?=some (some (.ref p))/\AkOk K H k p us/\us[j]?=some (.ref a)/\H a=some (.lst vs)/\Reps K H (Ow G W) ds vs:=by
 unfold agAt at e;split at e
 ·rename_i k' l ps' q
  cases e;obtain⟨v,D,p,as,us,rfl,_,_,_,I,U⟩:=ok.slot i _ q;obtain⟨a,vs,h1,_,_,h2,V⟩:=U.get Y;exact⟨p,us,a,vs,D,I,h1,h2,V⟩
 ·rename_i k' ps' q
  cases e;obtain⟨v,D,p,us,rfl,_,I,U⟩:=ok.slot i _ q;obtain⟨a,vs,h1,_,h2,V⟩:=U.get Y;exact⟨p,us,a,vs,D,I,h1,h2,V⟩
 ·cases e
variable{A:Acc}
def zq5(h:n9 A i j env=some ds):A.ok env i j/\∃k ps,agAt env i=some (k,ps)/\ps[j]?=some (.o ds):=by
 unfold n9 at h;split at h;case isFalse=>cases h
 rename_i D;cases e:agAt env i with
 | none=>rw[e] at h;cases h
 | some x =>
   rw[e,ac] at h;split at h
   ·rename_i ds' q;cases h;exact⟨D,x.1,x.2,rfl,q⟩
   ·cases h
def PartAt.inj{b:Addr}(h:PartAt K H env σ i j a)(h':PartAt K H env σ i j b):a=b:=by
 obtain⟨k,ps,p,us,h1,h2,Y,Z⟩:=h;obtain⟨k',ps',p',c,I,U,V,D⟩:=h';rw[h1] at I;cases I;rw[h2] at U;cases U;rw[uv Y V.o] at D;rw[Z] at D;cases D;rfl
def zmt{f:Str}{u:V}(nd:fs.Nodup)(h1:fs[j]?=some f)(h2:us[j]?=some u):(fs.zip us).lookup f=some u:=by
 induction fs generalizing us j with
 | nil=>simp at h1
 | cons g r ih =>
   cases us with
   | nil=>simp at h2
   | cons w us =>
     rw[ie,cz];cases j with
     | zero=>simp at h1 h2;subst h1;subst h2;simp
     | succ j =>
       have D:(f==g)=false:=by simp;exact λz=>(cq.mp nd).1 (z ▸ bc h1)
       rw[D];exact ih (cq.mp nd).2 h1 (by simpa using h2)
variable{Nn Cn:c3}{cn:Str}
def zj0(c:Atr X.K cn m)(an:Ats Nn Cn X)(I:Nn[i]?=some x:=by rfl)(Y:fs[j]?=some m:=by rfl)(nd:fs.Nodup:=by decide +kernel)(Z:attributeBase (.Name x p') m X.env (eval (.Name x p') X.env)=eval (.Name x p') X.env:=by rfl):JPt X G H0 (.Attribute (.Name x p') m pos) (.at (.ins false cn fs)) i j:=let ⟨C,c,b,d⟩:=c;⟨(zyl ((an.a I).pe) Z).imp λσ H Q e=>by
  obtain⟨W,env,ds,ok,q,k⟩:=e;obtain⟨f,κ,ps,D,g⟩:=zq5 q;obtain⟨p,us,a,vs,h1,h2,U,h,n⟩:=ok.part D g;have o:κ=.ins false cn fs:=by
   rcases f with⟨l,ps',z⟩ | ⟨ps',z⟩ <;> (unfold agAt at D;rw[z] at D;cases D;rfl)
  subst o;obtain⟨s,dx,r,V,t⟩:=id h2;rw[Cl.inj r d] at V;exact⟨_,h1,p,C,dx,_,_,rfl,V,c,b,zmt nd Y U,k a vs ⟨_,ps,p,us,D,h1,h2,U⟩ h n⟩⟩
structure JK (X:Cx) (e:Expr) (z:Int):Prop where
 out:PE X e (tC (.int z))
variable{z:Int}
def zy3{D:Nat}:JK X (.Constant (.int z) D pos) z:=⟨zs2⟩
def zy4(h:JK X e z):JK X (.UnaryOp .USub e pos) (-z):=⟨(z2j zyj h.out).imp λσ H Q q=>⟨z,rfl,q⟩⟩
def pIx(A:Acc)(i j:Nat)(z:Int):FE:=λe=>(n9 A i j e).bind λds=>(atI ds z).map λd=>(d,e)
def zuv(h:JPt X G H0 e A i j)(D:JK X b z)(I:wn b:=by intro _ _;rfl):DEx X G H0 (.Subscript e b pos) (pIx A i j z) :=
 ⟨(zt ztl h.out D.out I).imp λσ H Q U=>by
  obtain⟨W,env,d,env',ok,q,k⟩:=U;unfold pIx at q;cases e1:n9 A i j env with
  | none=>rw[e1] at q;cases q
  | some ds =>
    rw[e1,ac] at q;cases e2:atI ds z with
    | none=>rw[e2] at q;cases q
    | some d' =>
      rw[e2] at q;cases q;refine⟨W,env,ds,ok,e1,λa vs _ V r=>?_⟩;obtain⟨v,Y,Z⟩:=wg r e2;exact⟨a,vs,z,v,rfl,rfl,.inl (.inl V),Y,k W v H Step.refl ok Z⟩⟩
def setP(e:DE0)(i j:Nat)(ds:g2):DE0:=match e[i]? with | some (some (.ag k l ps))=>e.set i (some (.ag k l (ps.set j (.o ds)))) | _=>e
def Ok.setP{K:gu}{W:Addr->Prop}{H:Hp}{env:DE0}{σ:St}{k:AK}{l:Option Nat}{ps:g4}{ds ds':g2}{a:Addr}{vs':g0}(ok:Ok K G H0 W env σ H)(e:env[i]?=some (some (.ag k l ps)))(I:ps[j]?=some (.o ds))(U:PartAt K H env σ i j a)(r:Reps K H (Ow G W) ds' vs') :
  Ok K G H0 W (L2.setP env i j ds') σ (upd H a (.lst vs'))/\Step W H W (upd H a (.lst vs')):=by
 obtain⟨k',ps',p,us,h1,h2,Y,Z⟩:=U;have:agAt env i=some (k,ps):=by unfold agAt;rw[e]
 rw[this] at h1;cases h1;unfold L2.setP;rw[e];exact ok.turnP e h2 Y I Z r
def labO(k:AK)(l:Option Nat):Prop:=l.isSome=true/\∀c fs,k≠.ins true c fs
instance (k:AK) (l:Option Nat):Decidable (labO k l):=Classical.propDecidable _
variable{l:Option Nat}
theorem zxe{W1:Addr->Prop}{H1:Hp}{U:DE0}{V:g4}{g:g2}(y:labO k l)(ok:Ok K G H0 W env σ H)(h:Ok K G H0 W1 U σ H1)(e:env[i]?=some (some (.ag k l ps)))(z:U[i]?=some (some (.ag k l V)))(A:ps[j]?=some (.o ds))(m:V[j]?=some (.o g))(B:rd V j=rd ps j)(C:PartAt K H env σ i j a):PartAt K H1 U σ i j a:=by
 obtain⟨r,rfl⟩:=xv.mp y.1;obtain⟨v,n,p,as,us,rfl,_,_,h1,E,F⟩:=ok.slot i _ e;obtain⟨N,d,p',Y,q,rfl,_,_,s,t,u⟩:=h.slot i _ z;rw[n] at d;cases d;have Z:=h1 r rfl;have I:=s r rfl;obtain⟨b,J,L⟩:=F.ix A;obtain⟨O,w,f⟩:=u.ix m;have M:PartAt K H env σ i j b:=⟨k,ps,p,us,by unfold agAt;rw[e],n,E,J⟩;have ab:=C.inj M;subst ab;have x:Y=as:=by
  cases k with
  | ls=>have Z:G.r r=p::as:=Z;have I:G.r r=p::Y:=I;rw[Z] at I;cases I;rfl
  | ins bb c fs =>
    cases bb with
    | true=>exact absurd rfl (y.2 c fs)
    | false=>have Z:G.r r=p::as:=Z;have I:G.r r=p::Y:=I;rw[Z] at I;cases I;rfl
 subst x;rw[B,L] at f;cases f;exact⟨k,V,p,q,by unfold agAt;rw[z],n,t,w⟩
instance (k k':AK):Decidable (k=k'):=Classical.propDecidable _
def appP(i j:Nat)(k0:AK)(I:Option Nat)(n:Nat)(d:D)(e:DE0):Option (D×DE0):=match e[i]? with
 | some (some (.ag k l ps))=>(match ps[j]? with | some (.o ds)=>if k=k0/\l=I/\rd ps j=n/\Few (ds.length+1) then some (.non,setP e i j (ds++[d])) else none | _=>none)
 | _=>none
def wt(A:Acc)(i j:Nat)(f:FE):FE:=λe=>match e[i]? with
 | some (some (.ag k l ps))=>if labO k l then(n9 A i j e).bind λ_=>(f e).bind λr=>appP i j k l (rd ps j) r.1 r.2 else none
 | _=>none
variable{a:Expr}{p1:Pos}
def zkr(h:JPt X G H0 e A i j)(t:DEx X G H0 a f)(I:attributeBase e "append" X.env (eval e X.env)=eval e X.env:=by rfl)(Z:((backTo pos (starEach [a] X.env)).all (λx=>!x.1) && (backToKw pos (keywordEach [] X.env)).all (λx=>x.1.isSome)
   && decide ([a].length+([]:List Keyword).length+(if ([]:List Keyword).isEmpty then 0 else 1)<30))=true:=by rfl)(U:(p1.endLine==pos.line)=true:=by rfl)(m:starEach [a] X.env=(false,eval a X.env)::starEach [] X.env:=by rfl) :
  DEx X G H0 (.Call (.Attribute e "append" p1) [a] [] pos) (wt A i j f):=⟨(wb fm kl kj zkd h.out (o8 t.out qg m) I Z U m rfl).imp λσ H Q u=>by
 obtain⟨W,env,d,env',ok,q,k⟩:=u;unfold wt at q;split at q;case h_2=>cases q
 rename_i kk ll v n;split at q;case isFalse=>cases q
 rename_i b;cases e1:n9 A i j env with
 | none=>rw[e1] at q;cases q
 | some ds =>
   rw[e1,ac] at q;cases e2:f env with
   | none=>rw[e2] at q;cases q
   | some r =>
     rw[e2,ac] at q;unfold appP at q;split at q;case h_2=>cases q
     rename_i k1 S w D;split at q;case h_2=>cases q
     rename_i y V;split at q;case isFalse=>cases q
     rename_i z;obtain⟨rfl,rfl,B,g⟩:=z;cases q;obtain⟨_,κ,ps,o,C⟩:=zq5 e1;have:agAt env i=some (k1,v):=by unfold agAt;rw[n]
     rw[this] at o;cases o;refine⟨W,env,ds,ok,e1,λad vs E F T=>⟨.inl ⟨rfl,_,.inl (.inl F)⟩,W,env,r.1,r.2,ok,e2,λW1 v1 H1 J Y K=>?_⟩⟩;have c:=zxe b ok Y n D C V B E;obtain⟨p,us,a1,l,L,M,N,O,s⟩:=Y.part (i:=i) (by unfold agAt;rw[D]) V;have:=c.inj ⟨_,_,p,us,by unfold agAt;rw[D],L,M,N⟩;subst this;obtain⟨P,R⟩:=Y.setP D V c (s.append (.cons K .nil));exact⟨ad,l,v1,rfl,rfl,O,by rw[<-s.length];exact lt20 (kc g),k W1 _ _ (J.trans R) P .non⟩⟩
abbrev FG:=DE0->Option (Ag×DE0)
def z4f(env:DE0)(σ:St)(H:Hp)(s:Sl)(v:V):Prop:=∀(j:Nat) (s':Sl) (D:V) (a:Addr),env[j]?=some (some s')->σ[j]?=some (some D)->Owns H s v a->¬Owns H s' D a
def tAG(X:Cx)(G:Gd)(H0:Hp)(f:FG):TE:=λσ H Q=>DP X.K G H0 f (λW env x env' =>
 ∀W' p H',Step W H W' H'->Ok X.K G H0 W' env' σ H'->SlOk X.K G W' H' (.ag x.1 none x.2) (.ref p)->z4f env' σ H' (.ag x.1 none x.2) (.ref p)->Q (.ref p) H') σ H
structure JAg (X:Cx) (G:Gd) (H0:Hp) (e:Expr) (f:FG):Prop where
 out:PE X e (tAG X G H0 f)
def zm(i:Nat)(f:FG):FS:=λe=>(f e).map λr=>(.nx,r.2.set i (some (.ag r.1.1 none r.1.2)))
variable{G':Gd}
def Ok.newA(ok:Ok K G H0 W env σ H)(sm:Same H H')(Z:∀a,W' a->H a=none)(B:∀a,W' a->∃m:Mo,H' a=some m.out)(C:∀a,G' a->Ow G W a\/H a=none){k':AK}{p:Addr}(t:∀us,AkOk K H' k p us->AkOk K H' k' p us)(h:SlOk K G' W' H' (.ag k l ps) (.ref p)) :
  Ok K G H0 (λa=>W a\/W' a) env σ H'/\Step W H (λa=>W a\/W' a) H'/\SlOk K G (λa=>W a\/W' a) H' (.ag k' none ps) (.ref p)/\z4f env σ H' (.ag k' none ps) (.ref p):=by
 have st:Step W H (λa=>W a\/W' a) H':=⟨λb o e _=>sm b o e,λa z=>z.imp id (Z a)⟩;have D:=ok.same sm;have c:Ok K G H0 (λa=>W a\/W' a) env σ H':=by
  refine⟨D.stay,ok.good,λa z=>?_,λi s e=>?_,D.uniq,ok.len⟩
  ·rcases z with z | z
   ·exact D.wl a z
   ·exact⟨ok.stay.free (Z a z),B a z⟩
  ·obtain⟨v,f,q⟩:=ok.slot i s e
   exact⟨v,f,ok.slstep st q λa m o g=>⟨.inl (q.owns o),sm _ _ g⟩⟩
 obtain⟨p',as,us,e,u,nd,L,I,U⟩:=h;cases e;have x:∀(a:Addr) (us:g0),Ow G' W' a->Rd H' a (.lst us)->Ow G (λa=>W a\/W' a) a/\Rd H' a (.lst us):=λa us o q=>⟨by
  rcases C a o.1 with z | z
  ·exact⟨z.1,λy=>y.elim z.2 o.2⟩
  ·exact⟨ok.good a (ok.stay.free z),λy=>y.elim (λw=>by obtain⟨_,m,q⟩:=ok.wl a w;rw[z] at q;cases q) o.2⟩,q⟩
 refine⟨c,st,⟨p,as,us,rfl,.inr u,nd,(λn z=>nomatch z),t us I,U.step (λa vs Y z=>⟨.inr (U.own Y).1,z⟩) (λd v r=>r.mono (λ_ _ h=>h) x) λd v r=>r.mono (λ_ _ h=>h) x⟩,λj s v a f g E F=>?_⟩;have J:W' a:=by
  rcases E with o | ⟨p',us',z,q,Y⟩
  ·cases o;exact u
  ·cases z
   rw[uv (t us I) q] at Y;exact(U.own (U.parts_iff.mp Y)).1
 obtain⟨M,A,q⟩:=D.slot j s f;rw[g] at A;cases A;obtain⟨_,m,z⟩:=ok.wl a (q.owns F);rw[Z a J] at z;cases z
variable{g:FG}{y:XF}
def zxg{y:Str}(tn:Tos Nn X)(h:JAg X G H0 e g)(D:Nn[i]?=some y:=by rfl)(U:swapsWith e (some (.Name y p')) pos.line X.env=pure false:=by rfl) :
  DSx X G H0 (.Assign [.Name y p'] e pos) (zm i g):=⟨(zs5 (tn.t D).nd (tn.t D).n (tn.t D).l h.out U (tn.t D).f).imp λDn σ H V=>by
 obtain⟨W,env,fl,env',ok,q,k⟩:=V;unfold zm at q;cases e1:g env with
 | none=>rw[e1] at q;cases q
 | some r =>
   rw[e1] at q;cases q;exact⟨W,env,r.1,r.2,ok,e1,λW1 p H1 Y I sl Z=>k W1 _ H1 Y (I.put sl Z)⟩⟩
variable{ps:c3}
def x8(c:Str)(m:g7->g2->g8)(F:FA):FG:=λe=>(F e).bind λr=>(m [(.ins true c [],[])] r.1).bind λq=>match q with
 | (.non,[(.ins true c' fs,ps)])=>some ((.ins false c' fs,ps),r.2)
 | _=>none
def zux{D dx:Addr}(ok:Ok K G H0 W env σ H)(Y:Cl K cn C)(h1:H D=none)(h2:H dx=none)(j:dx≠D)(r:Reps K H (Ow G W) ds vs) :
  Same H (upd (upd H dx (.own D)) D (.ins C dx [])) /\
  Ok K ⟨Ow G W,λ_=>[D]⟩ (mask (upd (upd H dx (.own D)) D (.ins C dx [])) (λb=>b=D)) (λb=>b=D) (ni [(.ins true cn [],[])]) [some (.ref D)] (upd (upd H dx (.own D)) D (.ins C dx [])) /\
  Reps K (upd (upd H dx (.own D)) D (.ins C dx [])) (Ow ⟨Ow G W,λ_=>[D]⟩ (λb=>b=D)) ds vs:=by
 have sm:Same H (upd (upd H dx (.own D)) D (.ins C dx [])):=λb o e=>by rw[gi (m6 e h1),gi (m6 e h2)];exact e
 have U:∀a,H a=none->Ow G W a:=λa z=>⟨ok.good a (ok.stay.free z),λw=>by obtain⟨_,m,q⟩:=ok.wl a w;rw[z] at q;cases q⟩;refine⟨sm,⟨λa o e=>(zoj e).2,λa e=>?_,λa e=>⟨zmp e,.i C dx [],by rw[show a=D from e,li]⟩,λI s e=>?_,λI Z s s' v k b c d l p t x=>?_,rfl⟩,?_⟩
 ·rcases zok e with z | z
  ·rw[show a=D from z];exact U D h1
  ·refine U a ?_
   by_cases y:a=D
   ·rw[y];exact h1
   ·rw[gi y] at z
    by_cases V:a=dx
    ·rw[V];exact h2
    ·rwa [gi V] at z
 ·obtain⟨A,q,rfl⟩:=zjz e
  cases I with
  | zero =>
    simp at q;subst q;exact⟨.ref D,rfl,D,[],[],rfl,rfl,by simp,λn _=>rfl,⟨C,dx,Y,li,rfl⟩,.nil⟩
  | succ n=>simp at q
 ·obtain⟨_,f,_⟩:=zjz c
  obtain⟨_,g,_⟩:=zjz d;cases I with
  | zero=>cases Z with
    | zero=>rfl
    | succ n=>simp at g
  | succ n=>simp at f
 ·refine r.mono (λa u z=>sm _ _ z) λa us o h=>⟨⟨o,λz=>?_⟩,h.keep λo z=>sm _ _ z⟩
  rw[show a=D from z] at h;rcases h with h | ⟨_,h⟩ <;> (have h2:=h1.symm.trans h;cases h2)
variable{k:Nat}
def zxh{m:g7->g2->g8}(c:KCal X.prog X.w X.K X.mg X.base x k (lSp X.K m xx))(Z:Room jr X.A)(t:DAx X G H0 (e::es) F)(d:k+1<=jr:=by decide)(u:Gl X x:=by walk_at "g")(B:starEach (e::es) X.env=(false,eval e X.env)::starEach es X.env:=by rfl)(f:(backTo pos (starEach es X.env)).any (·.1)=false:=by rfl) :
  JAg X G H0 (.Call (.Name x p') (e::es) [] pos) (x8 x m F):=let ⟨_,_,_,_,M,C,E,J,L,g⟩:=c;⟨(zxa M C (Z.mono d) u E J t.out g B f).imp λσ H Q N=>by
 obtain⟨W,env,y,env',ok,q,k⟩:=N;unfold x8 at q;cases e1:F env with
 | none=>rw[e1] at q;cases q
 | some r =>
   rw[e1,ac] at q;cases e2:m [(.ins true x [],[])] r.1 with
   | none=>rw[e2] at q;cases q
   | some z =>
     rw[e2,ac] at q;split at q;case h_2=>cases q
     rename_i n U ps';cases q;refine⟨W,env,r.1,r.2,ok,e1,λW1 vs H1 O V P I dx h1 h2 R=>?_⟩;obtain⟨sm,h,Z⟩:=zux V L h1 h2 R P;refine⟨_,_,_,_,[.ref I],r.1,vs,rfl,rfl,h,Z,.inl ⟨_,_,e2,λW' en σ' v H' st Y S T=>⟨T.non_,?_⟩⟩⟩;have hs:=S 0 _ rfl;obtain⟨v',z1,s⟩:=Y.slot 0 _ hs;have ev:v'=.ref I:=by
      obtain⟨p,as,us,rfl,_,_,i,_⟩:=s;have i:([I]:fh)=[p]:=i 0 rfl;cases i;rfl
     subst ev;have j:Same H1 H':=λb o z=>st.keep b o (sm b o z) λy=>by rw[show b=I from y,h1] at z;cases z
     have hn:∀a,W' a->H1 a=none:=λa z=>by
      rcases st.ws a z with y | y
      ·rw[show a=I from y];exact h1
      ·cases q:H1 a with
       | none=>rfl
       | some o=>rw[sm a o q] at y;cases y
     obtain⟨w1,w2,w3,w4⟩:=V.newA (G':=⟨Ow G W1,λ_=>[I]⟩) (k:=.ins true n U) (l:=some 0) (ps:=ps') (p:=I) (k':=.ins false n U) j hn (λa z=>(Y.wl a z).2) (λa z=>.inl z) (λus z=>z) s;exact k _ I H' (O.trans w2) w1 w3 w4⟩
mutual
def noL:D->Bool
 | .lst _=>false
 | .dct _ _=>false
 | .tup ds=>noLs ds
 | _=>true
def noLs:g2->Bool
 | []=>true
 | d::r=>noL d && noLs r
end
def Rep.noL{d:D}{v:V}:Rep K H O d v->L2.noL d=true->Rep K H O' d v :=
 Rep.rec (motive_1:=λd v _=>L2.noL d=true->Rep K H O' d v) (motive_2:=λds vs _=>L2.noLs ds=true->Reps K H O' ds vs) (λ_=>.non) (λb _=>.bl b) (λb _=>.int b) (λb _=>.str b) (λh _ q e=>.tup h (q (by rw[L2.noL] at e;exact e))) (λ_ _ _ _ e=>by rw[L2.noL] at e;cases e) (λ_ _ _ e=>by rw[L2.noL] at e;cases e) (λ_ _ _ e=>by rw[L2.noL] at e;cases e) (λa _=>.exc a) (λ_=>.nil) λ_ _ p q e=>by rw[L2.noLs,fq] at e;exact .cons (p e.1) (q e.2)
def Reps.noLs{ds:g2}{vs:g0}:Reps K H O ds vs->L2.noLs ds=true->Reps K H O' ds vs :=
 Reps.ind (P:=λds vs=>L2.noLs ds=true->Reps K H O' ds vs) (λ_=>.nil) λr _ q e=>by rw[L2.noLs,fq] at e;exact .cons (r.noL e.1) (q e.2)
def ptD:Pt->D | .d d=>d | .o ds=>.lst ds
def rc(r:Nat):DE0->Option g4
 | []=>none
 | some (.ag .ls (some r') ps)::e=>if r'=r then some ps else rc r e
 | _::e=>rc r e
def tu:g4->Nat->Option g2
 | .o ds::_,0=>some ds
 | .o _::r,j+1=>tu r j
 | .d _::r,j=>tu r j
 | [],_=>none
def zl(b:Bool)(ps:g4):g4:=if b=true then ps.map λp=>.d (ptD p) else ps
def frz1(b:Bool)(env:DE0):g5->g5
 | some (.sh d)=>some (.sh d)
 | some (.ow ds)=>some (.sh (.lst ds))
 | some (.o2 dss)=>some (.sh (.lst (dss.map D.lst)))
 | some (.ag .ls _ ps)=>some (.sh (.lst (ps.map ptD)))
 | some (.ag k _ ps)=>some (.ro k (zl b ps))
 | some (.ro .ls ps)=>some (.sh (.lst (ps.map ptD)))
 | some (.ro k ps)=>some (.ro k (zl b ps))
 | some (.al r j)=>(rc r env).bind λps=>(tu ps j).map λds=>.sh (.lst ds)
 | none=>none
def frz(b:Bool)(env:DE0):DE0:=env.map (frz1 b env)
def AllG(r:Nat->fh):Gd:=⟨λ_=>True,r⟩
def zi5{r:Nat}{ps:g4}:∀ {env:DE0},rc r env=some ps->∃i:Nat,env[i]?=some (some (Sl.ag AK.ls (some r) ps))
 | x::e,h=>by
   unfold rc at h;split at h
   ·rename_i D;cases D
   ·rename_i U ps' e' q
    cases q;split at h
    ·rename_i I;cases h;subst I;exact⟨0,rfl⟩
    ·obtain⟨i,z⟩:=zi5 h;exact⟨i+1,by simpa using z⟩
   ·rename_i q
    cases q;obtain⟨i,z⟩:=zi5 h;exact⟨i+1,by simpa using z⟩
variable{a:Addr}{ps:g4}
def zxj(h:PtsOk K G W H ps as us)(e:tu ps j=some ds)(D:as[j]?=some a):∃vs,H a=some (.lst vs)/\Reps K H (Ow G W) ds vs:=by
 induction h generalizing j with
 | nil=>cases e
 | d _ _ ih=>exact ih e D
 | o hW hl r _ ih =>
   cases j with
   | zero=>cases e;simp at D;subst D;exact⟨_,hl,r⟩
   | succ j=>exact ih (j:=j) e (by simpa using D)
def PtsRo.all(h:PtsRo K G W H ps us)(D:∀a,O a):Reps K H O (ps.map ptD) us:=by
 induction h with
 | nil=>exact .nil
 | d r _ ih=>exact .cons ((nh λa _=>D a).1 _ _ r) ih
 | o _ hl r _ ih=>exact .cons (.lst (D _) (.inl hl) ((nh λa _=>D a).2 _ _ r)) ih
def PtsRo.roG(h:PtsRo K G W H ps us)(D:∀a,Ow G W a->Ow G' NoW a):PtsRo K G' NoW H ps us :=
 h.step (λa vs _ z=>⟨λz=>z,z⟩) (λd v q=>(nh D).1 d v q) λd v q=>(nh D).2 d v q
def PtsOk.toRo(h:PtsOk K G W H ps as us)(D:∀a,Ow G W a->Ow G' NoW a):PtsRo K G' NoW H ps us :=
 PtsRo.roG (W:=NoW) (G:=gd (Ow G W)) h.ro λa z=>D a z.1
def PtsRo.dat(h:PtsRo K G W H ps us)(D:∀a,Ow G W a):PtsRo K G W H (ps.map λp=>.d (ptD p)) us:=by
 induction h with
 | nil=>exact .nil
 | d r _ ih=>exact .d r ih
 | o _ hl r _ ih=>exact .d (.lst (D _) (.inl hl) r) ih
def PtsRo.roB(b:Bool)(h:PtsRo K G W H ps us)(D:∀a,Ow G W a):PtsRo K G W H (zl b ps) us:=by
 unfold zl;split
 ·exact h.dat D
 ·exact h
def Ok.freeze(b:Bool)(ok:Ok K G H0 W env σ H):Ok K (AllG G.r) H NoW (frz b env) σ H:=by
 have Y:∀a,Ow G W a->Ow (AllG G.r) NoW a:=λa _=>⟨trivial,λz=>z⟩;have all:∀a,Ow (AllG G.r) NoW a:=λa=>⟨trivial,λz=>z⟩;have Z:∀(i:Nat) (s:Sl),(frz b env)[i]?=some (some s)->∃I,env[i]?=some (some I)/\frz1 b env (some I)=some s:=λi s e=>by
  unfold frz at e;rw[az] at e;cases q:env[i]? with
  | none=>rw[q] at e;cases e
  | some o =>
    rw[q] at e;cases o with
    | none=>cases e
    | some I=>exact⟨I,rfl,by simpa using e⟩
 refine⟨Same.refl _,λa _=>trivial,λl z=>z.elim,λi s e=>?_,λi j s s' v A a D _ F _ o _=>?_,by unfold frz;rw[ae];exact ok.len⟩
 ·obtain⟨I,x,D⟩:=Z i s e
  obtain⟨v,B,h⟩:=ok.slot i I x;refine⟨v,B,?_⟩;cases I with
  | sh d=>cases D;exact(nh Y).1 _ _ h
  | ow ds=>cases D;obtain⟨l,vs,rfl,m,U,r⟩:=h;exact .lst (all l) (.inl U) ((nh Y).2 _ _ r)
  | o2 dss =>
    cases D;obtain⟨l,ls,rfl,m,U,nd,hi⟩:=h;exact .lst (all l) (.inl U) (zl8 (W':=NoW) (G:=AllG G.r) (W:=W) ⟨hi.1,λj ds a g n=>let ⟨t,vs,u,C⟩:=hi.2 j ds a g n;⟨t,vs,u,(nh λb z=>⟨trivial,z.2⟩).2 _ _ C⟩⟩ (λa _ _=>all a) λds vs r=>(nh λb _=>all b).2 _ _ r)
  | ag k l ps =>
    obtain⟨p,as,us,rfl,m,nd,U,f,V⟩:=h;cases k with
    | ls=>cases D;exact .lst (all p) (.inl f) ((V.toRo Y).all all)
    | ins _ c fs=>cases D;exact⟨p,us,rfl,λz=>z,f,(V.toRo Y).roB b all⟩
  | ro k ps =>
    obtain⟨p,us,rfl,m,f,V⟩:=h;cases k with
    | ls=>cases D;exact .lst (all p) (.inl f) (V.all all)
    | ins _ c fs=>cases D;exact⟨p,us,rfl,λz=>z,f,(V.roG Y).roB b all⟩
  | al r j =>
    have D:((rc r env).bind λps=>(tu ps j).map λds=>Sl.sh (.lst ds))=some s:=D;cases q1:rc r env with
    | none=>rw[q1] at D;cases D
    | some ps =>
      rw[q1,ac] at D;cases q2:tu ps j with
      | none=>rw[q2] at D;cases D
      | some ds =>
        rw[q2] at D;cases D;obtain⟨p,as,a,g,n,rfl⟩:=h;obtain⟨E,y⟩:=zi5 q1;obtain⟨A,J,p',w,us,rfl,_,_,U,_,V⟩:=ok.slot E _ y;have U:G.r r=p'::w:=U r rfl;rw[U] at g;cases g;obtain⟨vs,t,u⟩:=zxj V q2 n;exact .lst (all a) (.inl t) ((nh Y).2 _ _ u)
 ·obtain⟨I,x,D⟩:=Z i s D
  cases I with
  | sh d=>cases D;exact o.elim
  | ow d=>cases D;exact o.elim
  | o2 d=>cases D;exact o.elim
  | ag k l ps=>cases k <;> (cases D;exact o.elim)
  | ro k ps=>cases k <;> (cases D;exact o.elim)
  | al r j =>
    have D:((rc r env).bind λps=>(tu ps j).map λds=>Sl.sh (.lst ds))=some s:=D;cases q1:rc r env with
    | none=>rw[q1] at D;cases D
    | some ps =>
      rw[q1,ac] at D;cases q2:tu ps j with
      | none=>rw[q2] at D;cases D
      | some ds=>rw[q2] at D;cases D;exact o.elim
def Step.noW(s:Step NoW H W' H'):Same H H':=λb o e=>s.keep b o e λz=>z
def fFrz(b:Bool)(f:FE):FE:=λe=>(f (frz b e)).bind λr=>if noL r.1=true then some (r.1,e) else none
def oz(b:Bool)(f:FA):FA:=λe=>(f (frz b e)).bind λr=>if noLs r.1=true then some (r.1,e) else none
def xFrz(b:Bool)(x:XF):XF:=λe=>(x (frz b e)).map λr=>(r.1,e)
variable{b:Bool}
def wq(h:∀G H0,DEx X G H0 e f):DEx X G H0 e (fFrz b f):=⟨λpins s σ H Q I D=>by
 obtain⟨W,env,d,env',ok,q,k⟩:=D;unfold fFrz at q;cases e1:f (frz b env) with
 | none=>rw[e1] at q;cases q
 | some r =>
   rw[e1,ac] at q;split at q;case isFalse=>cases q
   rename_i U;cases q;refine(h (AllG G.r) H).out pins s σ H Q I ⟨NoW,frz b env,r.1,r.2,ok.freeze b,e1,λW' v H' st V Y=>?_⟩;exact k W v H' (Step.same st.noW) (ok.same st.noW) (Y.noL U)⟩
def z0z(h:∀G H0,DFx X G H0 e F):DFx X G H0 e (oz b F):=⟨λpins s σ H Q I V=>by
 obtain⟨W,env,d,env',ok,q,k⟩:=V;unfold oz at q;cases e1:F (frz b env) with
 | none=>rw[e1] at q;cases q
 | some r =>
   rw[e1,ac] at q;split at q;case isFalse=>cases q
   rename_i Y;cases q;refine(h (AllG G.r) H).out pins s σ H Q I ⟨NoW,frz b env,r.1,r.2,ok.freeze b,e1,λW' l vs H' st Z a j U c=>?_⟩;have D:H l=none:=(st.ws l (.inr rfl)).elim (λz=>z.elim) id;obtain⟨f,m,g,i⟩:=ok.fresh0 (H':=H') st.noW D U;exact k W l vs H' i (ok.same st.noW) g f U (c.noLs Y)⟩
def z4g(h:∀G H0,JX X G H0 e y):JX X G H0 e (xFrz b y):=⟨λpins s σ H Q I D=>by
 obtain⟨W,env,c,env',ok,q,k⟩:=D;unfold xFrz at q;cases e1:y (frz b env) with
 | none=>rw[e1] at q;cases q
 | some r =>
   rw[e1] at q;cases q;exact(h (AllG G.r) H).out pins s σ H Q I ⟨NoW,frz b env,r.1,r.2,ok.freeze b,e1,λW' H' C U st V=>k W H' C U (Step.same st.noW) (ok.same st.noW)⟩⟩
def frs1:g5->g5
 | some (.sh d)=>some (.sh d)
 | some (.ag k _ ps)=>some (.ro k ps)
 | some (.ro k ps)=>some (.ro k ps)
 | _=>none
def frsE(env:DE0):DE0:=env.map frs1
def OwG(G:Gd)(W:Addr->Prop)(H:Hp):Gd:=⟨λa=>Ow G W a\/H a=none,G.r⟩
def PtsOk.length(h:PtsOk K G W H ps as us):ps.length=us.length:=by
 induction h with
 | nil=>rfl
 | d _ _ ih=>rw[aw,aw,ih]
 | o _ _ _ _ ih=>rw[aw,aw,ih]
abbrev FP:=DE0->Option g4
def tPs(X:Cx)(G:Gd)(H0:Hp)(f:FP):TA:=λσ H Q=>∃W env ps,Ok X.K G H0 W env σ H/\f env=some ps /\
 ∀as us H',Same H H'->as.Nodup->(∀a∈as,H a=none)->PtsOk X.K (OwG G W H) (λa=>a∈as) H' ps as us->Q us H'
structure JPs (X:Cx) (G:Gd) (H0:Hp) (es:gp) (f:FP):Prop where
 out:PA X es (tPs X G H0 f)
def ue(κ:AK)(i j:Nat):FE:=λe=>if isK κ e i then(agAt e i).bind λx=>(match x.2[j]? with | some (.d d)=>some (d,e) | _=>none) else none
def zmv(c:Atr X.K cn m)(an:Ats Nn Cn X)(U:Nn[i]?=some x:=by rfl)(Z:fs[j]?=some m:=by rfl)(nd:fs.Nodup:=by decide +kernel)(f:attributeBase (.Name x p') m X.env (eval (.Name x p') X.env)=eval (.Name x p') X.env:=by rfl):DEx X G H0 (.Attribute (.Name x p') m pos) (ue (.ins false cn fs) i j):=let ⟨C,c,b,e⟩:=c;⟨(zyl ((an.a U).pe) f).imp λσ H Q g=>by
  obtain⟨W,env,d,env',ok,q,k⟩:=g;unfold ue at q;split at q;case isFalse=>cases q
  rename_i h;cases D:agAt env i with
  | none=>rw[D] at q;cases q
  | some y =>
    rw[D,ac] at q;split at q;case h_2=>cases q
    rename_i d' hd;cases q;rcases h with⟨l,ps',z⟩ | ⟨ps',z⟩
    ·have D:some (AK.ins false cn fs,ps')=some y:=by unfold agAt at D;rw[z] at D;exact D
     cases D;obtain⟨v,D,p,as,us,rfl,_,_,_,⟨n,dx,V,I,o⟩,Y⟩:=ok.slot i _ z;rw[Cl.inj V e] at I;obtain⟨u,h1,h2⟩:=Y.getD hd;exact⟨_,D,p,C,dx,_,u,rfl,I,c,b,zmt nd Z h1,k W u H Step.refl ok h2⟩
    ·have D:some (AK.ins false cn fs,ps')=some y:=by unfold agAt at D;rw[z] at D;exact D
     cases D;obtain⟨v,D,p,us,rfl,_,⟨n,dx,V,I,o⟩,Y⟩:=ok.slot i _ z;rw[Cl.inj V e] at I;obtain⟨u,h1,h2⟩:=Y.getD hd;exact⟨_,D,p,C,dx,_,u,rfl,I,c,b,zmt nd Z h1,k W u H Step.refl ok h2⟩⟩
variable{l:Addr}
def Ok.chgN(ok:Ok K G H0 W env σ H){s s':Sl}(U:Mo)(e:env[i]?=some (some s))(Y:σ[i]?=some (some v))(B:Owns H s v a)(E:SlOk K G W (upd H a U.out) s' v)(C:∀(j:Nat) (s:Sl) (v:V),env[j]?=some (some s)->σ[j]?=some (some v)->¬Owns H s v l)(w:∀b,Owns (upd H a U.out) s' v b->Owns H s v b\/b=l):Ok K G H0 W (env.set i (some s')) σ (upd H a U.out)/\Step W H W (upd H a U.out):=by
 have m:W a:=by obtain⟨F,r,h⟩:=ok.slot i s e;rw[Y] at r;cases r;exact h.owns B
 have st:Step W H W (upd H a U.out):=⟨λb o q n=>by rw[gi (λz:b=a=>n (by rw[z];exact m))];exact q,λb z=>.inl z⟩;have y:∀ {j:Nat} {sl:Sl} {u:V} {b:Addr},i≠j->env[j]?=some (some sl)->σ[j]?=some (some u)->Owns H sl u b->b≠a:=λ{j sl u b} hj q Z o z=>by
  subst z;exact hj (ok.uniq i j s sl v u b e q Y Z B o)
 have bk:∀ {j:Nat} {sl:Sl} {u:V} {b:Addr},i≠j->env[j]?=some (some sl)->σ[j]?=some (some u)->Owns (upd H a U.out) sl u b->Owns H sl u b:=λ{j sl u b} hj q Z o=>by
  obtain⟨J,f,h⟩:=ok.slot j sl q;rw[Z] at f;cases f;cases sl with
  | sh d=>exact o.elim
  | ow ds=>exact o
  | o2 dss=>exact h.back (λl D _ vs I=>by rw[gi (y hj q Z (.inl D))];exact I) o
  | ag k p ps=>exact h.back (λl D _ vs I=>by rw[gi (y hj q Z (.inl D))];exact I) o
  | al _ _=>exact o.elim
  | ro _ _=>exact o.elim
 refine⟨⟨λb o q=>?_,ok.good,λb z=>?_,λj sl q=>?_,λj k A s2 v1 v2 b Z f D I g o2=>?_,by rw[du,ok.len]⟩,st⟩
 ·rw[gi (λz=>by rw[z,(ok.wl a m).1] at q;cases q)];exact ok.stay b o q
 ·obtain⟨q,us,w⟩:=ok.wl b z
  by_cases h:b=a
  ·exact⟨q,U,by rw[h,li]⟩
  ·exact⟨q,us,by rw[gi h];exact w⟩
 ·rcases oj q with⟨rfl,x,_⟩ | ⟨hj,x⟩
  ·cases x
   exact⟨v,Y,E⟩
  ·obtain⟨u,r,h⟩:=ok.slot j sl x
   exact⟨u,r,ok.slstep st h λb vs o f=>⟨h.owns o,by rw[gi (y hj x r o)];exact f⟩⟩
 ·rcases oj Z with⟨a1,b1,_⟩ | ⟨a1,b1⟩ <;> rcases oj f with⟨t,c,_⟩ | ⟨t,c⟩
  ·rw[<-a1,<-t]
  ·subst a1;cases b1
   rw[Y] at D;cases D;have o2:=bk t c I o2;rcases w b g with z | z
   ·exact ok.uniq i k s s2 v v2 b e c Y I z o2
   ·subst z;exact absurd o2 (C k s2 v2 c I)
  ·subst t;cases c
   rw[Y] at I;cases I;have g:=bk a1 b1 D g;rcases w b o2 with z | z
   ·exact ok.uniq j i A s v1 v b b1 e D Y g z
   ·subst z;exact absurd g (C j A v1 b1 D)
  ·exact ok.uniq j k A s2 v1 v2 b b1 c D I (bk a1 b1 D g) (bk t c I o2)
def PtsOk.snoc(h:PtsOk K G W H ps as us)(D:W l)(I:H l=some (.lst vs))(r:Reps K H (Ow G W) ds vs):PtsOk K G W H (ps++[.o ds]) (as++[l]) (us++[.ref l]):=by
 induction h with
 | nil=>exact .o D I r .nil
 | d q _ ih=>exact .d q ih
 | o a b c _ ih=>exact .o a b c ih
def zq6{f:Str}{v:V}:∀ {fs:c3} {us:g0},f∉fs->fs.length=us.length->putF f v (fs.zip us)=(fs++[f]).zip (us++[v])
 | [],[],_,_=>rfl
 | g::fs,u::us,hf,hl=>by
   have:g≠f:=λz=>hf (by simp[z]);rw[ie,jt,jt,ie];show(if g=f then(g,v)::fs.zip us else(g,u)::putF f v (fs.zip us))=_;rw[if_neg this,zq6 (λz=>hf (by simp[z])) (by simpa using hl)]
def x6(i:Nat)(cn f:Str)(F:FA):FS:=λe=>(F e).bind λr=>match r.2[i]? with
 | some (some (.ag (.ins true c fs) l ps))=>if c=cn/\f∉fs/\fs.length<900 then some (.nx,r.2.set i (some (.ag (.ins true c (fs++[f])) l (ps++[.o r.1])))) else none
 | _=>none
variable{value:Expr}
theorem zq7(T:Atr X.K cn m)(an:Ats Nn Cn X)(he:DFx X G H0 value F)(f:Nn[i]?=some x:=by rfl)(hs:swapsWith value (some (.Attribute (.Name x p') m p1)) pos.line X.env=pure false:=by rfl) :
  DSx X G H0 (.Assign [.Attribute (.Name x p') m p1] value pos) (x6 i cn m F):=let ⟨C,c,hn,g⟩:=T;⟨(z2s ((an.a f).pe) he.out hs).imp λDn σ H zq=>by
 obtain⟨W,env,fl,env',ok,q,k⟩:=zq;unfold x6 at q;cases e1:F env with
 | none=>rw[e1] at q;cases q
 | some r =>
   rw[e1,ac] at q;split at q;case h_2=>cases q
   rename_i L fs l ps t;split at q;case isFalse=>cases q
   rename_i u;obtain⟨rfl,hf,M⟩:=u;cases q;refine⟨W,env,r.1,r.2,ok,e1,λW1 ad vs H1 s1 Y D N O rp=>?_⟩;obtain⟨v,A,p,as,us,rfl,P,nd,hr,⟨C',dx,z1,I,d⟩,U⟩:=D.slot i _ t;rw[Cl.inj z1 g] at I;have Q:p≠ad:=λz=>by rw[z,O] at I;cases I
   have na:ad∉as:=λz=>by
    obtain⟨v',e,h⟩:=Y.slot i _ t;rw[A] at e;cases e;exact N (h.owns (.inr ⟨p,us,rfl,⟨d,C,dx,I⟩,U.parts_iff.mpr z⟩))
   refine⟨_,A,p,C,dx,fs.zip us,rfl,I,c,hn,?_,?_⟩
   ·rw[qz];lia
   ·have st:Step (addW W1 ad) H1 (addW W1 ad) (upd H1 p (.ins C dx ((fs++[m]).zip (us++[.ref ad])))):=⟨λb o q n=>by rw[gi (λz:b=p=>n (by rw[z];exact P))];exact q,λb z=>.inl z⟩
    have B:upd H1 p (.ins C dx ((fs++[m]).zip (us++[.ref ad]))) ad=some (.lst vs):=by rw[gi (Ne.symm Q)];exact O
    have E:PtsOk X.K G (addW W1 ad) (upd H1 p (.ins C dx ((fs++[m]).zip (us++[.ref ad])))) ps as us:=U.step (λb ws R z=>⟨(U.own R).1,by rw[gi (λy:b=p=>by subst y;exact(cq.mp nd).1 R)];exact z⟩) (λ_ _ r=>D.rep st r) λ_ _ r=>D.reps st r;have Z:(fs++[m]).length=(us++[V.ref ad]).length:=by rw[aj,aj,d];rfl
    obtain⟨w1,w2⟩:=D.chgN (l:=ad) (s':=.ag (.ins true L (fs++[m])) l (ps++[.o r.1])) (.i C dx ((fs++[m]).zip (us++[.ref ad]))) t A (.inl rfl)
     ⟨p,as++[ad],us++[.ref ad],rfl,P,by
      rw[cq] at nd ⊢;refine⟨λz=>?_,ke.mpr ⟨nd.2,by simp,λy hy z u=>?_⟩⟩
      ·rcases de.mp z with z | z
       ·exact nd.1 z
       ·exact Q (cj.mp z)
      ·rw[cj.mp u];exact λw=>na (w ▸ hy),hr,⟨C,dx,g,li,Z⟩,E.snoc (.inr rfl) B (D.reps st rp)⟩
     (λj s v e e4=>Y.noOwn N j s v e e4) λb J=>by
       rcases J with J | ⟨p',us',z,y,j,ds,h1,h2⟩
       ·exact .inl (.inl J)
       ·cases z
        have ey:us'=us++[.ref ad]:=uv (K:=X.K) (k:=.ins true L (fs++[m])) (us:=us++[.ref ad]) ⟨C,dx,g,li,Z⟩ y;rw[ey] at h2;by_cases S:j<ps.length
        ·rw[bf S] at h1
         rw[bf (by rw[<-U.length];exact S)] at h2;exact .inl (.inr ⟨p,us,rfl,⟨d,C,dx,I⟩,j,ds,h1,h2⟩)
        ·rw[ci (by rw[<-U.length];lia),<-U.length] at h2
         cases hjj:j-ps.length with
         | zero=>rw[hjj] at h2;simp at h2;exact .inr h2.symm
         | succ n=>rw[hjj] at h2;simp at h2
    rw[zq6 hf d];exact k _ σ _ (s1.trans w2) w1⟩
end L2
namespace L2
open PySem
abbrev lz:c3:=["kept", "states"]
end L2
namespace L2
open PySem PySem.Spec PyProof.Rows
def vn(i:Nat)(g:FE)(F:FA):FS:=λe=>(F e).bind λr=>match r.2[i]? with
 | some (some (.o2 dss))=>(g (frsE r.2)).bind λq=>(match q.1 with | .int k=>(ixN dss.length k).map λj=>(.nx,r.2.set i (some (.o2 (dss.set j r.1)))) | _=>none)
 | _=>none
def zy5(i:Nat)(g h f:FE):FS:=λe=>(f e).bind λr=>match r.2[i]? with
 | some (some (.o2 dss))=>(g (frsE r.2)).bind λq=>(h (frsE r.2)).bind λp=>(match q.1,p.1 with
   | .int k,.int m=>(ixN dss.length k).bind λj=>(dss[j]?).bind λds=>(ixN ds.length m).map λn=>(.nx,r.2.set i (some (.o2 (dss.set j (ds.set n r.1)))))
   | _,_=>none)
 | _=>none
end L2
namespace L2
open PySem PySem.Spec PyProof.Rows PySem.F
end L2
namespace L2
open PySem PySem.Spec PyProof.Rows
def celN(N:c3)(sc:Scope):c3:=N.filter λu=>sc.names.lookup u==some .cell
def scB(N ps:c3)(sc:Scope):Bool:=decide (sc.kind=.function) && !sc.isCoroutine && !sc.isGenerator && decide N.Nodup && decide (N.take ps.length=ps) && decide (∀y∈sc.names,y.2≠.free) && N.all λx=>okN x && (sc.names.lookup x==some .local || sc.names.lookup x==some .cell)
variable{N ps:c3}{sc:Scope}
def qc(h:scB N ps sc=true):sg N ps sc/\∀x∈N,Loc sc x/\(x==("__debug__" : Str))=false/\(x==("__classdict__" : Str))=false:=by
 unfold scB at h;simp only[fq,decide_eq_true_eq,kg,gn] at h;obtain⟨⟨⟨⟨⟨⟨h1,h2⟩,V⟩,Y⟩,I⟩,Z⟩,c⟩:=h;have U:∀x∈N,Loc sc x/\(x==("__debug__" : Str))=false/\(x==("__classdict__" : Str))=false:=λx D=>by
  obtain⟨a,b⟩:=c x D;have a:=qf a;rcases Bool.or_eq_true _ _ ▸ b with b | b
  ·exact⟨.inl (nc b),a⟩
  ·exact⟨.inr (nc b),a⟩
 exact⟨⟨h1,h2,V,Y,I,λx D=>(U x (by rw[<-I] at D;exact List.mem_of_mem_take D)).1,Z⟩,U⟩
variable{P:Program}{w:World}{K:gu}{mg:Str->fg}{base:Heap}{CX:CXT}{qual:Str}{f:Addr}{cdv:Value}{A:Around}{outer:gj}{s:Shared}{H:Hp}{E:XK}
def uq(h:scB N ps sc=true):Ats N (celN N sc) (cxOf CX P w K mg base N qual sc f cdv A outer s H E) :=
 ⟨rfl,λi x e=>let z:=(qc h).2 x (bc e);⟨e,z.1.elim .inl λq=>.inr (.inl q),z.2.1,z.2.2⟩,λu D=>by
  obtain⟨_,h2⟩:=fj.mp D;exact .inl (nc h2)⟩
def uo(h:scB N ps sc=true):Tos N (cxOf CX P w K mg base N qual sc f cdv A outer s H E) :=
 ⟨λi x e=>⟨(qc h).1.nd,e,((qc h).2 x (bc e)).1,.inl rfl⟩⟩
variable{X:Cx}{i:Nat}{x:Str}{pos:Pos}
def Tos.pg(t:Tos N X)(h:N[i]?=some x:=by rfl):PG X (.Name x pos) (ng i):=zs4 (t.t h).nd (t.t h).n (t.t h).l (t.t h).f
variable{G:Gd}{H0:Hp}{e:Expr}{p':Pos}{F:FA}
def Tos.psF(t:Tos N X)(D:DFx X G H0 e F)(h:N[i]?=some x:=by rfl)(I:swapsWith e (some (.Name x p')) pos.line X.env=pure false:=by rfl):PS X (.Assign [.Name x p'] e pos) (tAsg (tDF X.K G H0 F) (ng i)):=zs5 (t.t h).nd (t.t h).n (t.t h).l D.out I (t.t h).f
variable{P:fe->Prop}
def us0(h:P [])(us:fe)(e:us.length=0):P us:=List.eq_nil_of_length_eq_zero e ▸ h
variable{n:Nat}
def usn(h:∀a,∀us:fe,us.length=n->P (a::us))(us:fe)(e:us.length=n+1):P us:=by
 cases us with
 | nil=>cases e
 | cons a us=>exact h a us (lg e)
def us1(h:∀a,P [a]):∀us,us.length=1->P us:=usn λa=>us0 (h a)
def us2(h:∀a b,P [a,b]):∀us,us.length=2->P us:=usn λa=>us1 (P:=λus=>P (a::us)) (h a)
def us3(h:∀a b c,P [a,b,c]):∀us,us.length=3->P us:=usn λa=>us2 (P:=λus=>P (a::us)) (h a)
def us4(h:∀a b c d,P [a,b,c,d]):∀us,us.length=4->P us:=usn λa=>us3 (P:=λus=>P (a::us)) (h a)
def us5(h:∀a b c d e,P [a,b,c,d,e]):∀us,us.length=5->P us:=usn λa=>us4 (P:=λus=>P (a::us)) (h a)
def Def(K:gu)(mg:Str->fg)(st:Stmt)(x:Str)(ps:c3):Prop:=∃f fd,Fun K x x st f fd/\Binds K fd ps []/\mg x=some (.ref f)
def Mef(K:gu)(C:Addr)(st:Stmt)(x qual:Str)(ps:c3):Prop:=∃f fd,Fun K x qual st f fd/\Binds K fd ps []/\Meth K C x f
variable{P:Program}{st:Stmt}{k ar:Nat}{g:FS}
theorem jm(T:Def K mg st x ps)(N:c3)(D:∀ {f:Addr} {cdv:Value} {A:Around} {outer:gj} {s:Shared} {H:Hp} {E:XK} {G:Gd} {H0:Hp},Room k (A.deeper (envOfC x (i5 st) s.heap.objs.size f cdv)) ->
   Ats N (celN N (i5 st)) (cxOf CX0 P w K mg base N x (i5 st) f cdv A outer s H E).nox->Tos N (cxOf CX0 P w K mg base N x (i5 st) f cdv A outer s H E).nox->DBx (cxOf CX0 P w K mg base N x (i5 st) f cdv A outer s H E).nox G H0 (mh st) g)(h:scB N ps (i5 st)=true:=by decide +kernel)(I:okN x=true:=by decide +kernel)(U:n=N.length:=by rfl)(V:ar=ps.length:=by rfl):Cal P w K mg base CX0 x (k+1) (dSp K (runD n ar g)):=by
 obtain⟨f,fd,F,b,m⟩:=T;exact⟨f,fd,ps,fn_D F (qc h).1 U V λcdv A outer s H E G H0 Y=>D Y (uq h).nox (uo h).nox,m,F.kp,b,(qf I).1⟩
theorem z4h(T:Def K mg st x ps)(N:c3)(D:∀ {f:Addr} {cdv:Value} {A:Around} {outer:gj} {s:Shared} {H:Hp} {E:XK} {G:Gd} {H0:Hp},Room k (A.deeper (envOfC x (i5 st) s.heap.objs.size f cdv)) ->
   Ats N (celN N (i5 st)) (cxOf CX0 P w K mg base N x (i5 st) f cdv A outer s H E).nox->Tos N (cxOf CX0 P w K mg base N x (i5 st) f cdv A outer s H E).nox->DBx (cxOf CX0 P w K mg base N x (i5 st) f cdv A outer s H E).nox G H0 (mh st) g)(h:scB N ps (i5 st)=true:=by decide +kernel)(I:okN x=true:=by decide +kernel)(U:n=N.length:=by rfl)(V:ar=ps.length:=by rfl):Cal P w K mg base CX0 x (k+1) (fSp K (runF n ar g)):=by
 obtain⟨f,fd,F,b,m⟩:=T;exact⟨f,fd,ps,fn_F F (qc h).1 U V λcdv A outer s H E G H0 Y=>D Y (uq h).nox (uo h).nox,m,F.kp,b,(qf I).1⟩
abbrev Bd(P:Program)(w:World)(K:gu)(mg:Str->fg)(base:Heap)(N:c3)(qual:Str)(st:Stmt)(k:Nat)(g:FS):Prop:=∀ {f:Addr} {cdv:Value} {A:Around} {outer:gj} {s:Shared} {H:Hp} {E:XK} {G:Gd} {H0:Hp},Room k (A.deeper (envOfC qual (i5 st) s.heap.objs.size f cdv)) ->
   Ats N (celN N (i5 st)) (cxOf (CXr P w) P w K mg base N qual (i5 st) f cdv A outer s H E)->Tos N (cxOf (CXr P w) P w K mg base N qual (i5 st) f cdv A outer s H E)->DBx (cxOf (CXr P w) P w K mg base N qual (i5 st) f cdv A outer s H E) G H0 (mh st) g
theorem Def.cal{sp:Sp}(T:Def K mg st x ps)(D:okN x=true)(h:∀f fd,Fun K x x st f fd->FnOk P w K mg base CX k f fd ps sp):Cal P w K mg base CX x k sp:=by
 obtain⟨f,fd,F,b,m⟩:=T;exact⟨f,fd,ps,h f fd F,m,F.kp,b,(qf D).1⟩
variable{p:Nat}
def vm(T:Def K mg st x ps)(N:c3)(D:Bd P w K mg base N x st k g)(h:scB N ps (i5 st)=true:=by decide +kernel)(I:okN x=true:=by decide +kernel)(U:n=N.length:=by rfl)(V:p+ar=ps.length:=by rfl):Cal P w K mg base (CXr P w) x (k+1) (qSp K (runQ n p ar g) (xQ n p ar g)) :=
 T.cal I λf fd F=>z4b F (qc h).1 U V λcdv A outer s H E G H0 Y=>D Y (uq h) (uo h)
variable{C:Addr}{cn:Str}
def zk(D:Cl K cn C)(c:Cls K C)(T:Mef K C st x qual ps)(N:c3)(I:Bd P w K mg base N qual st k g)(h:scB N ps (i5 st)=true:=by decide +kernel)(U:n=N.length:=by rfl)(V:p+ar=ps.length:=by rfl):MCal P w K mg base cn x (k+1) (qSp K (runQ n p ar g) (xQ n p ar g)):=by
 obtain⟨f,fd,F,b,m⟩:=T;exact⟨C,f,fd,ps,c,m,z4b F (qc h).1 U V λcdv A outer s H E G H0 Y=>I Y (uq h) (uo h),b,D⟩
def z4i(D:Cl K cn C)(c:Cls K C)(T:Mef K C st x qual ps)(N:c3)(I:Bd P w K mg base N qual st k g)(h:scB N ps (i5 st)=true:=by decide +kernel)(U:n=N.length:=by rfl)(V:p+ar=ps.length:=by rfl):MCal P w K mg base cn x (k+1) (lSp K (runL n p ar g) (xL n p ar g)):=by
 obtain⟨f,fd,F,b,m⟩:=T;exact⟨C,f,fd,ps,c,m,z4d F (qc h).1 U V λcdv A outer s H E G H0 Y=>I Y (uq h) (uo h),b,D⟩
def z58(D:Cl K cn C)(I:mg cn=some (.ref C))(U:PySem.W.makesIn K C=true)(kp:PySem.W.keepIn K (.ref C)=true)(T:Mef K C st "__init__" qual ps)(N:c3)(V:Bd P w K mg base N qual st k g)(h:scB N ps (i5 st)=true:=by decide +kernel)(Y:okN cn=true:=by decide +kernel)(Z:n=N.length:=by rfl)(a:p+ar=ps.length:=by rfl) :
  KCal P w K mg base cn (k+1) (lSp K (runL n p ar g) (xL n p ar g)):=by
 obtain⟨f,fd,F,b,m⟩:=T;exact⟨C,f,fd,ps,⟨U,m.at_,m.fn,kp⟩,z4d F (qc h).1 Z a λcdv A outer s H E G H0 c=>V c (uq h) (uo h),I,b,D,(qf Y).1⟩
def z59(N:c3)(D:∀ {f:Addr} {cdv:Value} {A:Around} {outer:gj} {s:Shared} {H:Hp} {E:XK} {G:Gd} {H0:Hp},Room k (A.deeper (envOfC x (i5 st) s.heap.objs.size f cdv)) ->
   Ats N (celN N (i5 st)) (cxOf CX0 P w K mg base N x (i5 st) f cdv A outer s H E).nox->Tos N (cxOf CX0 P w K mg base N x (i5 st) f cdv A outer s H E).nox->DBx (cxOf CX0 P w K mg base N x (i5 st) f cdv A outer s H E).nox G H0 (mh st) g)(h:scB N ps (i5 st)=true:=by decide +kernel)(I:n=N.length:=by rfl)(U:ar=ps.length:=by rfl):∀f fd,Fun K x x st f fd->FnOk P w K mg base CX0 (k+1) f fd ps (dSp K (runD n ar g)) :=
 λf fd F=>fn_D F (qc h).1 I U λcdv A outer s H E G H0 V=>D V (uq h).nox (uo h).nox
variable{s:Str}{h:Heap}{oc:Value}{od an:Option Addr}{osl:Array fg}
def law_mk{fa:Addr}{m:g2->g3}{kV I V cdv ct:Value}(X:K.In h)(G:h.Ns mainGlobals mg)(U:mg x=some (.ref fa))(a:PySem.W.nsIn K mainGlobals x=some (some (.ref f)))(l:K.lookup f=some ⟨oc,od,.func (PySem.W.fnOf x x (se st) (mh st) (i5 st) .none kV I V an cdv ct),osl⟩)(c:PySem.W.codeIn K cdv x=true)(k':PySem.W.keepIn K (.ref f)=true)(Y:∀v:Value,bindArgs (PySem.W.fnOf x x (se st) (mh st) (i5 st) .none kV I V an cdv ct) ⟨[v],[]⟩=pure [(s,v)])(F:∀base f fd,Fun K x x st f fd->FnOk P w K mg base CX0 k f fd [s] (dSp K m))(good:∀ns:f5,ns.length<=63->m [.lst (ns.map D.int)]=some (.bl true)) :
  ∃fd:FuncData,(∀(t:Shared) (v:Value),BindsTo t fd ⟨[v],[]⟩ [(s,v)])/\∀base:Heap,K.In base->base.Ns mainGlobals mg->FnOk P w K mg base CX0 k fa fd [s] (zz K):=by
 have e:=U.symm.trans (ki X G a);cases e;exact⟨_,λt v=>.of_eq (Y v),λbase _ _=>z5u (F base _ _ (ztq l c k')) good⟩
def walkD{l:PySem.W.OpenLaw}{q:Program}{D:c3}{V:(Str->fg)->Heap->Prop}{U:World->Heap->Prop}{d:DefRec}{K:Params->gu}(Y:Room k callerA)(Z:l.most=some 63)(I:d.params.defaults=[])(b:∀(w:World) (h:Heap),U w h->(K w.params).In h)(F:∀(w:World) (mg:Str->fg) (fa:Addr) (h:Heap),(K w.params).In h->h.Ns mainGlobals mg->mg d.name=some (.ref fa) ->
   ∃fd:FuncData,(∀(t:Shared) (u:Value),BindsTo t fd ⟨[u],[]⟩ [(s,u)])/\∀base:Heap,(K w.params).In base->base.Ns mainGlobals mg->FnOk l.prog w (K w.params) mg base CX0 k fa fd [s] (zz (K w.params))) :
  PySem.W.WalkO q D V U l.row.toRowW d [] (λf vs=>PySem.call f vs) :=
 zz5 (n:=63) (k:=k) (x:=s) (CX:=λ_=>CX0) (sp:=λw=>zz (K w.params)) Z (by decide) I Y b F (λ_ _ a ns c _ e=>⟨a,ns,rfl,e,c,λ_=>rfl⟩) λ_ _ _ _ _ z=>z
def def_mk{kV D I cdv ct:Value}(X:K.In h)(G:h.Ns mainGlobals mg)(a:PySem.W.nsIn K mainGlobals x=some (some (.ref f)))(l:K.lookup f=some ⟨oc,od,.func (PySem.W.fnOf x x (se st) (mh st) (i5 st) .none kV D I an cdv ct),osl⟩)(c:PySem.W.codeIn K cdv x=true)(k:PySem.W.keepIn K (.ref f)=true)(U:∀us:fe,us.length=ps.length->bindArgs (PySem.W.fnOf x x (se st) (mh st) (i5 st) .none kV D I an cdv ct) ⟨us,[]⟩=pure (ps.zip us)):Def K mg st x ps :=
 ⟨f,_,ztq l c k,.all U,ki X G a⟩
def exc_mk{c:Str}(X:K.In h)(G:h.Ns mainGlobals mg)(a:PySem.W.nsIn K mainGlobals c=some (some (.ref C)))(b:PySem.W.excIn K C VEs "ValueError.__new__" = true)(d:okN c=true):Exc K mg c:=⟨C,a,b,ki X G a,(qf d).1⟩
def con_mk{z:Int}{t:Tok}(X:K.In h)(G:h.Ns mainGlobals mg)(a:PySem.W.nsIn K mainGlobals x=some (some (.int z t))):∃t,mg x=some (.int z t):=⟨t,ki X G a⟩
def mef_mk{kV D I cdv ct:Value}(a:PySem.W.findIn K (.ref C) x=some (some (.ref f)))(l:K.lookup f=some ⟨oc,od,.func (PySem.W.fnOf x qual (se st) (mh st) (i5 st) .none kV D I an cdv ct),osl⟩)(c:PySem.W.codeIn K cdv qual=true)(k:PySem.W.keepIn K (.ref f)=true)(i:PySem.W.isFn K (.ref f)=true)(U:∀us:fe,us.length=ps.length->bindArgs (PySem.W.fnOf x qual (se st) (mh st) (i5 st) .none kV D I an cdv ct) ⟨us,[]⟩=pure (ps.zip us)):Mef K C st x qual ps :=
 ⟨f,_,ztq l c k,.all U,a,i,k⟩
variable{f:FE}
def z00{b:Bool}(h:∀G H0,DTx X G H0 e (fTst f)):DTx X G H0 e (fTst (fFrz b f)):=⟨λpins s σ H Q I z=>by
 obtain⟨W,env,d,env',ok,q,k⟩:=z;obtain⟨r,D,q⟩:=df.mp q;obtain⟨U,V,D⟩:=df.mp D;split at D;case isFalse=>cases D
 cases D;have Y:fTst f (frz b env)=some (d,U.2):=by
  dsimp only at q;unfold fTst;rw[V,ac];split at q
  ·rename_i h1
   cases q;rfl
  ·cases q
 have Z:env=env':=by
  dsimp only at q;split at q
  ·cases q;rfl
  ·cases q
 subst Z;exact(h (AllG G.r) H).out pins s σ H Q I ⟨NoW,frz b env,d,U.2,ok.freeze b,Y,λW' H' st a=>k W H' (Step.same st.noW) (ok.same st.noW)⟩⟩
def ExcO(o:Obj)(C:Addr):Prop:=∃vs,o.cls=.ref C/\o.data=.fields vs/\vs[2]?=some .none
end L2
namespace L2
open PySem PySem.Spec PyProof.Rows PySem.W
structure ECls (K:gu) (C:Addr):Prop where
 ga:PySem.W.findIn K (.ref C) "__getattribute__" = some (some (.builtin "BaseException.__getattribute__"))
 hk:PySem.W.findIn K (.ref C) "__getattr__" = some none
 fd:PySem.W.findObj K C none "__class__" = some (.bind (.builtin "getset_descriptor.__get__") (.builtin "object.__class__"))
 ob:PySem.W.mroIn K C (.type "object")=some true
 be:PySem.W.mroIn K C (.type "BaseException")=some true
def Exo(o:Obj)(C:Addr):Prop:=ExcO o C/\o.dict=none
structure Hd (ea C:Addr) (X:Cx):Prop where
 hh:X.A.handled=some (.ref ea)
 ob:∃o,X.s₀.heap.get? ea=some o/\Exo o C
 h0:X.H₀ ea=none
 nf:ea∉X.fs
 nx:ea∉X.ex
structure KOk (P:Program) (w:World) (K:gu) (mg:Str->fg) (base:Heap) (k:Nat) (f:Addr) (fd:FuncData) (ps:c3) (kd:Str->g3):Prop where
 len:ps.length=1
 run:∀(A:Around) (outer:gj) (s:Shared) (H:Hp) (ea C:Addr) (c:Str) (o:Obj) (d:D) (O:Addr->Prop) (Q:VK) (args:Args),Room k { A with handled:=none }->A.handled=some (.ref ea)->Env0 P w K mg base A outer s H->BindsTo s fd args (ps.zip [.ref ea]) ->
  s.heap.get? ea=some o->Exo o C->Cl K c C->H ea=none->ea∉frs outer->kd c=some d->(∀v H',Same H H'->Rep K H' (λa=>O a\/H a=none) d v->Q v H')->codeAny (model P w) A (.call (.ref f) args) (CR CX0 outer P w H s Q E0) s
def z01:c3:=["UnknownStack", "EmptyStack", "UnknownPlace", "BadHours", "BadLoss", "BadCount", "HouseFull", "DeedsFull", "NothingWaits", "NothingDone", "ShortOrder", "TooManyOrders", "NotGone"]
def z6a(K:gu)(C:Addr):Bool:=findIn K (.ref C) "__getattribute__"==some (some (.builtin "BaseException.__getattribute__")) && findIn K (.ref C) "__getattr__"==some none && (match findObj K C none "__class__" with | some (.bind (.builtin g) (.builtin a))=>g=="getset_descriptor.__get__" && a=="object.__class__" | _=>false) && mroIn K C (.type "object")==some true && mroIn K C (.type "BaseException")==some true
def refB(K:gu)(n:Str)(p:Addr->Bool):Bool:=match nsIn K mainGlobals n with | some (some (.ref R))=>p R | _=>false
def z4j(K:gu):Bool:=z01.all λc=>refB K c λC=>z6a K C && kitOne K (.ref C) (.type "ValueError")==some true && refB K "RotError" (λR=>exmOne K (.ref C) (.ref R)==some true) && z01.all λn=>refB K n λR=>kitOne K (.ref C) (.ref R)==some (c==n)
structure z4k (K:gu) (mg:Str->fg):Prop where
 b:z4j K=true
 m:∀n∈("RotError" : Str)::z01,∀R,nsIn K mainGlobals n=some (some (.ref R))->mg n=some (.ref R)
def z6p{K:gu}{mg:Str->fg}{h:Heap}(X:K.In h)(G:h.Ns mainGlobals mg)(b:z4j K=true):z4k K mg:=⟨b,λ_ _ _ e=>mg_of X G e⟩
end L2
namespace LB
open PySem L2
def zku:FS:=sRet (fBin dSub (fBin dMul (fIxV 0 (fC (.int 1))) (fIxV 1 (fC (.int 0)))) (fBin dMul (fIxV 1 (fC (.int 1))) (fIxV 0 (fC (.int 0)))))
def t6:g2->g3:=runD 2 2 zku
def ze4:FS:=sSeq (sSet 2 (er t6 (bz (fVar 0) (bz (fVar 1) (fNil))))) (sSeq (sIf (fTst (fBin dGt (fVar 2) (fC (.int 0)))) (sRet (fC (.int 1))) (sNil)) (sSeq (sIf (fTst (fBin dLt (fVar 2) (fC (.int 0)))) (sRet (fUn dNeg (fC (.int 1)))) (sNil)) (sRet (fC (.int 0)))))
def tf:g2->g3:=runD 3 2 ze4
def zjk:FS:=sRet (vz (fIsi "int" (fVar 0)) (zz7 (fIsi "bool" (fVar 0))))
def xr:g2->g3:=runD 1 1 zjk
def zkv:FS:=sSeq (sIf (fTst (fBin dLt (fVar 1) (jk 0))) (sRet (fIxV 0 (fVar 1))) (sNil)) (sRet (fC (.int 0)))
def yt:g2->g3:=runD 2 2 zkv
def zdt:FS:=sSeq (sSet 5 (er yt (bz (fVar 0) (bz (fVar 4) (fNil))))) (sSeq (sIf (fTst (fBin dEq (fBin dMod (jk 0) (fC (.int 2))) (fC (.int 1)))) (sSeq (sSet 3 (fBin dMod (fBin h9 (fBin h9 (fBin h9 (fBin dMul (fVar 3) (fC (.int 48271))) (fVar 5)) (fVar 4)) (fC (.int 1))) (fC (.int 2147483647)))) (sSet 5 (fBin dMod (fBin dMul (fBin h9 (fVar 3) (fVar 4)) (fC (.int 69621))) (fC (.int 2147483647))))) (sNil)) (jo (lp 2 (fVar 5))))
def zjl:FS:=sSeq (sOwn 2 (il (fNil))) (sSeq (sSet 3 (fC (.int 7))) (sSeq (sFor 4 (gz iR1 (bz (fVar 1) (fNil))) (zdt)) (sRet (fVar 2))))
def yz:g2->g3:=runD 6 2 zjl
def zon:FS:=sRet (fIxV 0 (fC (.int 1)))
def p9:g2->g3:=runD 1 1 zon
def zpw:FS:=sRet (fIxV 0 (fC (.int 2)))
def xm:g2->g3:=runD 1 1 zpw
def zlf:FS:=sRet (fTup (bz (fC (.int 1)) (bz (er p9 (bz (fVar 0) (fNil))) (bz (er xm (bz (fVar 0) (fNil))) (fNil)))))
def zdu:g2->g3:=runD 1 1 zlf
def zh4:FS:=sRet (fTup (bz (fBin h9 (fIxV 0 (fC (.int 0))) (fIxV 1 (fC (.int 0)))) (bz (fBin h9 (fIxV 0 (fC (.int 1))) (fIxV 1 (fC (.int 1)))) (bz (fBin h9 (fIxV 0 (fC (.int 2))) (fIxV 1 (fC (.int 2)))) (fNil)))))
def zdv:g2->g3:=runD 2 2 zh4
def ziq:FS:=sRet (fTup (bz (fIxV 0 (fC (.int 1))) (bz (fIxV 0 (fC (.int 2))) (fNil))))
def y9:g2->g3:=runD 1 1 ziq
def zby:FS:=sRet (fBin dGt (er tf (bz (er y9 (bz (fVar 0) (fNil))) (bz (er y9 (bz (fVar 1) (fNil))) (fNil)))) (fC (.int 0)))
def tp:g2->g3:=runD 2 2 zby
def zcv:FS:=sSet 3 (er zdv (bz (fPop 1) (bz (fVar 3) (fNil))))
def zcw:FS:=sSeq (sSet 3 (er zdu (bz (fVar 2) (fNil)))) (sSeq (mn (fAnd (fTst (fBin dGt (jk 1) (fC (.int 0)))) (fNot (fTst (er tp (bz (fIxV 1 (fUn dNeg (fC (.int 1)))) (bz (fVar 3) (fNil))))))) (zcv) 10000) (jo (lp 1 (fVar 3))))
def zfd:FS:=sSeq (sOwn 1 (il (fNil))) (sSeq (sFor 2 (fiS (fVar 0)) (zcw)) (sRet (fVar 1)))
def zfe:g2->g3:=runD 4 1 zfd
def zcg:FS:=sSeq (sIf (fAnd (fTst (fIsi "str" (fIxV 1 (fVar 2)))) (fNot (fTst (fIsi "str" (fIxV 0 (fVar 2)))))) (sRet (fC (.bl false))) (sNil)) (sSeq (sIf (fAnd (fNot (fTst (fIsi "str" (fIxV 1 (fVar 2))))) (fNot (fTst (er xr (bz (fIxV 0 (fVar 2)) (fNil)))))) (sRet (fC (.bl false))) (sNil)) (sIf (fTst (fBin dNe (fIxV 0 (fVar 2)) (fIxV 1 (fVar 2)))) (sRet (fC (.bl false))) (sNil)))
def zes:FS:=sSeq (sIf (fOr (fNot (fTst (fIsi "tuple" (fVar 0)))) (fTst (fBin dNe (jk 0) (jk 1)))) (sRet (fC (.bl false))) (sNil)) (sSeq (sFor 2 (gz iR1 (bz (jk 1) (fNil))) (zcg)) (sRet (fC (.bl true))))
def zet:g2->g3:=runD 3 2 zes
def zc9:FS:=sIf (fNot (fTst (er zet (bz (fIxV 0 (fVar 2)) (bz (fIxV 1 (fVar 2)) (fNil)))))) (sRet (fC (.bl false))) (sNil)
def zec:FS:=sSeq (sIf (fOr (fNot (fTst (fIsi "list" (fVar 0)))) (fTst (fBin dNe (jk 0) (jk 1)))) (sRet (fC (.bl false))) (sNil)) (sSeq (sFor 2 (gz iR1 (bz (jk 1) (fNil))) (zc9)) (sRet (fC (.bl true))))
def zcx:g2->g3:=runD 3 2 zec
def zjm:FS:=sRet (fTup (bz (fIxV 0 (fC (.int 2))) (bz (fIxV 0 (fC (.int 3))) (fNil))))
def sw:g2->g3:=runD 1 1 zjm
def zb:FS:=sSet 2 (fBin h9 (fVar 2) (fC (.int 1)))
def zeu:FS:=sSeq (sSet 2 (fC (.int 0))) (sSeq (mn (fAnd (fTst (fBin dLt (fVar 2) (jk 0))) (fTst (fBin dGe (er tf (bz (er sw (bz (fIxV 0 (fVar 2)) (fNil))) (bz (er sw (bz (fVar 1) (fNil))) (fNil)))) (fC (.int 0))))) (zb) 10000) (sRet (fVar 2)))
def zev:g2->g3:=runD 3 2 zeu
def y8:FS:=sSeq (sSet 7 (fTup (bz (fVar 2) (bz (fVar 4) (bz (fVar 5) (bz (fVar 6) (fNil))))))) (jo (zmh 1 (yf zev (zw 1 (bz (fVar 7) (fNil)))) (fVar 7)))
def zda:FS:=mj [4,5,6] (fiS (er zfe (bz (fVar 3) (fNil)))) (y8)
def zf9:FS:=sSeq (sOwn 1 (il (fNil))) (sSeq (mj [2,3] (gz (iEn 1) (bz (fVar 0) (fNil))) (zda)) (sRet (fVar 1)))
def tj:g2->g3:=runD 8 1 zf9
def zdw:FS:=jo (zmj 1 (fRep (il (bz (fVar 2) (fNil))) (fVar 3)))
def zg5:FS:=sSeq (sOwn 1 (il (fNil))) (sSeq (mj [2,3,4,5] (fiS (er tj (bz (fVar 0) (fNil)))) (zdw)) (vt 1))
def xq:g2->Option g2:=runF 6 1 zg5
def yy:FS:=sSeq (sSet 2 (fBin h9 (fVar 2) (fBin dIx (fIxV 0 (fVar 4)) (fC (.int 1))))) (sSeq (sSet 3 (fBin h9 (fVar 3) (fBin dIx (fIxV 0 (fVar 4)) (fC (.int 2))))) (sIf (fTst (fBin dGe (fBin dMul (fVar 3) (fIxV 1 (fC (.int 1)))) (fBin dMul (fIxV 1 (fC (.int 2))) (fVar 2)))) (sSet 1 (fLst (il (bz (fBin h9 (fVar 4) (fC (.int 1))) (bz (fVar 2) (bz (fVar 3) (fNil))))))) (sNil)))
def zga:FS:=sSeq (sSet 1 (fLst (il (bz (fC (.int 0)) (bz (fC (.int 1)) (bz (fUn dNeg (fC (.int 1))) (fNil))))))) (sSeq (sSet 2 (fC (.int 0))) (sSeq (sSet 3 (fC (.int 0))) (sSeq (sFor 4 (gz iR1 (bz (jk 0) (fNil))) (yy)) (sRet (fVar 1)))))
def zgb:g2->g3:=runD 5 1 zga
def xu:FS:=sIf (fTst (fBin dGt (fBin dMul (fBin dIx (fIxV 3 (fVar 5)) (fC (.int 2))) (fBin dIx (fIxV 3 (fVar 4)) (fC (.int 1)))) (fBin dMul (fBin dIx (fIxV 3 (fVar 4)) (fC (.int 2))) (fBin dIx (fIxV 3 (fVar 5)) (fC (.int 1)))))) (sSet 4 (fVar 5)) (sNil)
def zdx:FS:=sSeq (sSet 3 (fLst (ju (fiV 1) [] fYes (er zgb (bz (fVar 0) (fNil)))))) (sSeq (sSet 4 (fC (.int 0))) (sSeq (sFor 5 (gz iR1 (bz (jk 3) (fNil))) (xu)) (sSeq (jo (lp 2 (fTup (bz (fBin h9 (fVar 4) (fC (.int 1))) (bz (fBin dIx (fIxV 3 (fVar 4)) (fC (.int 0))) (bz (fBin dIx (fIxV 3 (fVar 4)) (fC (.int 1))) (bz (fBin dIx (fIxV 3 (fVar 4)) (fC (.int 2))) (fNil)))))))) (p7 1 (fVar 4) (fLst (fSl (fIxV 1 (fVar 4)) (fO1 (fBin dIx (fIxV 3 (fVar 4)) (fC (.int 0)))) (fO0)))))))
def zg6:FS:=sSeq (sOwn 1 (ju (fiS (fVar 0)) [] fYes (fLst (gz qd (bz (fVar 0) (fNil)))))) (sSeq (sOwn 2 (il (fNil))) (sSeq (mn (fTst (fBin dGt (er bSum (bz (fLst (ju (fiV 1) [] fYes (jk 0))) (fNil))) (fC (.int 0)))) (zdx) 10000) (sRet (fVar 2))))
def ze5:g2->g3:=runD 6 1 zg6
def zgc:FS:=sOwn 1 (fCat (fVar 1) (fLst (fRep (il (bz (fIxV 2 (fC (.int 0))) (fNil))) (fIxV 2 (fC (.int 1))))))
def zie:FS:=sSeq (sOwn 1 (il (fNil))) (sSeq (sFor 2 (fiS (er ze5 (bz (fVar 0) (fNil)))) (zgc)) (vt 1))
def zpx:g2->Option g2:=runF 3 1 zie
def zmw:FS:=sRet (fIxV 0 (fC (.int 0)))
def my:g2->g3:=runD 1 1 zmw
def zgd:FS:=sIf (fOr (fTst (fBin dLt (fVar 1) (fC (.int 1)))) (fTst (fBin dGt (fVar 1) (jk 0)))) (z7) (sNil)
def zge:g2->g3:=runD 2 2 zgd
def zdc:FS:=sSeq (sIf (fTst (fBin dEq (fIxV 2 (fBin dSub (fVar 3) (fC (.int 1)))) (fC (.int 0)))) (z7) (sNil)) (t0 2 dSub (fBin dSub (fVar 3) (fC (.int 1))) (fC (.int 1)))
def zgf:FS:=sSeq (sOwn 2 (ju (fiS (fVar 0)) [] fYes (jk 0))) (sSeq (sFor 3 (fiS (fVar 1)) (zdc)) (sIf (fTst (fBin dGt (vp 2) (fC (.int 0)))) (z7) (sNil)))
def zgg:g2->g3:=runD 4 2 zgf
def zdd:FS:=jo (er zge (bz (fVar 0) (bz (fVar 2) (fNil))))
def zgh:FS:=sSeq (sFor 2 (fiS (fVar 1)) (zdd)) (jo (er zgg (bz (fVar 0) (bz (fVar 1) (fNil)))))
def zgi:g2->g3:=runD 3 2 zgh
def zde:FS:=sSeq (jo (lp 3 (fBin dIx (fIxV 0 (fBin dSub (fVar 4) (fC (.int 1)))) (fIxV 2 (fBin dSub (fVar 4) (fC (.int 1))))))) (t0 2 h9 (fBin dSub (fVar 4) (fC (.int 1))) (fC (.int 1)))
def zgj:FS:=sSeq (jo (er zgi (bz (fVar 0) (bz (fVar 1) (fNil))))) (sSeq (sOwn 2 (ju (fiS (fVar 0)) [] fYes (fC (.int 0)))) (sSeq (sOwn 3 (il (fNil))) (sSeq (sFor 4 (fiS (fVar 1)) (zde)) (sRet (fVar 3)))))
def vi:g2->g3:=runD 5 2 zgj
def zff:FS:=sSeq (sSet 6 (fBin h9 (fVar 3) (er p9 (bz (fVar 5) (fNil))))) (sSeq (jo (lp 2 (fTup (bz (er my (bz (fVar 5) (fNil))) (bz (fVar 4) (bz (fVar 3) (bz (fVar 6) (fNil)))))))) (sSet 3 (fVar 6)))
def zg7:FS:=sSeq (sOwn 2 (il (fNil))) (sSeq (sSet 3 (fC (.int 0))) (sSeq (mj [4,5] (gz iZp (bz (fVar 1) (bz (er vi (bz (fVar 0) (bz (fVar 1) (fNil)))) (fNil)))) (zff)) (sRet (fVar 2))))
def zg8:g2->g3:=runD 7 2 zg7
def zfg:FS:=sSeq (sSet 5 (fLst (ur (gz iR1 (bz (jk 2) (fNil))) [2] (fTst (fBin dGt (fIxV 1 (fVar 0)) (fC (.int 0)))) (fVar 0)))) (sSeq (sSet 6 (fIxV 5 (fBin dMod (fVar 1) (jk 5)))) (sSeq (sSet 1 (fBin dDiv (fVar 1) (jk 5))) (sSeq (p7 2 (fVar 6) (fBin dSub (fIxV 2 (fVar 6)) (fC (.int 1)))) (jo (lp 3 (fBin h9 (fVar 6) (fC (.int 1))))))))
def zg9:FS:=sSeq (sOwn 2 (ju (fiS (fVar 0)) [] fYes (jk 0))) (sSeq (sOwn 3 (il (fNil))) (sSeq (sFor 4 (gz iR1 (bz (vp 2) (fNil))) (zfg)) (vt 3)))
def ze6:g2->Option g2:=runF 7 2 zg9
def zfh:FS:=sSeq (sSet 3 (fBin h9 (fVar 3) (er p9 (bz (fVar 4) (fNil))))) (sSet 2 (fBin h9 (fVar 2) (fBin dMul (er xm (bz (fVar 4) (fNil))) (fVar 3))))
def zha:FS:=sSeq (sSet 2 (fC (.int 0))) (sSeq (sSet 3 (fC (.int 0))) (sSeq (sFor 4 (fiS (er vi (bz (fVar 0) (bz (fVar 1) (fNil))))) (zfh)) (sRet (fVar 2))))
def ze7:g2->g3:=runD 5 2 zha
def zdy:FS:=sSeq (jo (lp 3 (fBin dIx (fIxV 0 (fBin dSub (fVar 4) (fC (.int 1)))) (fIxV 2 (fBin dSub (fVar 4) (fC (.int 1))))))) (p7 2 (fBin dSub (fVar 4) (fC (.int 1))) (fBin h9 (fIxV 2 (fBin dSub (fVar 4) (fC (.int 1)))) (fC (.int 1))))
def zhb:FS:=sSeq (sOwn 2 (ju (fiS (fVar 0)) [] fYes (fC (.int 0)))) (sSeq (sOwn 3 (il (fNil))) (sSeq (sFor 4 (fiS (fVar 1)) (zdy)) (sRet (fVar 3))))
def xp:g2->g3:=runD 5 2 zhb
def zhc:FS:=sRet (er ze7 (bz (fVar 0) (bz (fLst (gz xq (bz (fVar 0) (fNil)))) (fNil))))
def zhd:g2->g3:=runD 1 1 zhc
def zgk:FS:=sSeq (sSet 1 (fBin h9 (fVar 1) (fIxV 3 (fC (.int 1))))) (sSet 2 (fBin h9 (fVar 2) (fBin dMul (fIxV 3 (fC (.int 2))) (fVar 1))))
def zif:FS:=sSeq (sSet 1 (fC (.int 0))) (sSeq (sSet 2 (fC (.int 0))) (sSeq (sFor 3 (fiS (fVar 0)) (zgk)) (sRet (fVar 2))))
def xl:g2->g3:=runD 4 1 zif
def zdz:FS:=sSeq (sSet 8 (fIxV 2 (fBin dSub (fVar 4) (fC (.int 1))))) (sSeq (p7 2 (fBin dSub (fVar 4) (fC (.int 1))) (fBin h9 (fVar 8) (fVar 5))) (jo (lp 3 (fLst (fSl (fIxV 0 (fBin dSub (fVar 4) (fC (.int 1)))) (fO1 (fVar 8)) (fO1 (fBin h9 (fVar 8) (fVar 5))))))))
def zhe:FS:=sSeq (sOwn 2 (ju (fiS (fVar 0)) [] fYes (fC (.int 0)))) (sSeq (sOwn 3 (il (fNil))) (sSeq (mj [4,5,6,7] (fiS (fVar 1)) (zdz)) (sRet (fVar 3))))
def zhf:g2->g3:=runD 9 2 zhe
def zew:FS:=sSeq (sSet 3 (fBin h9 (fVar 3) (er p9 (bz (fVar 5) (fNil))))) (sSeq (sSet 4 (fBin h9 (fVar 4) (er xm (bz (fVar 5) (fNil))))) (jo (lp 2 (er t6 (bz (fVar 0) (bz (fTup (bz (fVar 3) (bz (fVar 4) (fNil)))) (fNil)))))))
def zgl:FS:=sSeq (sOwn 2 (il (fNil))) (sSeq (sSet 3 (fC (.int 0))) (sSeq (sSet 4 (fC (.int 0))) (sSeq (sFor 5 (fiS (fLst (fSl (fVar 1) (fO0) (fO1 (fUn dNeg (fC (.int 1))))))) (zew)) (sRet (fVar 2)))))
def zei:g2->g3:=runD 6 2 zgl
def zhg:FS:=sRet (fTup (bz (er p9 (bz (fVar 0) (fNil))) (bz (er xm (bz (fVar 0) (fNil))) (fNil))))
def ze8:g2->g3:=runD 1 1 zhg
def zgm:FS:=sRet (er uh (bz (fLst (rn 2 (gz (iEn 0) (bz (fVar 0) (fNil))) [] fYes (fTup (bz (er my (bz (fVar 1) (fNil))) (bz (fVar 0) (fNil)))))) (fNil)))
def zej:g2->g3:=runD 1 1 zgm
def zg:FS:=sIf (fTst (fBin dLt (fBin pj (fVar 2) (er my (bz (fVar 7) (fNil)))) (fBin pj (fVar 2) (er my (bz (fVar 6) (fNil)))))) (sSeq (sSet 8 (er t6 (bz (er ze8 (bz (fVar 6) (fNil))) (bz (er ze8 (bz (fVar 7) (fNil))) (fNil))))) (jo (lp 4 (fTup (bz (er my (bz (fVar 6) (fNil))) (bz (er my (bz (fVar 7) (fNil))) (bz (fVar 8) (fNil)))))))) (sNil)
def zed:FS:=sFor 7 (fiS (fLst (fSl (fVar 3) (fO1 (fBin h9 (fVar 5) (fC (.int 1)))) (fO0)))) (zg)
def zfi:FS:=sSeq (sSet 2 (er zej (bz (er vi (bz (fVar 0) (bz (fVar 1) (fNil)))) (fNil)))) (sSeq (sSet 3 (er vi (bz (fVar 0) (bz (fLst (gz xq (bz (fVar 0) (fNil)))) (fNil))))) (sSeq (sOwn 4 (il (fNil))) (sSeq (mj [5,6] (gz (iEn 0) (bz (fVar 3) (fNil))) (zed)) (sRet (fVar 4)))))
def zfj:g2->g3:=runD 9 2 zfi
def zch:FS:=sSeq (sIf (fOr (fNot (fTst (er xr (bz (fVar 3) (fNil))))) (fOr (fTst (fBin dLt (fVar 3) (fC (.int 1)))) (fTst (fBin dGt (fVar 3) (jk 1))))) (sRet (fC (.bl false))) (sNil)) (p7 2 (fBin dSub (fVar 3) (fC (.int 1))) (fBin h9 (fIxV 2 (fBin dSub (fVar 3) (fC (.int 1)))) (fC (.int 1))))
def zdo:FS:=sIf (fTst (fBin dNe (fIxV 2 (fVar 4)) (er bLen (bz (fIxV 1 (fVar 4)) (fNil))))) (sRet (fC (.bl false))) (sNil)
def zex:FS:=sSeq (sIf (fNot (fTst (fIsi "list" (fVar 0)))) (sRet (fC (.bl false))) (sNil)) (sSeq (sOwn 2 (ju (fiS (fVar 1)) [] fYes (fC (.int 0)))) (sSeq (sFor 3 (fiS (fVar 0)) (zch)) (sSeq (sFor 4 (gz iR1 (bz (jk 1) (fNil))) (zdo)) (sRet (fC (.bl true))))))
def zdf:g2->g3:=runD 5 2 zex
def zfk:FS:=sRet (er bSum (bz (fLst (ju (fiS (fVar 0)) [] fYes (jk 0))) (fNil)))
def zfl:g2->g3:=runD 1 1 zfk
def zhh:FS:=sRet (fLst (fCat (fLst (fCat (fLst (fSl (fVar 0) (fO0) (fO1 (fBin dSub (fVar 1) (fC (.int 1)))))) (fLst (il (bz (fVar 2) (fNil)))))) (fLst (fSl (fVar 0) (fO1 (fVar 1)) (fO0)))))
def ze9:g2->g3:=runD 3 3 zhh
theorem z6b(ns:f5)(k:Nat):∃c,yt [.lst (ns.map D.int),.int k]=some (.int c):=by
 by_cases h:(k:Int)<ns.length
 ·obtain⟨x,h1,h2⟩:=z38 (xs:=ns.map D.int) (i:=(k:Int)) (by lia) (by simpa using h)
  rw[az] at h2;cases q:ns[(k:Int).toNat]? with
  | none=>rw[q] at h2;cases h2
  | some c =>
    rw[q] at h2;cases h2;simp[yt,runD,zkv,jw,h,h1]
 ·refine⟨0,?_⟩
  simp[yt,runD,zkv,jw,h]
theorem zxl(ns:f5)(n:Nat)(f:n<=1000):∃cs:f5,cs.length=n/\yz [.lst (ns.map D.int),.int n]=some (.lst (cs.map D.int)):=by
 have loop:=qv (i:=4) (g:=zdt)
  (λk e=>∃(cs:f5) (st:Int) (V v5:g5),cs.length=k/\e=[some (.sh (.lst (ns.map D.int))),some (.sh (.int n)),some (.ow (cs.map D.int)),some (.sh (.int st)),V,v5])
  (rngD 0 n) [some (.sh (.lst (ns.map D.int))),some (.sh (.int n)),some (.ow []),some (.sh (.int 7)),none,none] ⟨[],7,none,none,rfl,rfl⟩ ?_
 ·obtain⟨e',h1,cs,st,V,v5,U,rfl⟩:=loop
  refine⟨cs,by rw[U,pd],?_⟩;have a:=oo n (by lia);simp[yz,runD,zjl,jw,a,h1]
 ·rintro k d e hd ⟨cs,st,V,v5,U,rfl⟩
  obtain⟨rfl,h⟩:=qp hd;obtain⟨c,Y⟩:=z6b ns k;have I:Few (cs.length+1):=few (by lia);by_cases Z:(ns.length:Int) % 2=1
  ·refine⟨_,?_,cs++[((st*48271+c+k+1) % 2147483647+k)*69621 % 2147483647],(st*48271+c+k+1) % 2147483647,some (.sh (.int (0+k))),some (.sh (.int (((st*48271+c+k+1) % 2147483647+k)*69621 % 2147483647))),by simp[U],rfl⟩
   have b:ln 48271:=l3 (by decide);have s2:ln 69621:=l3 (by decide);simp[zdt,Y,Z,dMod,dMul,b,s2,I]
  ·refine⟨_,?_,cs++[c],st,some (.sh (.int (0+k))),some (.sh (.int c)),by simp[U],rfl⟩
   simp[zdt,Y,Z,dMod,I]
def zq8(a b c d:Int)(D:ln b)(hd:ln d) :
  t6 [.tup [.int a,.int b],.tup [.int c,.int d]]=some (.int (b*c-d*a)):=by
 simp[t6,runD,zku,jw,dMul,D,hd,atI,ixN]
theorem zq9(a b c d:Int)(V:ln b)(hd:ln d) :
  tf [.tup [.int a,.int b],.tup [.int c,.int d]]=some (.int (if d*a<b*c then 1 else if b*c<d*a then -1 else 0)):=by
 have I:=zq8 a b c d V hd;by_cases h1:d*a<b*c
 ·have D:0<b*c-d*a:=by lia
  simp[tf,runD,ze4,jw,I,h1,D]
 ·have D:¬0<b*c-d*a:=by lia
  by_cases h2:b*c<d*a
  ·have U:b*c-d*a<0:=by lia
   simp[tf,runD,ze4,jw,I,h1,h2,D,U]
  ·have U:¬b*c-d*a<0:=by lia
   simp[tf,runD,ze4,jw,I,h1,h2,D,U]
def zmx(i:Int):xr [.int i]=some (.bl true):=by
 simp[xr,runD,zjk,jw]
abbrev Sk:=Int×Int×Int
abbrev g9:=List Sk
abbrev h7:=List (List Sk)
def sD(s:Sk):D:=.tup [.int s.1,.int s.2.1,.int s.2.2]
def gw(s:Sk):Prop:=1<=s.1/\s.1<=60/\1<=s.2.1/\s.2.1<=60/\0<=s.2.2/\s.2.2<=100
def b3:Bnd 1 1073741824 3:=⟨by decide,by decide⟩
variable{n i:Nat}
def qm{i:Int}(D:0<=i)(h1:i<n):ixN n i=some i.toNat:=by unfold ixN;rw[if_pos D,if_pos h1]
noncomputable def hl:FS:=sSeq (sSet 10 (fBin h9 (fC (.int 1)) (fBin dMod (fVar 9) (fC (.int 60))))) (sSeq (sSet 11 (fBin dMod (fBin dDiv (fVar 9) (fC (.int 60))) (fC (.int 101)))) (sSeq (sIf (fTst (fBin dEq (fVar 4) (fC (.int 1)))) (sSeq (sSet 10 (fBin h9 (fC (.int 1)) (fBin dMod (fVar 9) (fBin dSub (fC (.int 4)) (fBin dMul (fC (.int 2)) (fVar 5)))))) (sSet 11 (fBin dMod (fBin dDiv (fVar 9) (fC (.int 60))) (fBin dSub (fC (.int 4)) (fBin dMul (fC (.int 2)) (fVar 5)))))) (sNil)) (sSeq (sIf (fTst (fBin dEq (fVar 4) (fC (.int 2)))) (sSeq (sSet 10 (fBin dIx (fLst (il (bz (fC (.int 1)) (bz (fC (.int 60)) (bz (fC (.int 2)) (bz (fC (.int 59)) (fNil))))))) (fBin dMod (fVar 9) (fC (.int 4))))) (sSet 11 (fBin dIx (fLst (il (bz (fC (.int 0)) (bz (fC (.int 100)) (bz (fC (.int 1)) (bz (fC (.int 99)) (fNil))))))) (fBin dMod (fBin dDiv (fVar 9) (fC (.int 60))) (fC (.int 4)))))) (sNil)) (sIf (fTst (fBin dEq (fVar 4) (fC (.int 3)))) (sSeq (sSet 10 (fBin dIx (fLst (il (bz (fVar 10) (bz (fBin h9 (fC (.int 58)) (fBin dMod (fVar 9) (fC (.int 3)))) (fNil))))) (fVar 5))) (sSet 11 (fVar 10))) (sNil)))))
noncomputable def pl:FS:=sSeq (sSet 12 (fBin dMod (fBin dIx (fLst (il (bz (fBin dDiv (fVar 9) (fC (.int 6060))) (bz (fVar 8) (fNil))))) (fBin dMul (fBin dDiv (fVar 4) (fC (.int 3))) (fVar 5))) (fVar 2))) (sSeq (sSet 13 (z3q 7 (fBin dMod (fBin dDiv (fVar 9) (fC (.int 30300))) (jk 7)))) (jo (wz 6 (fVar 12) (fTup (bz (fVar 13) (bz (fVar 10) (bz (fVar 11) (fNil))))))))
def z6q(s:g9):g9:=match s.getLast? with
 | none=>[]
 | some x=>s.dropLast++[(x.1,x.2.1,x.2.2+1)]
structure SInv (menu:Int) (many k:Nat) (sss:h7) (pool:f5):Prop where
 len:sss.length=many
 tot:sss.flatten.length=k
 good:∀x∈sss.flatten,gw x/\(menu=3->x.2.2<=60)
 perm:(pool++sss.flatten.map (·.1)).Perm (rngL 1 61)
structure Stk (most:Nat) (ss:h7):Prop where
 many:ss.length<=5
 tot:ss.flatten.length<=most
 good:∀x∈ss.flatten,gw x
 nd:(ss.flatten.map (·.1)).Nodup
def iT(xs:f5):D:=.tup (xs.map D.int)
variable{α:Type}{k:Nat}
theorem kh(f:α->D){xs:List α}{x:α}(h:xs[k]?=some x):atI (xs.map f) (k:Int)=some (f x):=by
 have I:=(am.mp h).1;unfold atI;rw[qm (by lia) (by rw[ae];lia)];simp[h]
theorem zpy(xs:f5)(Y:xs.length<=1000):zet [iT xs,iT xs]=some (.bl true):=by
 obtain⟨e',h1,v2,rfl⟩:=qv (i:=2) (g:=zcg) (λk e=>∃v2,e=[some (.sh (iT xs)),some (.sh (iT xs)),v2]) (rngD 0 xs.length) [some (.sh (iT xs)),some (.sh (iT xs)),none] ⟨none,rfl⟩ (by
  rintro k d e hd ⟨v2,rfl⟩;obtain⟨rfl,U⟩:=qp hd;have V:atI (xs.map D.int) (k:Int)=some (.int xs[k]):=kh D.int (by simp[U]);exact⟨[some (.sh (iT xs)),some (.sh (iT xs)),some (.sh (.int (0+k)))],by simp[zcg,iT,V,zmx],_,rfl⟩)
 have hi:=oo xs.length (by lia);refine j4 (e':=?w) rfl ?h;show zes [some (.sh (iT xs)),some (.sh (iT xs)),none]=_;have I:forL 2 zcg (rngD 0 xs.length) [some (.sh (.tup (xs.map D.int))),some (.sh (.tup (xs.map D.int))),none]=some (.nx,[some (.sh (.tup (xs.map D.int))),some (.sh (.tup (xs.map D.int))),v2]):=h1;simp[zes,iT,hi,I];rfl
theorem zoo(f:α->f5)(xs:List α)(Y:xs.length<=1000)(I:∀x∈xs,(f x).length<=1000):zcx [.lst (xs.map λx=>iT (f x)),.lst (xs.map λx=>iT (f x))]=some (.bl true):=by
 obtain⟨e',h1,v2,rfl⟩:=qv (i:=2) (g:=zc9) (λk e=>∃v2,e=[some (.sh (.lst (xs.map λx=>iT (f x)))),some (.sh (.lst (xs.map λx=>iT (f x)))),v2]) (rngD 0 xs.length) [some (.sh (.lst (xs.map λx=>iT (f x)))),some (.sh (.lst (xs.map λx=>iT (f x)))),none] ⟨none,rfl⟩ (by
  rintro k d e hd ⟨v2,rfl⟩;obtain⟨rfl,D⟩:=qp hd;have U:atI (xs.map λx=>iT (f x)) (k:Int)=some (iT (f xs[k])):=kh _ (by simp[D]);have V:=zpy (f xs[k]) (I _ (f7 D));exact⟨[some (.sh (.lst (xs.map λx=>iT (f x)))),some (.sh (.lst (xs.map λx=>iT (f x)))),some (.sh (.int (0+k)))],by simp[zc9,U,V],_,rfl⟩)
 have hi:=oo xs.length (by lia);refine j4 (e':=?w) rfl ?h;show zec [some (.sh (.lst (xs.map λx=>iT (f x)))),some (.sh (.lst (xs.map λx=>iT (f x)))),none]=_;simp[zec,hi,h1];rfl
abbrev Bk:=Int×Int×Int
def hrs(r:g9):Int:=(r.map (·.2.1)).sum
def lss(r:g9):Int:=(r.map (·.2.2)).sum
def blk(r:g9):Bk:=(r.length,hrs r,lss r)
def jn(u b:Bk):Bk:=(u.1+b.1,u.2.1+b.2.1,u.2.2+b.2.2)
def gt(u b:Bk):Prop:=b.2.2*u.2.1<u.2.2*b.2.1
instance (u b:Bk):Decidable (gt u b):=inferInstanceAs (Decidable (_<_))
def SmB(b:Bk):Prop:=ln b.2.1/\ln b.2.2
def zuz(s:Sk):zdu [sD s]=some (sD (1,s.2.1,s.2.2)):=by
 rfl
def zu0(u b:Bk):zdv [sD u,sD b]=some (sD (jn u b)):=by
 simp[zdv,runD,zh4,jw,sD,z0x,ug,uf,jn]
def zso(u b:Bk)(Z:SmB u)(a:SmB b):tp [sD u,sD b]=some (.bl (decide (gt u b))):=by
 obtain⟨c,I,U⟩:=u;obtain⟨d,V,b3⟩:=b;have Y:∀x y z:Int,y9 [sD (x,y,z)]=some (.tup [.int y,.int z]):=λx y z=>by simp[y9,runD,ziq,jw,sD,ug,uf]
 have D:=zq9 I U V b3 Z.2 a.2;by_cases h1:b3*I<U*V
 ·rw[if_pos h1] at D
  simp[tp,runD,zby,jw,Y,D,gt,h1]
 ·rw[if_neg h1] at D
  by_cases h2:U*V<b3*I
  ·rw[if_pos h2] at D
   simp[tp,runD,zby,jw,Y,D,gt,h1]
  ·rw[if_neg h2] at D
   simp[tp,runD,zby,jw,Y,D,gt,h1]
def zu1(bs:g2)(x:D):atI (bs++[x]) (-1)=some x:=zwc bs x
def nn(a b:g9):hrs (a++b)=hrs a+hrs b:=by simp[hrs]
def sd(a b:g9):lss (a++b)=lss a+lss b:=by simp[lss]
def z4l(a b:g9):jn (blk a) (blk b)=blk (a++b):=by
 simp only[jn,blk,nn,sd,aj];simp
theorem tx(r:g9)(h:∀x∈r,gw x):(r.length:Int)<=hrs r/\hrs r<=60*r.length/\0<=lss r/\lss r<=100*r.length:=by
 induction r with
 | nil=>simp[hrs,lss]
 | cons x r ih =>
   obtain⟨h1,h2,D,I⟩:=ih λy U=>h y (au _ U);obtain⟨_,_,V,Y,Z,a⟩:=h x bj;simp[hrs,lss,dq] at h1 h2 D I ⊢
   lia
theorem smB(r:g9)(h:∀x∈r,gw x)(D:r.length<=1000):SmB (blk r):=by
 obtain⟨h1,h2,I,U⟩:=tx r h;exact⟨l3 (by show -1000000000000<hrs r/\hrs r<1000000000000;lia),l3 (by show -1000000000000<lss r/\lss r<1000000000000;lia)⟩
def lm:h7->g9->h7×g9
 | [],b=>([],b)
 | u::r,b=>if gt (blk u) (blk b) then(u::r,b) else lm r (u++b)
def bD(r:g9):D:=sD (blk r)
def zpz(I v2:g5)(bs:g2)(u b:g9):zcv [I,some (.ow (bs++[bD u])),v2,some (.sh (bD b))]=some (.nx,[I,some (.ow bs),v2,some (.sh (bD (u++b)))]):=by
 have e:=zu0 (blk u) (blk b);rw[z4l] at e;simp[zcv,bD,e]
theorem zra(D v2:g5):∀(n:Nat) (I:h7) (b:g9),I.length<n->(∀r∈I,∀x∈r,gw x)->(∀x∈b,gw x)->(I.flatten.length+b.length<=1000) ->
  mn (fAnd (fTst (fBin dGt (jk 1) (fC (.int 0)))) (fNot (fTst (er tp (bz (fIxV 1 (fUn dNeg (fC (.int 1)))) (bz (fVar 3) (fNil))))))) zcv n
   [D,some (.ow (I.reverse.map bD)),v2,some (.sh (bD b))]=some (.nx,[D,some (.ow ((lm I b).1.reverse.map bD)),v2,some (.sh (bD (lm I b).2))])
 | n+1,[],b,_,_,_,_=>by simp[mn,lm]
 | n+1,u::r,b,h,hs,hb,hl=>by
   rw[cf,aj] at hl;have V:tp [bD u,bD b]=some (.bl (decide (gt (blk u) (blk b)))):=zso (blk u) (blk b) (smB u (hs u (by simp)) (by lia)) (smB b hb (by lia));have Y:(0:Int)<(r.length:Int)+1:=by lia
   have U:=zpz D v2 (r.reverse.map bD) u b;unfold mn;rw[List.reverse_cons,bi,bg,cy];by_cases h1:gt (blk u) (blk b)
   ·simp[lm,h1,V,Y,zu1]
   ·have Z:=zra D v2 n r (u++b) (by simpa using h) (λt a=>hs t (by simp[a])) (λx hx=>by
     rcases de.mp hx with hx | hx
     ·exact hs u (by simp) x hx
     ·exact hb x hx) (by rw[aj];lia)
    have c:lm (u::r) b=lm r (u++b):=by simp[lm,h1]
    rw[c];have d:(fAnd (fTst (fBin dGt (jk 1) (fC (.int 0)))) (fNot (fTst (er tp (bz (fIxV 1 (fUn dNeg (fC (.int 1)))) (bz (fVar 3) (fNil)))))))
      [D,some (.ow (r.reverse.map bD++[bD u])),v2,some (.sh (bD b))]=some (true,[D,some (.ow (r.reverse.map bD++[bD u])),v2,some (.sh (bD b))]):=by
     simp[h1,V,Y,zu1]
    rw[d,ac];rw[if_pos rfl,U,ac];exact Z
structure Good (r:g9):Prop where
 ne:r≠[]
 beg:∀p,p <+: r->lss p*hrs r<=lss r*hrs p
theorem zy6(r:g9)(h:∀x∈r,gw x):0<=hrs r:=by have:=tx r h;lia
theorem ql(r:g9)(h:∀x∈r,gw x)(D:r≠[]):0<hrs r:=by
 have h1:=tx r h;have:0<r.length:=gk.mpr D
 lia
def zp0{α:Type}:∀ {u b p:List α},p <+: u++b->p <+: u\/∃t,p=u++t/\t <+: b
 | [],b,p,h=>.inr ⟨p,rfl,h⟩
 | a::u,b,[],h=>.inl List.nil_prefix
 | a::u,b,c::p,h=>by
   rw[jt,List.cons_prefix_cons] at h;obtain⟨rfl,h⟩:=h;rcases zp0 h with h | ⟨t,rfl,ht⟩
   ·exact .inl (by rw[List.cons_prefix_cons];exact⟨rfl,h⟩)
   ·exact .inr ⟨t,rfl,ht⟩
variable{b:Bk}
theorem Good.join{u b:g9}(I:Good u)(V:Good b)(Y:∀x∈u,gw x)(Z:∀x∈b,gw x)(h:¬gt (blk u) (blk b)):Good (u++b):=by
 have h':lss u*hrs b<=lss b*hrs u:=Int.not_lt.mp h;have f:=ql u Y I.ne;have c:=ql b Z V.ne;refine⟨by simp[I.ne],λp D=>?_⟩;rw[nn,sd];rcases zp0 D with D | ⟨t,rfl,ht⟩
 ·-- within u
  have h1:=I.beg p D;have g:0<=hrs p:=zy6 p λx U=>Y x (D.subset U);have o:lss p*hrs u*(hrs u+hrs b)<=lss u*hrs p*(hrs u+hrs b):=gv h1 (by lia);have r:hrs p*(lss u*hrs b)<=hrs p*(lss b*hrs u):=qb h' g;have i:lss p*(hrs u+hrs b)*hrs u<=(lss u+lss b)*hrs p*hrs u:=by
   have d:lss p*(hrs u+hrs b)*hrs u=lss p*hrs u*(hrs u+hrs b):=by rw[iq,ij (hrs u+hrs b),<-iq]
   have e:lss u*hrs p*(hrs u+hrs b)=lss u*hrs p*hrs u+hrs p*(lss u*hrs b):=by rw[ib,ij (lss u) (hrs p),iq (hrs p) (lss u) (hrs b)]
   have j:(lss u+lss b)*hrs p*hrs u=lss u*hrs p*hrs u+hrs p*(lss b*hrs u):=by rw[iz,iz,ij (lss b) (hrs p),iq (hrs p) (lss b) (hrs u)]
   lia
  exact ud i f
 ·-- u and a beginning of b
  rw[nn,sd];have h1:=V.beg t ht;obtain⟨q,rfl⟩:=ht;rw[nn,sd] at h1 h' ⊢;rw[nn] at c;have k:0<=hrs q:=zy6 q λx U=>Z x (bn _ U);have l:lss t*hrs q<=lss q*hrs t:=by
   have d:lss t*(hrs t+hrs q)=lss t*hrs t+lss t*hrs q:=ib _ _ _;have e:(lss t+lss q)*hrs t=lss t*hrs t+lss q*hrs t:=iz _ _ _
   lia
  have s:lss u*(hrs t+hrs q)*hrs q<=(lss t+lss q)*hrs u*hrs q:=gv h' k;have m:0<=hrs u:=by lia
  have b3:hrs u*(lss t*hrs q)<=hrs u*(lss q*hrs t):=qb l m;have n:lss u*hrs q*(hrs t+hrs q)<=lss q*hrs u*(hrs t+hrs q):=by
   have d:lss u*hrs q*(hrs t+hrs q)=lss u*(hrs t+hrs q)*hrs q:=by rw[iq,ij (hrs q),<-iq]
   have e:(lss t+lss q)*hrs u*hrs q=hrs u*(lss t*hrs q)+lss q*hrs u*hrs q:=by rw[iz,iz,ij (lss t) (hrs u),iq (hrs u) (lss t) (hrs q)]
   have j:lss q*hrs u*(hrs t+hrs q)=hrs u*(lss q*hrs t)+lss q*hrs u*hrs q:=by rw[ib,ij (lss q) (hrs u),iq (hrs u) (lss q) (hrs t)]
   lia
  have v:lss u*hrs q<=lss q*hrs u:=ud n c;simp only[ib,iz]
  lia
def Desc:h7->Prop
 | []=>True
 | [_]=>True
 | b::u::r=>gt (blk u) (blk b)/\Desc (u::r)
structure Runs (rs:h7) (s:g9):Prop where
 flat:rs.reverse.flatten=s
 good:∀r∈rs,Good r
 desc:Desc rs
def zrb:∀(V:h7) (b:g9) (s:g9),Runs V s->Good b->(∀x∈s++b,gw x)->Runs ((lm V b).2::(lm V b).1) (s++b)
 | [],b,s,h,gb,_=>by
   have:s=[]:=by have:=h.flat;simpa using this.symm
   subst this;exact⟨by simp[lm],λr I=>by simp[lm] at I;rw[I];exact gb,trivial⟩
 | u::r,b,s,h,gb,hx=>by
   have U:s=r.reverse.flatten++u:=by rw[<-h.flat];simp
   by_cases h1:gt (blk u) (blk b)
   ·have e:lm (u::r) b=(u::r,b):=by simp[lm,h1]
    rw[e];refine⟨by simp[U],λt ht=>?_,h1,h.desc⟩;rcases b7.mp ht with rfl | ht
    ·exact gb
    ·exact h.good t ht
   ·have e:lm (u::r) b=lm r (u++b):=by simp[lm,h1]
    rw[e];have I:Runs r r.reverse.flatten:=⟨rfl,λt ht=>h.good t (au _ ht),by
     have:=h.desc;cases r with
     | nil=>trivial
     | cons v r=>exact this.2⟩
    have Y:Good (u++b):=(h.good u (by simp)).join gb (λx D=>hx x (by rw[U];simp[D])) (λx D=>hx x (by simp[D])) h1;have:=zrb r (u++b) r.reverse.flatten I Y (λx D=>hx x (by rw[U];simpa[or_assoc] using D));rw[U,b9];exact this
def zxm(x:Sk)(h:gw x):Good [x]:=⟨by simp,λp I=>by
 have:p=[]\/p=[x]:=by
  obtain⟨t,D⟩:=I;cases p with
  | nil=>exact .inl rfl
  | cons y q=>simp at D;simp[D]
 rcases this with rfl | rfl
 ·simp[lss,hrs]
 ·exact Int.le_refl _⟩
def zu2(x:Sk):zdu [sD x]=some (bD [x]):=by
 rw[zuz];simp[bD,blk,hrs,lss]
theorem zp1(S:D)(I:h7)(s:g9)(x:Sk)(v2 g:g5)(h:Runs I s)(Z:∀y∈s++[x],gw y)(o:s.length<900) :
  ∃V c,Runs V (s++[x])/\zcw [some (.sh S),some (.ow (I.reverse.map bD)),some (.sh (sD x)),g]=some (.nx,[some (.sh S),some (.ow (V.reverse.map bD)),some (.sh (sD x)),c]):=by
 have Y:I.flatten.length=s.length:=by
  rw[<-h.flat,jc,jc,List.map_reverse,List.sum_reverse]
 have i:I.length<=s.length:=by
  rw[<-Y];have:∀(l:h7),(∀r∈l,r≠[])->l.length<=l.flatten.length:=λl=>by
   induction l with
   | nil=>intro _;simp
   | cons a l ih =>
     intro hh;have:=ih λr U=>hh r (au _ U);have j:0<a.length:=gk.mpr (hh a bj);rw[aw,cf,aj]
     lia
  exact this I λr U=>(h.good r U).ne
 have k:=zra (some (.sh S)) (some (.sh (sD x))) 10000 I [x] (by lia) (λr U y b=>Z y (by
  rw[<-h.flat];exact e7 _ (fo.mpr ⟨r,by simpa using U,b⟩))) (λy b=>Z y (by simp at b;simp[b])) (by rw[Y];simp;lia)
 have U:=zrb I [x] s h (zxm x (Z x (by simp))) Z;refine⟨_,some (.sh (bD (lm I [x]).2)),U,?_⟩;have f:(lm I [x]).1.length<=s.length:=by
  have e:=U.flat;have:∀(l:h7),(∀r∈l,r≠[])->l.length<=l.flatten.length:=λl=>by
   induction l with
   | nil=>intro _;simp
   | cons a l ih =>
     intro hh;have:=ih λr U=>hh r (au _ U);have j:0<a.length:=gk.mpr (hh a bj);rw[aw,cf,aj]
     lia
  have h2:=this _ λr d=>(U.good r d).ne;have m:(((lm I [x]).2::(lm I [x]).1).flatten).length=(s++[x]).length:=by
   rw[<-e,jc,jc,List.map_reverse,List.sum_reverse]
  rw[m] at h2;simp at h2;exact h2
 have n:Few ((lm I [x]).1.length+1):=few (by lia);unfold zcw;simp only[sSeq,sSet,er,bz,fVar,fNil,af,ah,ac,ao,zu2,ax,ay,k,jo,lp,rh,ae,List.length_reverse,n,if_true];simp
theorem zhi(s:g9)(a:∀y∈s,gw y)(d:s.length<=14):∃D,Runs D s/\zfe [.lst (s.map sD)]=some (.lst (D.reverse.map bD)):=by
 obtain⟨e',h1,D,v2,I,U,rfl⟩:=nr (i:=2) (g:=zcw) sD (λp e=>∃D v2 I,Runs D p/\e=[some (.sh (.lst (s.map sD))),some (.ow (D.reverse.map bD)),v2,I]) s
  [some (.sh (.lst (s.map sD))),some (.ow []),none,none] ⟨[],none,none,⟨rfl,λr U=>by simp at U,trivial⟩,rfl⟩ (by
   rintro p x q e V ⟨D,v2,I,U,rfl⟩;obtain⟨Y,b,Z,c⟩:=zp1 (.lst (s.map sD)) D p x v2 I U (λy hy=>a y (by
    rw[V];rcases de.mp hy with hy | hy
    ·simp[hy]
    ·simp at hy;simp[hy])) (by
    have:s.length=p.length+(q.length+1):=by rw[V];simp
    lia)
   exact⟨_,c,Y,_,_,Z,rfl⟩)
 refine⟨D,U,?_⟩;refine j4 (e':=[some (.sh (.lst (s.map sD))),some (.sh (.lst (D.reverse.map bD))),v2,I]) rfl ?_;show zfd [some (.sh (.lst (s.map sD))),none,none,none]=_;simp[zfd,h1]
theorem z02(a b c:g2):cutD (a++(b++c)) (some ((a.length:Int))) (some ((a.length:Int)+(b.length:Int)))=b:=by
 unfold cutD;rw[HT.sIx_nat,show(a.length:Int)+(b.length:Int)=((a.length+b.length:Nat):Int) by lia,HT.sIx_nat];simp
def zu3(f:α->Int)(r:List α):bSum [.lst (r.map λx=>.int (f x))]=some (.int (r.map f).sum):=by
 have:(r.map λx=>D.int (f x))=(r.map f).map D.int:=by rw[ed];rfl
 rw[this];show(ints? ((r.map f).map D.int)).map _=_;rw[ints_of];rfl
def zop{α:Type}{ix:f0}{g:FS}(I:α->g2)(P:List α->DE0->Prop)(all:List α)(V:∀x∈all,(I x).length=ix.length)(Y:∀(p:List α) (x:α) (q:List α) (e:DE0),all=p++x::q->P p e->∃e',g (l4 ix (I x) e)=some (.nx,e')/\P (p++[x]) e') :
  ∀(xs U:List α) (e:DE0),all=U++xs->P U e->∃e',forU ix g (xs.map λx=>D.tup (I x)) e=some (.nx,e')/\P all e'
 | [],U,e,h,hp=>⟨e,rfl,by rw[h,cr];exact hp⟩
 | x::xs,U,e,h,hp=>by
   obtain⟨Z,h1,p1⟩:=Y U x xs e h hp;obtain⟨a,h2,p2⟩:=zop I P all V Y xs (U++[x]) Z (by rw[h];simp) p1;have b:=V x (by rw[h];simp);exact⟨a,by simp[forU,unp,b,h1,h2],p2⟩
variable{g:FS}
def sj{ix:f0}(I:α->g2)(P:List α->DE0->Prop)(all:List α)(e:DE0)(U:P [] e)(V:∀x∈all,(I x).length=ix.length)(Y:∀(p:List α) (x:α) (q:List α) (e:DE0),all=p++x::q->P p e->∃e',g (l4 ix (I x) e)=some (.nx,e')/\P (p++[x]) e') :
  ∃e',forU ix g (all.map λx=>D.tup (I x)) e=some (.nx,e')/\P all e':=zop I P all V Y all [] e rfl U
def xg{α:Type}(f:α->D):∀(xs:List α) (c:Nat),mz c (xs.map f)=(xs.zipIdx c).map λp=>D.tup [.int (p.2:Nat),f p.1]
 | [],c=>rfl
 | x::xs,c=>by simp[mz,List.zipIdx_cons,xg f xs (c+1)]
def zmy{α β:Type}(f:α->D)(g:β->D):∀(xs:List α) (ys:List β),zipD (xs.map f) (ys.map g)=(xs.zip ys).map λp=>D.tup [f p.1,g p.2]
 | [],ys=>by simp[zipD]
 | x::xs,[]=>by simp[zipD]
 | x::xs,y::ys=>by simp[zipD,zmy f g xs ys]
theorem t4{u:Bk}(h:gt u b):¬gt b u:=λz=>by
 unfold gt at h z
 lia
variable{c:Bk}
theorem zj{n:Bk}(U:0<n.2.1)(V:0<c.2.1)(D:0<b.2.1)(h1:gt n c)(h2:¬gt b c):gt n b:=by
 have h2:b.2.2*c.2.1<=c.2.2*b.2.1:=Int.not_lt.mp h2;have Y:b.2.2*c.2.1*n.2.1<=c.2.2*b.2.1*n.2.1:=gv h2 (by lia);have Z:c.2.2*n.2.1*b.2.1<n.2.2*c.2.1*b.2.1:=tq h1 D;have I:b.2.2*n.2.1*c.2.1<n.2.2*b.2.1*c.2.1:=by
  have a:b.2.2*n.2.1*c.2.1=b.2.2*c.2.1*n.2.1:=ii ..;have d:n.2.2*b.2.1*c.2.1=n.2.2*c.2.1*b.2.1:=ii ..;have e:c.2.2*b.2.1*n.2.1=c.2.2*n.2.1*b.2.1:=ii ..
  lia
 exact uc I (by lia)
theorem z6c{n:Bk}(D:0<n.2.1)(U:0<c.2.1)(V:0<b.2.1)(h1:¬gt c n)(h2:gt c b):gt n b:=by
 have h1:c.2.2*n.2.1<=n.2.2*c.2.1:=Int.not_lt.mp h1;have Y:c.2.2*n.2.1*b.2.1<=n.2.2*c.2.1*b.2.1:=gv h1 (by lia);have Z:b.2.2*c.2.1*n.2.1<c.2.2*b.2.1*n.2.1:=tq h2 D;have I:b.2.2*n.2.1*c.2.1<n.2.2*b.2.1*c.2.1:=by
  have a:b.2.2*n.2.1*c.2.1=b.2.2*c.2.1*n.2.1:=ii ..;have d:n.2.2*b.2.1*c.2.1=n.2.2*c.2.1*b.2.1:=ii ..;have e:c.2.2*b.2.1*n.2.1=c.2.2*n.2.1*b.2.1:=ii ..
  lia
 exact uc I (by lia)
def z4m{n:Bk}(D:0<n.2.1)(I:0<c.2.1)(U:0<b.2.1)(h1:¬gt c n)(h2:¬gt b c):¬gt b n:=λz=>by
 have:=zj (n:=b) (c:=n) (b:=c) U D I z h1;exact h2 this
abbrev Tn:=Nat×g9
abbrev h8:=List Tn
def tnD(t:Tn):D:=.tup [.int (t.1:Int),.int (t.2.length:Int),.int (hrs t.2),.int (lss t.2)]
def zoq(t:Tn):sw [tnD t]=some (.tup [.int (hrs t.2),.int (lss t.2)]):=by
 simp[sw,runD,zjm,jw,tnD,z55,z56]
def geT(a b:Tn):Bool:=!decide (gt (blk b.2) (blk a.2))
variable{b:g9}{a:Nat}
def z03{a b:Tn}:geT a b=true↔¬gt (blk b.2) (blk a.2):=by simp[geT]
theorem z04(t n:Tn)(D:SmB (blk t.2))(I:SmB (blk n.2)):∃z:Int,tf [.tup [.int (hrs t.2),.int (lss t.2)],.tup [.int (hrs n.2),.int (lss n.2)]]=some (.int z)/\decide (0<=z)=geT t n:=by
 refine⟨_,zq9 _ _ _ _ D.2 I.2,?_⟩;show decide ((0:Int)<=if lss n.2*hrs t.2<lss t.2*hrs n.2 then 1 else if lss t.2*hrs n.2<lss n.2*hrs t.2 then -1 else 0)=!decide (lss t.2*hrs n.2<lss n.2*hrs t.2);by_cases h1:lss n.2*hrs t.2<lss t.2*hrs n.2
 ·rw[if_pos h1]
  have h2:¬lss t.2*hrs n.2<lss n.2*hrs t.2:=by lia
  simp[h2]
 ·rw[if_neg h1]
  by_cases h2:lss t.2*hrs n.2<lss n.2*hrs t.2
  ·simp[h2]
  ·simp[h2]
def plc(ts:h8)(n:Tn):Nat:=(ts.takeWhile λt=>geT t n).length
noncomputable def zlv:FT:=fAnd (fTst (fBin dLt (fVar 2) (jk 0))) (fTst (fBin dGe (er tf (bz (er sw (bz (fIxV 0 (fVar 2)) (fNil))) (bz (er sw (bz (fVar 1) (fNil))) (fNil)))) (fC (.int 0))))
theorem zkw(n:Tn)(a:SmB (blk n.2)):∀(I D:h8) (U:Nat),I.length<U->(∀t∈I,SmB (blk t.2)) ->
  mn zlv zb U [some (.sh (.lst ((D++I).map tnD))),some (.sh (tnD n)),some (.sh (.int (D.length:Int)))]=some (.nx,[some (.sh (.lst ((D++I).map tnD))),some (.sh (tnD n)),some (.sh (.int ((D.length+plc I n:Nat):Int)))])
 | [],D,f+1,h,_=>by
   unfold mn zlv;simp[plc]
 | t::r,D,f+1,h,hs=>by
   obtain⟨z,c,hd⟩:=z04 t n (hs t (by simp)) a;have V:atI ((D++t::r).map tnD) (D.length:Int)=some (tnD t):=kh tnD (by simp);have Y:(D.length:Int)<((D++t::r).map tnD).length:=by simp;lia
   have d:zlv [some (.sh (.lst ((D++t::r).map tnD))),some (.sh (tnD n)),some (.sh (.int (D.length:Int)))]=some (geT t n,[some (.sh (.lst ((D++t::r).map tnD))),some (.sh (tnD n)),some (.sh (.int (D.length:Int)))]):=by
    unfold zlv;generalize (D++t::r).map tnD=L at V Y;simp[Y,V,zoq,c,hd]
   unfold mn;rw[d,ac];cases hg:geT t n with
   | false =>
     simp[plc,hg]
   | true =>
     rw[if_pos rfl];have e:zb [some (.sh (.lst ((D++t::r).map tnD))),some (.sh (tnD n)),some (.sh (.int (D.length:Int)))]=some (.nx,[some (.sh (.lst ((D++t::r).map tnD))),some (.sh (tnD n)),some (.sh (.int ((D++[t]).length:Int)))]):=by
      simp[zb]
     rw[e,ac];have b:=zkw n a r (D++[t]) f (by simpa using h) λt' Z=>hs t' (by simp[Z]);rw[b9,ff] at b;rw[b];have:(D++[t]).length+plc r n=D.length+plc (t::r) n:=by simp[plc,hg];lia
     rw[this]
theorem zxo(ts:h8)(n:Tn)(D:SmB (blk n.2))(I:∀t∈ts,SmB (blk t.2))(U:ts.length<9000):zev [.lst (ts.map tnD),tnD n]=some (.int (plc ts n:Int)):=by
 have h:=zkw n D ts [] 10000 (by lia) I;refine j4 (e':=[some (.sh (.lst (ts.map tnD))),some (.sh (tnD n)),some (.sh (.int (plc ts n:Int)))]) rfl ?_;show zeu [some (.sh (.lst (ts.map tnD))),some (.sh (tnD n)),none]=_;have h':mn zlv zb 10000 [some (.sh (.lst (ts.map tnD))),some (.sh (tnD n)),some (.sh (.int 0))]=_:=h;unfold zlv at h';simp[zeu,h']
def ins(ts:h8)(n:Tn):h8:=(ts.takeWhile λt=>geT t n)++n::ts.dropWhile λt=>geT t n
def z4n(ts:h8)(n:Tn):(ts.map tnD).take (plc ts n)++tnD n::(ts.map tnD).drop (plc ts n)=(ins ts n).map tnD:=by
 have e:=jp (p:=λt=>geT t n) (l:=ts);have D:plc ts n=(ts.takeWhile λt=>geT t n).length:=rfl;have h1:ts.take (plc ts n)=ts.takeWhile λt=>geT t n:=by
  rw[D];generalize (ts.takeWhile λt=>geT t n)=A at e;rw[<-e];exact l9
 have h2:ts.drop (plc ts n)=ts.dropWhile λt=>geT t n:=by
  rw[D];generalize (ts.takeWhile λt=>geT t n)=A at e
  conv=>lhs;rw[<-e]
  exact List.drop_left
 rw[<-List.map_take,<-xy,h1,h2];simp[ins]
def z4o(ts:h8)(n:Tn):plc ts n<=ts.length:=(lh _).length_le
theorem zsp(U V v7:g5)(ts:h8)(I:Nat)(r:g9)(a:SmB (blk r))(b:∀t∈ts,SmB (blk t.2))(c:ts.length<9000) :
  y8 [U,some (.ow (ts.map tnD)),some (.sh (.int (I:Int))),V,some (.sh (.int (r.length:Int))),some (.sh (.int (hrs r))),some (.sh (.int (lss r))),v7] =
   some (.nx,[U,some (.ow ((ins ts (I,r)).map tnD)),some (.sh (.int (I:Int))),V,some (.sh (.int (r.length:Int))),some (.sh (.int (hrs r))),some (.sh (.int (lss r))),some (.sh (tnD (I,r)))]):=by
 have Y:=zxo ts (I,r) a b c;have Z:=z4n ts (I,r);have h1:(plc ts (I,r):Int)<=((ts.map tnD).length:Nat):=by rw[ae];have:=z4o ts (I,r);lia
 have h2:Few ((ts.map tnD).length+1):=few (by rw[ae];lia);have d:D.tup [.int (I:Int),.int (r.length:Int),.int (hrs r),.int (lss r)]=tnD (I,r):=rfl;have e:(0:Int)<=(plc ts (I,r):Int):=by lia
 generalize ts.map tnD=L at Y Z h1 h2;simp[y8,zmh,yf,zw,d,Y,ui,z0m,e,h1,h2,fy,Z]
def bef(a b:Tn):Prop:=gt (blk a.2) (blk b.2)\/(¬gt (blk b.2) (blk a.2)/\a.1<b.1)
def ofS(ts:h8)(j:Nat):h7:=(ts.filter λt=>t.1==j+1).map (·.2)
structure TurnsOk (ss:h7) (ts:h8):Prop where
 lo:∀t∈ts,1<=t.1/\t.1<=ss.length
 good:∀t∈ts,Good t.2
 part:∀(j:Nat) (s:g9),ss[j]?=some s->(ofS ts j).flatten=s
 srt:ts.Pairwise bef
 perm:(ts.map (·.2)).flatten.Perm ss.flatten
variable{ss:h7}{ts:h8}
def TurnsOk.sk(h:TurnsOk ss ts)(D:∀x∈ss.flatten,gw x):∀t∈ts,∀x∈t.2,gw x:=λt I x U =>
 D x (h.perm.mem_iff.mp (fo.mpr ⟨t.2,cx.mpr ⟨t,I,rfl⟩,U⟩))
def TurnsOk.len1(h:TurnsOk ss ts):∀t∈ts,t.2.length<=ss.flatten.length:=λt D=>by
 rw[<-h.perm.length_eq];exact(eo (cx.mpr ⟨t,D,rfl⟩)).length_le
theorem zu4{α:Type}:∀(l:List (List α)),(∀r∈l,r≠[])->l.length<=l.flatten.length
 | [],_=>by simp
 | a::l,h=>by
   have:=zu4 l λr D=>h r (au _ D);have I:0<a.length:=gk.mpr (h a bj);rw[aw,cf,aj]
   lia
def TurnsOk.len(h:TurnsOk ss ts):ts.length<=ss.flatten.length:=by
 have:=zu4 (ts.map (·.2)) λr D=>by
  obtain⟨t,I,rfl⟩:=cx.mp D;exact(h.good t I).ne
 rw[ae,h.perm.length_eq] at this;exact this
protected def TurnsOk.pos(h:TurnsOk ss ts)(I:∀x∈ss.flatten,gw x):∀t∈ts,0<hrs t.2:=λt D=>ql t.2 (h.sk I t D) (h.good t D).ne
def TurnsOk.sm(h:TurnsOk ss ts)(I:∀x∈ss.flatten,gw x)(U:ss.flatten.length<=1000):∀t∈ts,SmB (blk t.2):=λt D=>smB t.2 (h.sk I t D) (b8 (h.len1 t D) U)
theorem TurnsOk.more(h:TurnsOk ss ts):TurnsOk (ss++[[]]) ts/\ofS ts ss.length=[]:=by
 have e:ofS ts ss.length=[]:=by
  unfold ofS;rw[List.filter_eq_nil_iff.mpr λt I=>by have:=(h.lo t I).2;simp;lia];rfl
 refine⟨⟨λt I=>⟨(h.lo t I).1,by have:=(h.lo t I).2;simp;lia⟩,h.good,λj s D=>?_,h.srt,by simpa using h.perm⟩,e⟩;by_cases U:j<ss.length
 ·rw[bf U] at D
  exact h.part j s D
 ·have:j=ss.length:=by
   have:=(am.mp D).1;simp at this
   lia
  subst this;simp at D;subst D;rw[e];rfl
def z05{ts:h8}{n t:Tn}:t∈ins ts n↔t∈ts\/t=n:=by
 unfold ins;have e:=jp (p:=λt=>geT t n) (l:=ts);have D:t∈ts↔t∈(ts.takeWhile λt=>geT t n)\/t∈ts.dropWhile λt=>geT t n:=by
  conv=>lhs;rw[<-e]
  exact de
 rw[D];simp[de];constructor
 ·rintro(h | h | h)
  ·exact .inl (.inl h)
  ·exact .inr h
  ·exact .inl (.inr h)
 ·rintro((h | h) | h)
  ·exact .inl h
  ·exact .inr (.inr h)
  ·exact .inr (.inl h)
theorem TurnsOk.ins{ss:h7}{ts:h8}{D r:g9}{p:h7}(h:TurnsOk (ss++[D]) ts)(Z:ofS ts ss.length=p)(o:Good r)(k:∀x∈r,gw x)(y:∀x∈(ss++[D]).flatten,gw x)(hd:∀u∈p,gt (blk u) (blk r)):TurnsOk (ss++[D++r]) (LB.ins ts (ss.length+1,r))/\ofS (LB.ins ts (ss.length+1,r)) ss.length=p++[r]:=by
 have e:=jp (p:=λt=>geT t (ss.length+1,r)) (l:=ts);have hA:∀t∈(ts.takeWhile λt=>geT t (ss.length+1,r)),geT t (ss.length+1,r)=true:=λt V=>by
  have:=List.all_takeWhile (p:=λt=>geT t (ss.length+1,r)) (l:=ts);exact gn.mp this t V
 have C:0<hrs r:=ql r k o.ne;have I:=@z05 ts (ss.length+1,r);have m:∀b0 f,ts.dropWhile (λt=>geT t (ss.length+1,r))=b0::f->gt (blk r) (blk b0.2):=λb0 f hb=>by
  have:geT b0 (ss.length+1,r)=false:=by
   have:=List.head?_dropWhile_not (p:=λt=>geT t (ss.length+1,r)) ts;rw[hb] at this;simpa using this
  unfold geT at this;simpa using this
 unfold LB.ins at I ⊢;have srt:=h.srt;have pos:=h.pos y;have Y:∀t∈ts,t.1=ss.length+1->gt (blk t.2) (blk r):=λt V c=>hd t.2 (by
  rw[<-Z];exact cx.mpr ⟨t,fj.mpr ⟨V,by simp[c]⟩,rfl⟩)
 have lo:=h.lo;have part:=h.part;have U:=h.perm;rw[<-e] at srt pos Y lo part U Z;generalize (ts.takeWhile λt=>geT t (ss.length+1,r))=A at *;generalize (ts.dropWhile λt=>geT t (ss.length+1,r))=B at *;have q:∀b∈B,gt (blk r) (blk b.2):=λb hb=>by
  cases B with
  | nil=>simp at hb
  | cons b0 f =>
    have v:=m b0 f rfl;rcases b7.mp hb with rfl | hb'
    ·exact v
    ·have E:=(iw.mp srt).2.1
     have:=(d9.mp E).1 b hb';have F:¬gt (blk b.2) (blk b0.2):=by
      rcases this with z | z
      ·exact t4 z
      ·exact z.1
     exact zj C (pos b0 (by simp)) (pos b (by simp[hb'])) v F
 have w:(B.filter λt=>t.1==ss.length+1)=[]:=List.filter_eq_nil_iff.mpr λt V=>by
  intro z;exact t4 (q t V) (Y t (by simp[V]) (by simpa using z))
 have of:ofS (A++(ss.length+1,r)::B) ss.length=p++[r]:=by
  unfold ofS at Z ⊢;rw[f9,w,cr] at Z;rw[f9,ky (by simp),w,bi,Z];rfl
 refine⟨⟨λt V=>?_,λt V=>?_,λj s g=>?_,?_,?_⟩,of⟩
 ·rcases(I.mp V) with z | z
  ·have:=h.lo t z;simp at this ⊢;lia
  ·subst z;simp
 ·rcases(I.mp V) with z | z
  ·exact h.good t z
  ·subst z;exact o
 ·by_cases d:j<ss.length
  ·rw[bf d] at g
   have:=part j s (by rw[bf d];exact g);rw[<-this];unfold ofS;rw[f9,f9,kz (by simp;lia)]
  ·have:j=ss.length:=by
    have:=(am.mp g).1;simp at this
    lia
   subst this;have G:D++r=s:=by simpa using g
   rw[of,<-G];have:=part ss.length D (by simp);rw[show ofS (A++B) ss.length=p from Z] at this;simp[this]
 ·have n:=iw.mp srt
  refine iw.mpr ⟨n.1,d9.mpr ⟨λb hb=>.inl (q b hb),n.2.1⟩,λa i b hb=>?_⟩;rcases b7.mp hb with rfl | hb
  ·have H:=hA a i
   by_cases c:a.1=ss.length+1
   ·exact .inl (Y a (by simp[i]) c)
   ·have:=(lo a (by simp[i])).2
    exact .inr ⟨z03.mp H,by simp at this ⊢;lia⟩
  ·exact n.2.2 a i b hb
 ·have c:((A++(ss.length+1,r)::B).map (·.2)).flatten=(A.map (·.2)).flatten++(r++(B.map (·.2)).flatten):=by simp
  have J:(ss++[D++r]).flatten=(ss++[D]).flatten++r:=by simp
  rw[c,J];have K:((A++B).map (·.2)).flatten=(A.map (·.2)).flatten++(B.map (·.2)).flatten:=by simp
  rw[K] at U;refine List.Perm.trans ?_ (U.append_right r);rw[b9];exact lu _ List.perm_append_comm
def zp2:∀(D:h7),Desc D->(∀r∈D,0<hrs r)->D.Pairwise (λb u=>gt (blk u) (blk b))
 | [],_,_=>.nil
 | [b],_,_=>by simp
 | b::u::r,h,hp=>by
   have U:=zp2 (u::r) h.2 λx I=>hp x (au _ I);refine d9.mpr ⟨λx I=>?_,U⟩;rcases b7.mp I with rfl | hx'
   ·exact h.1
   ·have:=(d9.mp U).1 x hx'
    exact zj (hp x (by simp[hx'])) (hp u (by simp)) (hp b (by simp)) this (t4 h.1)
theorem zp3(S:D)(ss:h7)(s:g9)(ts:h8)(n v5 v6 v7:g5)(h:TurnsOk ss ts)(A:∀x∈(ss++[s]).flatten,gw x)(t:(ss++[s]).flatten.length<=14) :
  ∃I j k l c,TurnsOk (ss++[s]) I/\zda [some (.sh S),some (.ow (ts.map tnD)),some (.sh (.int ((ss.length+1:Nat):Int))),some (.sh (.lst (s.map sD))),n,v5,v6,v7] =
   some (.nx,[some (.sh S),some (.ow (I.map tnD)),some (.sh (.int ((ss.length+1:Nat):Int))),some (.sh (.lst (s.map sD))),j,k,l,c]):=by
 have d:∀x∈s,gw x:=λx hx=>A x (by simp[hx]);have v:s.length<=14:=by simp at t;lia
 obtain⟨Z,o,B⟩:=zhi s d v;have U:=o.flat;have f:∀r∈Z.reverse,Good r:=λr h=>o.good r (List.mem_reverse.mp h);have i:∀r∈Z.reverse,∀x∈r,gw x:=λr h x hx=>d x (by rw[<-U];exact fo.mpr ⟨r,h,hx⟩);have m:Z.reverse.Pairwise (λu b=>gt (blk u) (blk b)):=by
  rw[List.pairwise_reverse];exact zp2 Z o.desc λr h=>ql r (i r (List.mem_reverse.mpr h)) (o.good r h).ne
 have m0:=h.more;obtain⟨e',h1,I,j,k,l,c,w,C,rfl⟩:=sj (ix:=[4,5,6]) (g:=y8) (λr:g9=>[D.int (r.length:Int),.int (hrs r),.int (lss r)])
  (λp e=>∃I j k l c,TurnsOk (ss++[p.flatten]) I/\ofS I ss.length=p/\e=[some (.sh S),some (.ow (I.map tnD)),some (.sh (.int ((ss.length+1:Nat):Int))),some (.sh (.lst (s.map sD))),j,k,l,c]) Z.reverse
  [some (.sh S),some (.ow (ts.map tnD)),some (.sh (.int ((ss.length+1:Nat):Int))),some (.sh (.lst (s.map sD))),n,v5,v6,v7] ⟨ts,n,v5,v6,v7,m0.1,m0.2,rfl⟩ (λ_ _=>rfl) (by
   rintro p r q e V ⟨I,j,k,l,c,ok,of,rfl⟩;have Y:r∈Z.reverse:=by rw[V];simp
   have a:∀x∈(ss++[p.flatten]).flatten,gw x:=λx hx=>by
    rw[em,de] at hx;rcases hx with hx | hx
    ·exact A x (by rw[em];exact e7 _ hx)
    ·refine d x ?_
     rw[<-U,V,em];exact e7 _ (by simpa using hx)
   have E:(ss++[p.flatten]).flatten.length<=14:=by
    have:p.flatten.length<=s.length:=by rw[<-U,V,em,aj];lia
    rw[em,aj] at t ⊢;simp only[cf,List.flatten_nil,cr] at t ⊢
    lia
   have y:∀u∈p,gt (blk u) (blk r):=λu F=>by
    rw[V] at m;exact(iw.mp m).2.2 u F r (by simp)
   obtain⟨G,H⟩:=ok.ins of (f r Y) (i r Y) a y;have J:r.length<=14:=by
    have:r.length<=Z.reverse.flatten.length:=(eo Y).length_le;rw[U] at this;lia
   have body:=zsp (some (.sh S)) (some (.sh (.lst (s.map sD)))) c I (ss.length+1) r (smB r (i r Y) (by lia)) (ok.sm a (by lia)) (by have:=ok.len;lia);exact⟨_,body,_,_,_,_,_,by simpa using G,H,rfl⟩)
 refine⟨I,j,k,l,c,by rw[<-U];exact w,?_⟩;have z:forU [4,5,6] y8 (Z.reverse.map bD) [some (.sh S),some (.ow (ts.map tnD)),some (.sh (.int ((ss.length+1:Nat):Int))),some (.sh (.lst (s.map sD))),n,v5,v6,v7]=_:=h1;simp only[zda,mj,fiS,er,bz,fVar,fNil,af,ah,ac,ao,B,z]
def ssL(ss:h7):D:=.lst (ss.map λs=>D.lst (s.map sD))
theorem zfo(ss:h7)(f:∀x∈ss.flatten,gw x)(h:ss.flatten.length<=14):∃ts,TurnsOk ss ts/\tj [ssL ss]=some (.lst (ts.map tnD)):=by
 obtain⟨e',h1,ts,v2,Y,I,v5,v6,v7,ok,rfl⟩:=sj (ix:=[2,3]) (g:=zda) (λp:g9×Nat=>[D.int (p.2:Int),D.lst (p.1.map sD)])
  (λp e=>∃ts v2 Y I v5 v6 v7,TurnsOk (p.map (·.1)) ts/\e=[some (.sh (ssL ss)),some (.ow (ts.map tnD)),v2,Y,I,v5,v6,v7]) (ss.zipIdx 1)
  [some (.sh (ssL ss)),some (.ow []),none,none,none,none,none,none] ⟨[],none,none,none,none,none,none,⟨by simp,by simp,by simp,.nil,by simp⟩,rfl⟩ (λ_ _=>rfl) (by
   rintro p x q e U ⟨ts,v2,Y,I,v5,v6,v7,ok,rfl⟩;have a:ss=p.map (·.1)++x.1::q.map (·.1):=by
    have:=congrArg (List.map (·.1)) U;simpa using this
   have b:x.2=(p.map (·.1)).length+1:=by
    have:(ss.zipIdx 1)[p.length]?=some x:=by rw[U];simp
    rw[iy] at this;cases hs:ss[p.length]? with
    | none=>rw[hs] at this;cases this
    | some s =>
      rw[hs] at this;cases this;simp;lia
   have V:ss.flatten=(p.map (·.1)++[x.1]).flatten++(q.map (·.1)).flatten:=by rw[a];simp
   obtain⟨c,j,k,l,m,d,Z⟩:=zp3 (ssL ss) (p.map (·.1)) x.1 ts I v5 v6 v7 ok (λy i=>f y (by rw[V];exact e7 _ i)) (by rw[V,aj] at h;lia);rw[<-b] at Z;exact⟨_,Z,c,_,_,_,_,_,_,by simpa using d,rfl⟩)
 refine⟨ts,by simpa using ok,?_⟩;refine j4 (e':=[some (.sh (ssL ss)),some (.sh (.lst (ts.map tnD))),v2,Y,I,v5,v6,v7]) rfl ?_;show zf9 [some (.sh (ssL ss)),none,none,none,none,none,none,none]=_;have Z:iEn 1 [ssL ss]=some ((ss.zipIdx 1).map λp=>D.tup [D.int (p.2:Int),D.lst (p.1.map sD)]):=by
  show some (mz 1 (ss.map λs=>D.lst (s.map sD)))=_;rw[xg]
 simp only[zf9,sSeq,sOwn,il,fNil,ac,ao,cg,dy,if_true,ax,ay,mj,gz,bz,fVar,af,ah,Z,h1,sRet]
def i4(n:Nat)(ts:h8):h7:=(List.range n).map λj=>(ofS ts j).flatten
def mi(n:Nat)(ts:h8):(i4 n ts).length=n:=by simp[i4]
variable{j:Nat}
def ox(h:j<n):(i4 n ts)[j]?=some ((ofS ts j).flatten):=by simp[i4,h]
theorem TurnsOk.left(h:TurnsOk ss ts):i4 ss.length ts=ss:=by
 apply d6;intro j;by_cases D:j<ss.length
 ·rw[ox D,h.part j ss[j] (by simp[D])]
  simp[D]
 ·rw[c7 (by rw[mi];lia),c7 (by lia)]
def vh(t:Tn)(ts:h8)(j:Nat)(h:t.1=j+1):ofS (t::ts) j=t.2::ofS ts j:=by
 unfold ofS;rw[ky (by simp[h])];rfl
def yv(t:Tn)(ts:h8)(j:Nat)(h:t.1≠j+1):ofS (t::ts) j=ofS ts j:=by
 unfold ofS;rw[kz (by simp[h])]
variable{t:Tn}
theorem zlw(h1:1<=t.1)(h2:t.1<=n):(i4 n (t::ts))[t.1-1]?=some (t.2++(ofS ts (t.1-1)).flatten):=by
 rw[ox (by lia),vh t ts (t.1-1) (by lia)];simp
theorem zp4(h1:1<=t.1)(h2:t.1<=n):i4 n ts=(i4 n (t::ts)).set (t.1-1) ((ofS ts (t.1-1)).flatten):=by
 apply d6;intro j;by_cases D:j<n
 ·rw[ir,ox D,ox D,mi]
  by_cases e:t.1-1=j
  ·subst e
   simp[D]
  ·rw[if_neg e,yv t ts j (by lia)]
 ·rw[c7 (by rw[mi];lia),c7 (by rw[du,mi];lia)]
theorem zor(h1:1<=t.1)(h2:t.1<=n):i4 n (t::ts)=(i4 n ts).set (t.1-1) (t.2++(ofS ts (t.1-1)).flatten):=by
 apply d6;intro j;by_cases D:j<n
 ·rw[ir,ox D,ox D,mi]
  by_cases e:t.1-1=j
  ·subst e
   rw[vh t ts (t.1-1) (by lia)];simp[D]
  ·rw[if_neg e,yv t ts j (by lia)]
 ·rw[c7 (by rw[mi];lia),c7 (by rw[du,mi];lia)]
def zir{α:Type}:∀ {l:List (List α)} {j:Nat} {s x:List α},l[j]?=some s->(l.set j (x++s)).flatten.Perm (x++l.flatten)
 | a::l,0,s,x,h=>by
   simp at h;subst h;simp
 | a::l,j+1,s,x,h=>by
   have D:=zir (l:=l) (j:=j) (s:=s) (x:=x) (by simpa using h);simp;refine(D.append_left a).trans ?_;rw[<-b9,<-b9];exact List.perm_append_comm.append_right _
theorem zig{n:Nat}:∀ {ts:h8},(∀t∈ts,1<=t.1/\t.1<=n)->(ts.map (·.2)).flatten.Perm (i4 n ts).flatten
 | [],_=>by
   have:(i4 n []).flatten=[]:=by simp[i4,ofS]
   rw[this];exact .nil
 | t::ts,h=>by
   have D:=zig (n:=n) (ts:=ts) λt' I=>h t' (au _ I);obtain⟨h1,h2⟩:=h t bj;rw[zor h1 h2,bg,cf];exact(D.append_left t.2).trans (zir (ox (by lia))).symm
def TurnsOk.tail(h:TurnsOk (i4 n (t::ts)) (t::ts)):TurnsOk (i4 n ts) ts:=by
 have lo:∀t'∈ts,1<=t'.1/\t'.1<=n:=λt' D=>by
  have:=h.lo t' (au _ D);rw[mi] at this;exact this
 refine⟨λt' D=>by rw[mi];exact lo t' D,λt' D=>h.good t' (au _ D),λj s I=>?_,(d9.mp h.srt).2,zig lo⟩;have U:=(am.mp I).1;rw[mi] at U;rw[ox U] at I;exact bh I
def z06(a b:g2):cutD (a++b) none (some (a.length:Int))=a:=by
 unfold cutD;rw[HT.sIx_none,HT.sIx_nat];simp
def zp5(a b:g2):cutD (a++b) (some (a.length:Int)) none=b:=by
 unfold cutD;rw[HT.sIx_none,HT.sIx_nat];simp
variable{ar:Nat}{ds:g2}{e':DE0}
def zp6{I:g2}(h:ds.length=ar)(U:g (jw n ds)=some (.rf I,e')):runF n ar g ds=some I:=by
 unfold runF;rw[if_pos h,U]
def hT:h7->Bk
 | []=>(0,1,-1)
 | r::_=>blk r
def kD(b:Bk):D:=.lst [.int b.1,.int b.2.1,.int b.2.2]
variable{r:g9}{q:f0}
theorem z4p{q:g9}(h1:gt (blk r) (blk b))(h2:gt (blk r) (blk q)):gt (blk r) (blk (b++q)):=by
 have h1:lss b*hrs r<lss r*hrs b:=h1;have h2:lss q*hrs r<lss r*hrs q:=h2;show lss (b++q)*hrs r<lss r*hrs (b++q);rw[sd,nn,iz,ib]
 lia
theorem zy7{r:g9}(I:0<hrs r):∀(rest:h7) (q:g9),(∀b∈rest,gt (blk r) (blk b))->(∀b∈rest,Good b)->(∀b∈rest,∀x∈b,gw x)->q <+: rest.flatten->q≠[]->gt (blk r) (blk q)
 | [],q,_,_,_,hq,ne=>by simp at hq;exact absurd hq ne
 | b::rest,q,hd,hg,hs,hq,ne=>by
   have U:=hg b (by simp);have V:=hs b (by simp);rcases zp0 hq with hq | ⟨q',rfl,hq'⟩
   ·have sq:∀x∈q,gw x:=λx Z=>V x (hq.subset Z)
    refine zj I (ql b V U.ne) (ql q sq ne) (hd b (by simp)) ?_;have:=U.beg q hq;show ¬(lss b*hrs q<lss q*hrs b)
    lia
   ·by_cases Y:q'=[]
    ·subst Y
     rw[cr];exact hd b (by simp)
    ·exact z4p (hd b (by simp)) (zy7 I rest q' (λc D=>hd c (by simp[D])) (λc D=>hg c (by simp[D])) (λc D=>hs c (by simp[D])) hq' Y)
variable{s:g9}
def zmz(D:k<s.length):hrs (s.take (k+1))=hrs (s.take k)+s[k].2.1/\lss (s.take (k+1))=lss (s.take k)+s[k].2.2:=by
 rw[jl D,nn,sd];simp[hrs,lss]
theorem z07(D:∀x∈s,gw x)(U:s.length<=14)(k:Nat):0<=hrs (s.take k)/\hrs (s.take k)<=840/\0<=lss (s.take k)/\lss (s.take k)<=1400:=by
 have:=tx (s.take k) λx I=>D x (List.mem_of_mem_take I);have h2:(s.take k).length<=14:=by rw[dz];lia
 lia
theorem z08(U:h7)(hd:U.Pairwise λu b=>gt (blk u) (blk b))(K:∀r∈U,Good r)(l:∀x∈U.flatten,gw x)(L:U.flatten.length<=14):zgb [.lst (U.flatten.map sD)]=some (kD (hT U)):=by
 cases U with
 | nil=>simp[zgb,runD,zga,jw,hT,kD,oo 0 (by lia),rngD,forL,show iR1 [.int 0]=some (rngD 0 0) from oo 0 (by lia)]
 | cons r rest =>
   have t:(r::rest).flatten=r++rest.flatten:=cf ..;rw[t] at l L ⊢;have v:=K r (by simp);have M:∀x∈r,gw x:=λx w=>l x (by simp[w]);have Q:=ql r M v.ne;have T:=tx r M;have y:=(d9.mp hd).1;generalize c:r++rest.flatten=s at *;have A:r.length<=s.length:=by rw[<-c];simp
   have tk:∀k,k<=r.length->s.take k <+: r:=λk m=>by
    rw[<-c,ia m];exact List.take_prefix _ _
   obtain⟨e',h1,W,n,rfl,V,Y⟩:=qv (i:=4) (g:=yy) (λk e=>∃(b:Bk) (n:g5),e=[some (.sh (.lst (s.map sD))),some (.sh (kD b)),some (.sh (.int (hrs (s.take k)))),some (.sh (.int (lss (s.take k)))),n] /\
     (k<r.length->b=(0,1,-1)\/∃q,q <+: r/\b=blk q)/\(r.length<=k->b=blk r)) (rngD 0 s.length)
    [some (.sh (.lst (s.map sD))),some (.sh (kD (0,1,-1))),some (.sh (.int 0)),some (.sh (.int 0)),none] ⟨(0,1,-1),none,by simp[hrs,lss],λ_=>.inl rfl,λh=>absurd (List.length_eq_zero_iff.mp (Nat.le_zero.mp h)) v.ne⟩ (by
     rintro k d e B ⟨b,n,rfl,V,Y⟩;obtain⟨rfl,m⟩:=qp B;obtain⟨o,p⟩:=zmz m;have X:=z07 l L (k+1);have N:atI (s.map sD) (0+(k:Int))=some (sD s[k]):=by rw[i9];exact kh sD (by simp[m])
     have D:ln (hrs (s.take (k+1))):=l3 (by lia);have I:ln (lss (s.take (k+1))):=l3 (by lia);have O:dIx (sD s[k]) (.int 1)=some (.int s[k].2.1):=rfl;have P:dIx (sD s[k]) (.int 2)=some (.int s[k].2.2):=rfl;have C:yy [some (.sh (.lst (s.map sD))),some (.sh (kD b)),some (.sh (.int (hrs (s.take k)))),some (.sh (.int (lss (s.take k)))),some (.sh (.int (0+(k:Int))))] =
       some (.nx,[some (.sh (.lst (s.map sD))),some (.sh (kD (if b.2.2*hrs (s.take (k+1))<=lss (s.take (k+1))*b.2.1 then blk (s.take (k+1)) else b))),some (.sh (.int (hrs (s.take (k+1))))),some (.sh (.int (lss (s.take (k+1))))),some (.sh (.int (0+(k:Int))))]):=by
      have j:((s.take (k+1)).length:Int)=0+(k:Int)+1:=by rw[dz];lia
      by_cases f:b.2.2*hrs (s.take (k+1))<=lss (s.take (k+1))*b.2.1
      ·rw[if_pos f,show blk (s.take (k+1))=(0+(k:Int)+1,hrs (s.take (k+1)),lss (s.take (k+1))) by unfold blk;rw[j]]
       rw[o] at D;rw[p] at I;rw[o,p] at f ⊢;simp only[yy,kD,sSeq,sSet,sIf,sNil,fBin,fVar,fIxV,ixSl,fC,fTst,fLst,il,bz,fNil,af,ah,ac,ao,ax,ay,N,O,P,h9,ug,uf,om I,zq1 D,dGe,decide_eq_true f,if_true,aw,cg,show(0+1+1+1<=64)=True by simp]
      ·rw[if_neg f]
       rw[o] at D;rw[p] at I;rw[o,p] at f ⊢;simp only[yy,kD,sSeq,sSet,sIf,sNil,fBin,fVar,fIxV,ixSl,fC,fTst,fLst,il,bz,fNil,af,ah,ac,ao,ax,ay,N,O,P,h9,ug,uf,om I,zq1 D,dGe,decide_eq_false f,dc,if_false]
     refine⟨_,C,_,_,rfl,λZ=>?_,λR=>?_⟩
     ·split
      ·exact .inr ⟨_,tk (k+1) (by lia),rfl⟩
      ·exact V (by lia)
     ·by_cases E:r.length<=k
      ·have a:=Y E
       subst a;rw[if_neg];have F:s.take (k+1)=r++rest.flatten.take (k+1-r.length):=by
        rw[<-c,List.take_append,ig (by lia)]
       have G:(rest.flatten.take (k+1-r.length))≠[]:=by
        intro z;have:=congrArg List.length z;rw[dz] at this;have S:s.length=r.length+rest.flatten.length:=by rw[<-c,aj]
        simp only[cg] at this
        lia
       have Z:=zy7 Q rest _ y (λb a=>K b (by simp[a])) (λb a x w=>l x (by rw[<-c];exact bn _ (fo.mpr ⟨b,a,w⟩))) (List.take_prefix (k+1-r.length) rest.flatten) G;rw[F,nn,sd];have Z:lss (rest.flatten.take (k+1-r.length))*hrs r<lss r*hrs (rest.flatten.take (k+1-r.length)):=Z;show ¬(lss r*(hrs r+hrs _)<=(lss r+lss _)*hrs r);rw[ib,iz]
       lia
      ·have H:k+1=r.length:=by lia
       have F:s.take (k+1)=r:=by rw[H,<-c];exact l9
       rw[F,if_pos];rcases V (by lia) with rfl | ⟨q,G,rfl⟩
       ·show -1*hrs r<=lss r*1
        lia
       ·exact v.beg q G)
   rw[pd,List.take_length] at h1;have a:=Y (by rw[pd];exact A);subst a;have hi:iR1 [.int (s.length:Int)]=some (rngD 0 s.length):=oo s.length (by lia);refine j4 (e':=[some (.sh (.lst (s.map sD))),some (.sh (kD (blk r))),some (.sh (.int (hrs s))),some (.sh (.int (lss s))),n]) rfl ?_;show zga [some (.sh (.lst (s.map sD))),none,none,none,none]=_;have J:kD (0,1,-1)=.lst [.int 0,.int 1,.int (-1)]:=rfl;rw[J] at h1;simp[zga,hi,h1];rfl
def zp7(h:r∈ofS ts j):(j+1,r)∈ts:=by
 obtain⟨t,D,rfl⟩:=cx.mp h;obtain⟨h1,h2⟩:=fj.mp D;have:t.1=j+1:=by simpa using h2
 rw[<-this];exact h1
theorem z4q(h:ts.Pairwise bef):(ofS ts j).Pairwise λu b=>gt (blk u) (blk b):=by
 unfold ofS;rw[n6,List.pairwise_filter];refine h.imp λ{a b} hab ha hb=>?_;rcases hab with z | z
 ·exact z
 ·have h1:a.1=j+1:=by simpa using ha
  have h2:b.1=j+1:=by simpa using hb
  lia
def nk(n:Nat)(ts:h8):List Bk:=(List.range n).map λj=>hT (ofS ts j)
def zkx(h:j<n):(nk n ts)[j]?=some (hT (ofS ts j)):=by simp[nk,h]
theorem zj1(ok:TurnsOk (i4 n (t::ts)) (t::ts)):hT (ofS (t::ts) (t.1-1))=blk t.2:=by
 have h1:=(ok.lo t (by simp)).1;rw[vh t ts (t.1-1) (by lia)];rfl
theorem zy8(ok:TurnsOk (i4 n (t::ts)) (t::ts))(D:∀x∈(i4 n (t::ts)).flatten,gw x)(j:Nat) :
  ¬gt (hT (ofS (t::ts) j)) (blk t.2)/\(j<t.1-1->gt (blk t.2) (hT (ofS (t::ts) j))):=by
 have pt:=ok.pos D t (by simp);have st:=tx t.2 (ok.sk D t (by simp));cases h:ofS (t::ts) j with
 | nil =>
   have g:gt (blk t.2) (0,1,-1):=by
    show -1*hrs t.2<lss t.2*1
    lia
   exact⟨t4 g,λ_=>g⟩
 | cons r rest =>
   have hm:(j+1,r)∈t::ts:=zp7 (by rw[h];simp);rcases b7.mp hm with e | hm
   ·subst e
    exact⟨λz=>t4 z z,λz=>by simp at z⟩
   ·have I:=(d9.mp ok.srt).1 _ hm
    rcases I with z | ⟨z,z'⟩
    ·exact⟨t4 z,λ_=>z⟩
    ·exact⟨z,λw=>by simp at z';lia⟩
def zsq(n:Nat)(ts:h8):(i4 n ts).map (λs=>D.lst (s.map sD))=(List.range n).map λj=>D.lst ((ofS ts j).flatten.map sD):=by
 unfold i4;rw[ed];rfl
def zsr(h:j<n):∀x∈(ofS ts j).flatten,x∈(i4 n ts).flatten:=λx D =>
 fo.mpr ⟨_,bc (ox (ts:=ts) h),D⟩
def zu5(h:j<n):(ofS ts j).flatten.length<=(i4 n ts).flatten.length :=
 (eo (bc (ox (ts:=ts) h))).length_le
theorem z4r(ok:TurnsOk (i4 n ts) ts)(D:∀x∈(i4 n ts).flatten,gw x)(I:(i4 n ts).flatten.length<=14)(j:Nat):SmB (hT (ofS ts j)):=by
 cases h:ofS ts j with
 | nil=>exact⟨l3 (by decide),l3 (by decide)⟩
 | cons r rest=>exact ok.sm D (by lia) (j+1,r) (zp7 (by rw[h];simp))
def zu6(H:List Bk)(V v1 v2:g5)(k p:Nat)(bk D:Bk)(d:H[k]?=some bk)(e:H[p]?=some D)(sk:SmB bk)(sp:SmB D) :
  xu [V,v1,v2,some (.sh (.lst (H.map kD))),some (.sh (.int (p:Int))),some (.sh (.int (0+(k:Int))))] =
   some (.nx,[V,v1,v2,some (.sh (.lst (H.map kD))),some (.sh (.int ((if gt bk D then k else p:Nat):Int))),some (.sh (.int (0+(k:Int))))]):=by
 rw[i9];have Y:atI (H.map kD) (k:Int)=some (kD bk):=kh kD d;have Z:atI (H.map kD) (p:Int)=some (kD D):=kh kD e;have a:∀b:Bk,dIx (kD b) (.int 1)=some (.int b.2.1):=λ_=>rfl;have c:∀b:Bk,dIx (kD b) (.int 2)=some (.int b.2.2):=λ_=>rfl;by_cases U:gt bk D
 ·have I:D.2.2*bk.2.1<bk.2.2*D.2.1:=U
  rw[if_pos U];simp only[xu,sIf,sSet,sNil,fTst,fBin,fIxV,ixSl,fVar,fC,af,ah,ac,ao,ax,ay,Y,Z,a,c,om sk.2,om sp.2,dGt,decide_eq_true I,if_true]
 ·have I:¬D.2.2*bk.2.1<bk.2.2*D.2.1:=U
  rw[if_neg U];simp only[xu,sIf,sSet,sNil,fTst,fBin,fIxV,ixSl,fVar,fC,af,ah,ac,ao,ax,ay,Y,Z,a,c,om sk.2,om sp.2,dGt,decide_eq_false I,dc,if_false]
theorem z09(ok:TurnsOk (i4 n (t::ts)) (t::ts))(Y:∀x∈(i4 n (t::ts)).flatten,gw x)(j:(i4 n (t::ts)).flatten.length<=14)(V v1 v2 v5:g5) :
  ∃I,forL 5 xu (rngD 0 n) [V,v1,v2,some (.sh (.lst ((nk n (t::ts)).map kD))),some (.sh (.int 0)),v5] =
   some (.nx,[V,v1,v2,some (.sh (.lst ((nk n (t::ts)).map kD))),some (.sh (.int ((t.1-1:Nat):Int))),I]):=by
 have lo:=ok.lo t (by simp);rw[mi] at lo;have Z:t.1-1<n:=by lia
 obtain⟨e',h1,p,I,rfl,_,U,D⟩:=qv (i:=5) (g:=xu) (λk e=>∃(p:Nat) (v5:g5),e=[V,v1,v2,some (.sh (.lst ((nk n (t::ts)).map kD))),some (.sh (.int (p:Int))),v5]/\p<n/\(k<=t.1-1->p<=t.1-1/\(p<k\/p=0))/\(t.1-1<k->p=t.1-1))
  (rngD 0 n) [V,v1,v2,some (.sh (.lst ((nk n (t::ts)).map kD))),some (.sh (.int 0)),v5] ⟨0,v5,rfl,by lia,λ_=>⟨dy _,.inr rfl⟩,λh=>absurd h (Nat.not_lt_zero _)⟩ (by
    rintro k d e a ⟨p,v5,rfl,hpn,U,D⟩;obtain⟨rfl,l⟩:=qp a;have body:=zu6 (nk n (t::ts)) V v1 v2 k p _ _ (zkx l) (zkx hpn) (z4r ok Y j k) (z4r ok Y j p);refine⟨_,body,_,_,rfl,?_,λm=>?_,λb=>?_⟩
    ·split <;> lia
    ·have:=U (by lia)
     split
     ·exact⟨by lia,.inl (by lia)⟩
     ·exact⟨this.1,by lia⟩
    ·rcases Nat.lt_or_eq_of_le (Nat.le_of_lt_succ b) with hlt' | heq
     ·have c:=D hlt'
      subst c;rw[zj1 ok,if_neg (zy8 ok Y k).1]
     ·have:=U (by lia)
      subst heq;rw[zj1 ok];by_cases f:p=t.1-1
      ·subst f
       rw[zj1 ok,if_neg (λz=>t4 z z)]
      ·rw[if_pos ((zy8 ok Y p).2 (by lia))])
 rw[pd] at D;have c:=D Z;subst c;exact⟨I,h1⟩
noncomputable def zrc:FT:=fTst (fBin dGt (er bSum (bz (fLst (ju (fiV 1) [] fYes (jk 0))) (fNil))) (fC (.int 0)))
theorem zss(ok:TurnsOk (i4 n (t::ts)) (t::ts))(i:∀x∈(i4 n (t::ts)).flatten,gw x)(k:(i4 n (t::ts)).flatten.length<=14)(G:n<=1000)(a l m v5:g5)(M:g2)(H:M.length<=1000) :
  ∃o p b,zdx [a,some (.ow ((i4 n (t::ts)).map λs=>D.lst (s.map sD))),some (.ow M),l,m,v5]=some (.nx,[a,some (.ow ((i4 n ts).map λs=>D.lst (s.map sD))),some (.ow (M++[tnD t])),o,p,b]):=by
 have lo:=ok.lo t (by simp);rw[mi] at lo;have c:=qu (te:=er zgb (bz (fVar 0) (fNil))) (base:=[]) (λj:Nat=>D.lst ((ofS (t::ts) j).flatten.map sD)) (λj:Nat=>kD (hT (ofS (t::ts) j))) (List.range n) (λj Z=>by
  have Z:j<n:=fu.mp Z;have q:=z08 (ofS (t::ts) j) (z4q ok.srt) (λr u=>ok.good _ (zp7 u)) (λx v=>i x (zsr Z x v)) (b8 (zu5 Z) k);refine⟨[some (.sh (.lst ((ofS (t::ts) j).flatten.map sD)))],?_⟩;simp only[er,bz,fVar,fNil,af,ac,q,ao])
 have w:(List.range n).map (λj:Nat=>kD (hT (ofS (t::ts) j)))=(nk n (t::ts)).map kD:=by unfold nk;rw[ed];rfl
 rw[w,<-zsq] at c;obtain⟨b,y⟩:=z09 ok i k a (some (.ow ((i4 n (t::ts)).map λs=>D.lst (s.map sD)))) (some (.ow M)) v5;have d:atI ((nk n (t::ts)).map kD) ((t.1-1:Nat):Int)=some (kD (blk t.2)):=by
  rw[<-zj1 ok];exact kh kD (zkx (by lia))
 have V:=zlw (ts:=ts) lo.1 lo.2;have Y:=zp4 (ts:=ts) lo.1 lo.2;have e:atI ((i4 n (t::ts)).map λs=>D.lst (s.map sD)) ((t.1-1:Nat):Int)=some (.lst ((t.2++(ofS ts (t.1-1)).flatten).map sD)):=kh (λs:g9=>D.lst (s.map sD)) V;have I:=zp5 (t.2.map sD) ((ofS ts (t.1-1)).flatten.map sD);rw[<-bi,ae] at I;have f:ixN ((i4 n (t::ts)).map λs=>D.lst (s.map sD)).length ((t.1-1:Nat):Int)=some (t.1-1):=by
  rw[qm (by lia) (by rw[ae,mi];lia)];congr 1
 have U:((i4 n (t::ts)).map λs=>D.lst (s.map sD)).set (t.1-1) (.lst ((ofS ts (t.1-1)).flatten.map sD))=(i4 n ts).map λs=>D.lst (s.map sD):=by
  rw[Y,i7]
 have z:Few ((i4 n (t::ts)).map λs=>D.lst (s.map sD)).length:=few (by rw[ae,mi];lia);have g:Few (M.length+1):=few (by lia);have hi:iR1 [.int (((nk n (t::ts)).map kD).length:Int)]=some (rngD 0 n):=by
  rw[ae,show(nk n (t::ts)).length=n by simp[nk]];exact oo n (by lia)
 have A:((t.1-1:Nat):Int)+1=(t.1:Int):=by lia
 generalize ((nk n (t::ts)).map kD)=HL at *;generalize B:((t.1-1:Nat):Int)=pp at *;have C:dIx (kD (blk t.2)) (.int 0)=some (.int (t.2.length:Int)):=rfl;have E:dIx (kD (blk t.2)) (.int 1)=some (.int (hrs t.2)):=rfl;have F:dIx (kD (blk t.2)) (.int 2)=some (.int (lss t.2)):=rfl;have h:D.tup [.int (t.1:Int),.int (t.2.length:Int),.int (hrs t.2),.int (lss t.2)]=tnD t:=rfl;refine⟨some (.sh (.lst HL)),some (.sh (.int pp)),b,?_⟩;simp only[zdx,sSeq,sSet,sFor,jo,p7,vq,fLst,ju,fiV,gz,bz,fNil,jk,fC,lp,rh,fTup,fBin,h9,fIxV,ixSl,fVar,fSl,fO0,fO1,af,ah,ac,ao,ax,ay,cy,z,g,if_true,c,hi,y,d,C,E,F,A,h,e,I,f,U,aw,cg,show(0+1+1+1+1<=64)=True by simp]
theorem zky{n:Nat}(v:n<=1000)(Y:g5):∀(ts:h8) (I:Nat) (Z b v5:g5) (M:g2),ts.length<I->M.length+ts.length<=1000->TurnsOk (i4 n ts) ts->(∀x∈(i4 n ts).flatten,gw x)->(i4 n ts).flatten.length<=14 ->
  ∃g i j k,mn zrc zdx I [Y,some (.ow ((i4 n ts).map λs=>D.lst (s.map sD))),some (.ow M),Z,b,v5]=some (.nx,[Y,g,some (.ow (M++ts.map tnD)),i,j,k])
 | _,0,_,_,_,_,h,_,_,_,_=>by lia
 | ts,f+1,Z,b,v5,M,h,hM,ok,hg,hl=>by
   have c:=qu (te:=jk 0) (base:=[]) (λs:g9=>D.lst (s.map sD)) (λs:g9=>D.int (s.length:Int)) (i4 n ts) λs _=>⟨_,by simp;rfl⟩;have w:=zu3 (λs:g9=>(s.length:Int)) (i4 n ts);have z:Few ((i4 n ts).map λs=>D.lst (s.map sD)).length:=few (by rw[ae,mi];lia);have d:((i4 n ts).map λs:g9=>(s.length:Int)).sum=((ts.map (·.2)).flatten.length:Int):=by
    have e:∀l:h7,(l.map λs:g9=>(s.length:Int)).sum=(l.flatten.length:Int):=λl=>by
     induction l with
     | nil=>rfl
     | cons a l m=>rw[bg,dq,m,cf,aj];lia
    rw[e,ok.perm.length_eq]
   rw[d] at w;have A:zrc [Y,some (.ow ((i4 n ts).map λs=>D.lst (s.map sD))),some (.ow M),Z,b,v5]=some (decide (0<((ts.map (·.2)).flatten.length:Int)),[Y,some (.ow ((i4 n ts).map λs=>D.lst (s.map sD))),some (.ow M),Z,b,v5]):=by
    unfold zrc;generalize ((i4 n ts).map λs=>D.lst (s.map sD))=L at *;simp[ju,fiV,z,c,w]
   unfold mn;rw[A,ac];dsimp only;cases ts with
   | nil =>
     rw[if_neg (by simp)];exact⟨some (.ow ((i4 n []).map λs=>D.lst (s.map sD))),Z,b,v5,by rw[cy,cr]⟩
   | cons t ts =>
     have y:0<t.2.length:=gk.mpr (ok.good t (by simp)).ne;rw[if_pos (by simp[decide_eq_true_eq];lia)];obtain⟨i,j,k,V⟩:=zss ok hg hl v Y Z b v5 M (by simp at hM;lia);rw[V,ac];dsimp only;have o:=ok.tail;have lo:=ok.lo t (by simp);rw[mi] at lo;have U:(t.2++(i4 n ts).flatten).Perm (i4 n (t::ts)).flatten:=by
      rw[zor lo.1 lo.2];exact(zir (ox (by lia))).symm
     have p:=U.length_eq;rw[aj] at p;obtain⟨g,q,r,u,m⟩:=zky v Y ts f i j k (M++[tnD t]) (by simp at h;lia) (by simp at hM ⊢;lia) o (λx B=>hg x (U.mem_iff.mp (bn _ B))) (by lia);exact⟨g,q,r,u,by rw[m];simp⟩
theorem zj2(ok:TurnsOk ss ts)(U:∀x∈ss.flatten,gw x)(V:ss.flatten.length<=14)(f:ss.length<=900):ze5 [ssL ss]=some (.lst (ts.map tnD)):=by
 have Y:=ok.len;have I:=ok.left;have c:=qu (te:=fLst (gz qd (bz (fVar 0) (fNil)))) (base:=[]) (λs:g9=>D.lst (s.map sD)) (λs:g9=>D.lst (s.map sD)) ss λs _=>⟨_,by simp;rfl⟩;have Z:Few (ss.map λs=>D.lst (s.map sD)).length:=few (by rw[ae];lia);obtain⟨a,b,d,e,h⟩:=zky (n:=ss.length) (by lia) (some (.sh (ssL ss))) ts 10000 none none none [] (by lia) (by simp;lia) (by rw[I];exact ok) (by rw[I];exact U) (by rw[I];exact V);rw[I,jh] at h;refine j4 (e':=[some (.sh (ssL ss)),a,some (.sh (.lst (ts.map tnD))),b,d,e]) rfl ?_;show zg6 [some (.sh (.lst (ss.map λs=>D.lst (s.map sD)))),none,none,none,none,none]=_;unfold zrc ssL at h;unfold ssL;generalize (ss.map λs=>D.lst (s.map sD))=L at *;simp[zg6,ju,Z,c,h]
def gm(ts:h8):f0:=(ts.map λt=>List.replicate t.2.length t.1).flatten
def iD(ns:f0):g2:=ns.map λn:Nat=>D.int (n:Int)
def qt(a b:h8):gm (a++b)=gm a++gm b:=by simp[gm]
def vf(t:Tn):gm [t]=List.replicate t.2.length t.1:=by simp[gm]
def zos(ts:h8):(gm ts).length=(ts.map (·.2)).flatten.length:=by
 induction ts with
 | nil=>rfl
 | cons t ts ih =>
   rw[show t::ts=[t]++ts from rfl,qt,vf,aj,fz,ih];simp
def zu7(d:D)(k:Nat):(List.replicate k [d]).flatten=List.replicate k d:=by simp_all
def zu8(a b:f0):iD (a++b)=iD a++iD b:=by simp[iD]
def zy9(k a:Nat):iD (List.replicate k a)=List.replicate k (.int (a:Int)):=by simp[iD]
def zu9(a:f0):(iD a).length=a.length:=by simp[iD]
theorem bndN(k:Nat)(h:k<=1000000):Bnd (-(2 ^ 62)) (2 ^ 62) (k:Int):=⟨by lia,by lia⟩
theorem z1a(ok:TurnsOk ss ts)(Y:∀x∈ss.flatten,gw x)(V:ss.flatten.length<=14)(Z:ss.length<=900):zpx [ssL ss]=some (iD (gm ts)):=by
 have a:=zj2 ok Y V Z;have I:(gm ts).length<=14:=by rw[zos,ok.perm.length_eq];exact V
 obtain⟨e',h1,v2,rfl⟩:=nr (i:=2) (g:=zgc) tnD (λp e=>∃v2,e=[some (.sh (ssL ss)),some (.ow (iD (gm p))),v2]) ts
  [some (.sh (ssL ss)),some (.ow []),none] ⟨none,rfl⟩ (by
   rintro p t q e U ⟨v2,rfl⟩;have b:(gm p).length+t.2.length<=14:=by
    rw[U,qt,show t::q=[t]++q from rfl,qt,vf] at I;simp at I
    lia
   have c:Few (1*t.2.length):=few (by lia);have d:Few ((iD (gm p)).length+(List.replicate t.2.length (D.int (t.1:Int))).length):=few (by rw[zu9,fz];lia);have f:=bndN t.2.length (by lia);have h:iD (gm p)++List.replicate t.2.length (D.int (t.1:Int))=iD (gm (p++[t])):=by rw[qt,vf,zu8,zy9]
   refine⟨[some (.sh (ssL ss)),some (.ow (iD (gm (p++[t])))),some (.sh (tnD t))],?_,_,rfl⟩;rw[<-h];unfold tnD;simp only[zgc,sOwn,fCat,fVar,fLst,fRep,il,bz,fIxV,ixSl,fC,fNil,af,ah,ac,ao,ax,ay,z53,z54,aw,cg,show(0+1<=64)=True by simp,if_true,fy,j1,c,f,and_self,zu7,d])
 refine zp6 (e':=[some (.sh (ssL ss)),some (.ow (iD (gm ts))),v2]) rfl ?_;show zie [some (.sh (ssL ss)),none,none]=_;simp[zie,a,h1]
theorem zgo(ok:TurnsOk ss ts)(Y:tj [ssL ss]=some (.lst (ts.map tnD)))(b:ss.flatten.length<=14):xq [ssL ss]=some (iD (gm ts)):=by
 have I:(gm ts).length<=14:=by rw[zos,ok.perm.length_eq];exact b
 obtain⟨e',h1,v2,U,V,v5,rfl⟩:=sj (ix:=[2,3,4,5]) (g:=zdw) (λt:Tn=>[D.int (t.1:Int),.int (t.2.length:Int),.int (hrs t.2),.int (lss t.2)]) (λp e=>∃v2 U V v5,e=[some (.sh (ssL ss)),some (.ow (iD (gm p))),v2,U,V,v5]) ts
  [some (.sh (ssL ss)),some (.ow []),none,none,none,none] ⟨none,none,none,none,rfl⟩ (λ_ _=>rfl) (by
   rintro p t q e Z ⟨v2,U,V,v5,rfl⟩;have c:(gm p).length+t.2.length<=14:=by
    rw[Z,qt,show t::q=[t]++q from rfl,qt,vf] at I;simp at I
    lia
   have d:Few (1*t.2.length):=few (by lia);have f:Few ((iD (gm p)).length+(List.replicate t.2.length (D.int (t.1:Int))).length):=few (by rw[zu9,fz];lia);have h:=bndN t.2.length (by lia);have i:iD (gm p)++List.replicate t.2.length (D.int (t.1:Int))=iD (gm (p++[t])):=by rw[qt,vf,zu8,zy9]
   refine⟨[some (.sh (ssL ss)),some (.ow (iD (gm (p++[t])))),some (.sh (.int (t.1:Int))),some (.sh (.int (t.2.length:Int))),some (.sh (.int (hrs t.2))),some (.sh (.int (lss t.2)))],?_,_,_,_,_,rfl⟩;rw[<-i];simp only[l4,zdw,jo,zmj,z0p,fRep,il,bz,fVar,fNil,af,ah,ac,ao,ax,ay,aw,cg,show(0+1<=64)=True by simp,if_true,fy,j1,d,h,and_self,zu7,f])
 refine zp6 (e':=[some (.sh (ssL ss)),some (.ow (iD (gm ts))),v2,U,V,v5]) rfl ?_;show zg5 [some (.sh (ssL ss)),none,none,none,none,none]=_;have a:forU [2,3,4,5] zdw (ts.map tnD) [some (.sh (ssL ss)),some (.ow []),none,none,none,none]=_:=h1;simp[zg5,Y,a]
structure Whole (ss:h7) (os:f0):Prop where
 lo:∀a∈os,1<=a/\a<=ss.length
 cnt:∀(j:Nat) (s:g9),ss[j]?=some s->os.count (j+1)=s.length
theorem zva(m:Nat):∀n:Nat,((List.range n).map λj=>if j=m then 1 else 0).sum=if m<n then 1 else 0
 | 0=>by simp
 | n+1=>by
   rw[gf,bi,jg,zva m n];simp only[bg,cy,dq,List.sum_nil];by_cases h1:m<n
   ·rw[if_pos h1,if_neg (by lia),if_pos (by lia)];rfl
   ·rw[if_neg h1]
    by_cases h2:n=m
    ·rw[if_pos h2,if_pos (by lia)];rfl
    ·rw[if_neg h2,if_neg (by lia)];rfl
theorem zvb{α:Type}(f g:α->Nat):∀l:List α,(l.map λx=>f x+g x).sum=(l.map f).sum+(l.map g).sum
 | []=>rfl
 | x::l=>by
   simp[dq,zvb f g l]
   lia
theorem zm0(n:Nat):∀(p:f0),(∀a∈p,1<=a/\a<=n)->((List.range n).map λj=>p.count (j+1)).sum=p.length
 | [],_=>by
   have:∀l:f0,(l.map λj=>([]:f0).count (j+1)).sum=0:=λl=>by
    induction l with
    | nil=>rfl
    | cons a l D=>rw[bg,dq,D];rfl
   rw[this];rfl
 | a::p,h=>by
   have D:=zm0 n p λb U=>h b (au _ U);have V:=h a bj;have e:(λj=>(a::p).count (j+1))=λj=>p.count (j+1)+if j=a-1 then 1 else 0:=by
    funext j;rw[List.count_cons];by_cases I:j=a-1
    ·rw[if_pos I,if_pos (by simp;lia)]
    ·rw[if_neg I,if_neg (by simp;lia)]
   rw[e,zvb,D,zva,if_pos (by lia),aw]
theorem zjo(f g:Nat->Nat):∀n:Nat,(∀j,j<n->f j<=g j)->((List.range n).map f).sum=((List.range n).map g).sum->∀j,j<n->f j=g j
 | n+1,hle,hs,j,D=>by
   have U:((List.range n).map f).sum<=((List.range n).map g).sum:=by
    have:∀l:f0,(∀j∈l,f j<=g j)->(l.map f).sum<=(l.map g).sum:=λl=>by
     induction l with
     | nil=>intro _;simp
     | cons a l ih =>
       intro h;have h1:=h a (by simp);have h2:=ih λj D=>h j (by simp[D]);simp[dq]
       lia
    exact this _ λj D=>hle j (by have:=fu.mp D;lia)
   rw[gf,bi,bi,jg,jg] at hs;simp[dq,List.sum_nil] at hs;have V:=hle n (by lia);by_cases I:j=n
   ·subst I;lia
   ·exact zjo f g n (λj D=>hle j (by lia)) (by lia) j (by lia)
def zm1(ss:h7):((List.range ss.length).map λj=>(ss.getD j []).length).sum=ss.flatten.length:=by
 have:(List.range ss.length).map (λj=>(ss.getD j []).length)=ss.map List.length:=by
  apply d6;intro i;by_cases h:i<ss.length
  ·simp[h]
  ·simp[h]
 rw[this,jc]
variable{os:f0}
def Whole.len(h:Whole ss os):os.length=ss.flatten.length:=by
 rw[<-zm0 ss.length os h.lo,<-zm1];congr 1;apply jb;intro j D;have D:j<ss.length:=fu.mp D;rw[h.cnt j ss[j] (by simp[D])];simp[D]
def zm2{P:List α->Prop}(D:P [])(I:∀p a,P p->P (p++[a]))(p:List α):P p:=by
 have:∀l:List α,P l.reverse:=λl=>by
  induction l with
  | nil=>exact D
  | cons a l ih=>rw[List.reverse_cons];exact I _ _ ih
 rw[<-List.reverse_reverse p];exact this _
def nj(ss:h7)(a c:Nat):Sk:=(ss.getD (a-1) []).getD c (0,0,0)
def tk(ss:h7)(os:f0):g9:=(List.range os.length).map λi=>nj ss (os.getD i 0) ((os.take i).count (os.getD i 0))
theorem wp(ss:h7)(p:f0)(a:Nat):tk ss (p++[a])=tk ss p++[nj ss a (p.count a)]:=by
 unfold tk;rw[aj,dg,gf,bi];congr 1
 ·apply jb
  intro i hi;have hi:i<p.length:=fu.mp hi;have D:(p++[a]).getD i 0=p.getD i 0:=by
   rw[aq,aq,bf hi]
  rw[D,ia (by lia)]
 ·have D:(p++[a]).getD p.length 0=a:=by simp
  simp only[bg,cy];rw[D,l9]
def um(ss:h7)(os:f0):(tk ss os).length=os.length:=by simp[tk]
theorem Whole.at{ss:h7}{p q:f0}{a:Nat}(h:Whole ss (p++a::q)):∃s,ss[a-1]?=some s/\p.count a<s.length/\s[p.count a]?=some (nj ss a (p.count a))/\1<=a/\a<=ss.length:=by
 obtain⟨h1,h2⟩:=h.lo a (by simp);have D:a-1<ss.length:=by lia
 have U:=h.cnt (a-1) ss[a-1] (by simp[D]);rw[show a-1+1=a by lia,List.count_append,List.count_cons_self] at U;have I:p.count a<ss[a-1].length:=by lia
 refine⟨ss[a-1],by simp[D],I,?_,h1,h2⟩;unfold nj;simp[D,I]
def Whole.mem(h:Whole ss os):∀(p:f0),∀(q:f0),os=p++q->∀x∈tk ss p,x∈ss.flatten:=by
 apply zm2
 ·intro q _ x hx
  simp[tk] at hx
 ·intro p a U q I x hx
  rw[wp] at hx;rcases de.mp hx with hx | hx
  ·exact U (a::q) (by rw[I];simp) x hx
  ·rw[I,b9,ff] at h
   obtain⟨s,V,Y,D,_⟩:=h.at;have e:x=nj ss a (p.count a):=by simpa using hx
   subst e;exact fo.mpr ⟨s,bc V,bc D⟩
def Whole.sk(h:Whole ss os):∀x∈tk ss os,x∈ss.flatten:=h.mem os [] (by simp)
theorem zrd(ts:h8)(j:Nat):(gm ts).count (j+1)=(ofS ts j).flatten.length:=by
 induction ts with
 | nil=>simp[gm,ofS]
 | cons t ts ih =>
   rw[show t::ts=[t]++ts from rfl,qt,vf,List.count_append,ih];by_cases e:t.1=j+1
   ·rw[ff,vh t ts j e,cf,aj,e,List.count_replicate_self]
   ·rw[ff,yv t ts j e,List.count_replicate,if_neg (by simpa using e)]
    lia
def TurnsOk.whole(ok:TurnsOk ss ts):Whole ss (gm ts):=by
 refine⟨λa I=>?_,λj s U=>?_⟩
 ·obtain⟨l,V,D⟩:=fo.mp I
  obtain⟨t,Y,rfl⟩:=cx.mp V;rw[List.eq_of_mem_replicate D];exact ok.lo t Y
 ·rw[zrd,ok.part j s U]
def cntD(n:Nat)(f:Nat->Int):g2:=(List.range n).map λj=>D.int (f j)
def ww(n:Nat)(f:Nat->Int):(cntD n f).length=n:=by simp[cntD]
def wo(n:Nat)(f:Nat->Int)(j:Nat)(h:j<n):atI (cntD n f) (j:Int)=some (.int (f j)):=kh (λj:Nat=>D.int (f j)) (by simp[h])
def zj3(n:Nat)(f g:Nat->Int)(j:Nat)(h:∀i,i<n->i≠j->g i=f i):(cntD n f).set j (.int (g j))=cntD n g:=by
 apply d6;intro i;unfold cntD;rw[ir];by_cases hi:i<n
 ·by_cases e:j=i
  ·subst e;simp[hi]
  ·rw[if_neg e]
   simp[hi,h i hi (Ne.symm e)]
 ·by_cases e:j=i
  ·subst e;simp[hi]
  ·rw[if_neg e];simp[hi]
def zre(n:Nat)(f:Nat->Int)(j:Nat)(h:j<n):(cntD n f)[j]?=some (.int (f j)):=by simp[cntD,h]
def zp8(h:ds.length=ar)(D:g (jw n ds)=some (.nx,e')):runD n ar g ds=some .non:=by
 unfold runD;rw[if_pos h,D]
theorem zlg(V:1<=a)(Y:a<=ss.length):zge [ssL ss,.int (a:Int)]=some .non:=by
 have I:decide ((a:Int)<1)=false:=by simp;lia
 have U:decide (((ss.map λs=>D.lst (s.map sD)).length:Int)<(a:Int))=false:=by rw[ae];simp;lia
 refine zp8 (e':=[some (.sh (ssL ss)),some (.sh (.int (a:Int)))]) rfl ?_;show zgd [some (.sh (ssL ss)),some (.sh (.int (a:Int)))]=_;unfold ssL;generalize (ss.map λs=>D.lst (s.map sD))=L at *;simp only[zgd,sIf,sNil,fOr,fTst,fBin,fVar,fC,jk,dLt,dGt,af,ah,ac,ao,ax,ay,I,U,dc,if_false]
def lenF(ss:h7)(p:f0)(j:Nat):Int:=((ss.getD j []).length:Int)-(p.count (j+1):Int)
def zxp(ss:h7):(ss.map λs=>D.int (s.length:Int))=cntD ss.length (lenF ss []):=by
 apply d6;intro i;unfold cntD lenF;by_cases h:i<ss.length
 ·simp[h]
 ·simp[h]
def zot(ss:h7):lv fYes (jk 0) [] (ss.map λs=>D.lst (s.map sD))=some (cntD ss.length (lenF ss [])):=by
 rw[<-zxp];exact qu (te:=jk 0) (base:=[]) (λs:g9=>D.lst (s.map sD)) (λs:g9=>D.int (s.length:Int)) ss λs _=>⟨_,by simp;rfl⟩
def vg(p:f0)(a b:Nat):(p++[a]).count b=p.count b+if a=b then 1 else 0:=by
 by_cases h:a=b
 ·simp[h]
 ·simp[h]
theorem zou(ss:h7)(p:f0)(a:Nat)(h1:1<=a):lenF ss (p++[a]) (a-1)=lenF ss p (a-1)-1/\∀i,i≠a-1->lenF ss (p++[a]) i=lenF ss p i:=by
 unfold lenF;refine⟨?_,λi hi=>?_⟩
 ·rw[vg,if_pos (by lia)];lia
 ·rw[vg,if_neg (by lia)];lia
def zst(h:Whole ss os)(j:Nat)(D:j<ss.length):lenF ss os j=0:=by
 unfold lenF;rw[h.cnt j ss[j] (by simp[D])];simp[D]
variable{p:f0}
theorem zxq(h:Whole ss (p++a::q)):0<lenF ss p (a-1):=by
 obtain⟨s,D,I,_,h1,h2⟩:=h.at;unfold lenF;rw[show a-1+1=a by lia,aq,D];simp
 lia
def zov(n:Nat)(f:Nat->Int):ints? (cntD n f)=some ((List.range n).map f):=by
 have:cntD n f=((List.range n).map f).map D.int:=by unfold cntD;rw[ed];rfl
 rw[this,ints_of]
theorem zrf(f:Nat->Int):∀n:Nat,(∀j,j<n->f j=0)->((List.range n).map f).sum=0
 | 0,_=>rfl
 | n+1,h=>by
   rw[gf,bi,jg,zrf f n λj D=>h j (by lia)];simp[h n (by lia)]
theorem zlh(h:Whole ss os)(w:ss.length<=1000):zgg [ssL ss,.lst (iD os)]=some .non:=by
 obtain⟨e',h1,Z,rfl⟩:=nr (i:=3) (g:=zdc) (λa:Nat=>D.int (a:Int)) (λp e=>∃Z,e=[some (.sh (ssL ss)),some (.sh (.lst (iD os))),some (.ow (cntD ss.length (lenF ss p))),Z]) os
  [some (.sh (ssL ss)),some (.sh (.lst (iD os))),some (.ow (cntD ss.length (lenF ss []))),none] ⟨none,rfl⟩ (by
   rintro p a q e b ⟨Z,rfl⟩;have k:Whole ss (p++a::q):=by rw[<-b];exact h
   obtain⟨s,x,l,_,m,y⟩:=k.at;have z:=zxq k;obtain⟨n,o⟩:=zou ss p a m;have c:(a:Int)-1=((a-1:Nat):Int):=by lia
   have d:=wo ss.length (lenF ss p) (a-1) (by lia);have V:=zre ss.length (lenF ss p) (a-1) (by lia);have I:=zj3 ss.length (lenF ss p) (lenF ss (p++[a])) (a-1) (λi _ hi=>o i hi);rw[n] at I;have r:decide (lenF ss p (a-1)=0)=false:=by simp;lia
   have f:a-1<(cntD ss.length (lenF ss p)).length:=by rw[ww];lia
   have t:(0:Int)<=((a-1:Nat):Int):=by lia
   refine⟨[some (.sh (ssL ss)),some (.sh (.lst (iD os))),some (.ow (cntD ss.length (lenF ss (p++[a])))),some (.sh (.int (a:Int)))],?_,_,rfl⟩;rw[<-I];generalize cntD ss.length (lenF ss p)=L at *;simp only[zdc,sSeq,sIf,sNil,t0,zx,fTst,fBin,fIxV,ixSl,fVar,fC,dSub,dEq,af,ah,ac,ao,ax,ay,c,d,r,dc,if_false,t,if_true,fy,V,f])
 have c:((List.range ss.length).map (lenF ss os)).sum=0:=zrf _ _ λj u=>zst h j u;have U:=zov ss.length (lenF ss os);have l:=zot ss;have v:Few (ss.map λs=>D.lst (s.map sD)).length:=few (by rw[ae];lia);refine zp8 (e':=[some (.sh (ssL ss)),some (.sh (.lst (iD os))),some (.ow (cntD ss.length (lenF ss os))),Z]) rfl ?_;show zgf [some (.sh (ssL ss)),some (.sh (.lst (iD os))),none,none]=_;have Y:forL 3 zdc (iD os) [some (.sh (ssL ss)),some (.sh (.lst (iD os))),some (.ow (cntD ss.length (lenF ss []))),none]=_:=h1;unfold ssL at Y ⊢;generalize iD os=O at *;generalize (ss.map λs=>D.lst (s.map sD))=L at *;simp[zgf,ju,vp,v,l,Y,U,c,Int.lt_irrefl]
def zli(h:Whole ss os)(V:ss.length<=1000):zgi [ssL ss,.lst (iD os)]=some .non:=by
 obtain⟨e',h1,v2,rfl⟩:=nr (i:=2) (g:=zdd) (λa:Nat=>D.int (a:Int)) (λp e=>∃v2,e=[some (.sh (ssL ss)),some (.sh (.lst (iD os))),v2]) os
  [some (.sh (ssL ss)),some (.sh (.lst (iD os))),none] ⟨none,rfl⟩ (by
   rintro p a q e I ⟨v2,rfl⟩;obtain⟨Y,Z⟩:=h.lo a (by rw[I];simp);have b:=zlg (ss:=ss) Y Z;simp[zdd,b])
 have h2:=zlh h V;refine zp8 (e':=[some (.sh (ssL ss)),some (.sh (.lst (iD os))),v2]) rfl ?_;show zgh [some (.sh (ssL ss)),some (.sh (.lst (iD os))),none]=_;have U:forL 2 zdd (iD os) [some (.sh (ssL ss)),some (.sh (.lst (iD os))),none]=_:=h1;generalize iD os=O at *;simp[zgh,U,h2]
def cntF(p:f0)(j:Nat):Int:=(p.count (j+1):Int)
theorem zvc(p:f0)(a:Nat)(h1:1<=a):cntF (p++[a]) (a-1)=cntF p (a-1)+1/\∀i,i≠a-1->cntF (p++[a]) i=cntF p i:=by
 unfold cntF;refine⟨?_,λi hi=>?_⟩
 ·rw[vg,if_pos (by lia)];lia
 ·rw[vg,if_neg (by lia)];lia
def zhw(ss:h7):lv fYes (fC (.int 0)) [] (ss.map λs=>D.lst (s.map sD))=some (cntD ss.length (cntF [])):=by
 rw[qu (te:=fC (.int 0)) (base:=[]) (λs:g9=>D.lst (s.map sD)) (λs:g9=>D.int 0) ss λs _=>⟨_,by simp;rfl⟩];congr 1;apply d6;intro i;unfold cntD cntF;by_cases h:i<ss.length
 ·simp[h]
 ·simp[h]
theorem zvd(V:Whole ss (p++a::q)) :
  (a:Int)-1=((a-1:Nat):Int)/\atI (cntD ss.length (cntF p)) ((a-1:Nat):Int)=some (.int (p.count a:Int))/\(cntD ss.length (cntF p))[a-1]?=some (.int (p.count a:Int)) /\
    (cntD ss.length (cntF p)).set (a-1) (.int ((p.count a:Int)+1))=cntD ss.length (cntF (p++[a]))/\a-1<(cntD ss.length (cntF p)).length/\ixN (cntD ss.length (cntF p)).length ((a-1:Nat):Int)=some (a-1) /\
    ∃s:g9,atI (ss.map λs=>D.lst (s.map sD)) ((a-1:Nat):Int)=some (.lst (s.map sD))/\atI (s.map sD) (p.count a:Int)=some (sD (nj ss a (p.count a))):=by
 obtain⟨s,Y,e,Z,b,f⟩:=V.at;obtain⟨c,d⟩:=zvc p a b;have U:cntF p (a-1)=(p.count a:Int):=by unfold cntF;rw[show a-1+1=a by lia]
 have I:=zj3 ss.length (cntF p) (cntF (p++[a])) (a-1) (λi _ hi=>d i hi);rw[c,U] at I;refine⟨by lia,?_,?_,I,by rw[ww];lia,?_,s,kh (λs:g9=>D.lst (s.map sD)) Y,kh sD Z⟩
 ·rw[wo _ _ _ (by lia),U]
 ·rw[zre _ _ _ (by lia),U]
 ·rw[qm (by lia) (by rw[ww];lia)]
  congr 1
theorem y7(h:Whole ss os)(m:ss.length<=1000)(l:os.length<=1000):vi [ssL ss,.lst (iD os)]=some (.lst ((tk ss os).map sD)):=by
 obtain⟨e',h1,b,rfl⟩:=nr (i:=4) (g:=zde) (λa:Nat=>D.int (a:Int)) (λp e=>∃b,e=[some (.sh (ssL ss)),some (.sh (.lst (iD os))),some (.ow (cntD ss.length (cntF p))),some (.ow ((tk ss p).map sD)),b]) os
  [some (.sh (ssL ss)),some (.sh (.lst (iD os))),some (.ow (cntD ss.length (cntF []))),some (.ow []),none] ⟨none,rfl⟩ (by
   rintro p a q e I ⟨b,rfl⟩;have n:Whole ss (p++a::q):=by rw[<-I];exact h
   obtain⟨o,c,U,V,d,r,s,f,j⟩:=zvd n;have k:Few (((tk ss p).map sD).length+1):=few (by rw[ae,um];rw[I] at l;simp at l;lia);have t:(0:Int)<=((a-1:Nat):Int):=by lia
   have u:dIx (.lst (s.map sD)) (.int (p.count a:Int))=some (sD (nj ss a (p.count a))):=j;refine⟨[some (.sh (ssL ss)),some (.sh (.lst (iD os))),some (.ow (cntD ss.length (cntF (p++[a])))),some (.ow ((tk ss (p++[a])).map sD)),some (.sh (.int (a:Int)))],?_,_,rfl⟩;rw[<-V,wp,bi,bg,cy];unfold ssL;generalize (tk ss p).map sD=M at *;generalize s.map sD=S at *;simp only[zde,sSeq,jo,t0,zx,lp,rh,fBin,fIxV,ixSl,fVar,fC,dSub,h9,af,ah,ac,ao,ax,ay,o,c,f,u,k,t,if_true,fy,U,d])
 have Y:=zli h m;have v:=zhw ss;have k:Few (ss.map λs=>D.lst (s.map sD)).length:=few (by rw[ae];lia);refine j4 (e':=[some (.sh (ssL ss)),some (.sh (.lst (iD os))),some (.ow (cntD ss.length (cntF os))),some (.sh (.lst ((tk ss os).map sD))),b]) rfl ?_;show zgj [some (.sh (ssL ss)),some (.sh (.lst (iD os))),none,none,none]=_;have Z:forL 4 zde (iD os) [some (.sh (ssL ss)),some (.sh (.lst (iD os))),some (.ow (cntD ss.length (cntF []))),some (.ow []),none]=_:=h1;unfold ssL at Z Y ⊢;generalize (ss.map λs=>D.lst (s.map sD))=L at *;simp[zgj,ju,Y,k,v,Z]
theorem zjp(h:Whole ss os)(t:ss.length<=1000)(j:os.length<=1000):xp [ssL ss,.lst (iD os)]=some (.lst ((tk ss os).map sD)):=by
 obtain⟨e',h1,Y,rfl⟩:=nr (i:=4) (g:=zdy) (λa:Nat=>D.int (a:Int)) (λp e=>∃Y,e=[some (.sh (ssL ss)),some (.sh (.lst (iD os))),some (.ow (cntD ss.length (cntF p))),some (.ow ((tk ss p).map sD)),Y]) os
  [some (.sh (ssL ss)),some (.sh (.lst (iD os))),some (.ow (cntD ss.length (cntF []))),some (.ow []),none] ⟨none,rfl⟩ (by
   rintro p a q e I ⟨Y,rfl⟩;have l:Whole ss (p++a::q):=by rw[<-I];exact h
   obtain⟨m,Z,k,U,n,b,s,c,d⟩:=zvd l;have f:Few (((tk ss p).map sD).length+1):=few (by rw[ae,um];rw[I] at j;simp at j;lia);have o:dIx (.lst (s.map sD)) (.int (p.count a:Int))=some (sD (nj ss a (p.count a))):=d;refine⟨[some (.sh (ssL ss)),some (.sh (.lst (iD os))),some (.ow (cntD ss.length (cntF (p++[a])))),some (.ow ((tk ss (p++[a])).map sD)),some (.sh (.int (a:Int)))],?_,_,rfl⟩;rw[<-U,wp,bi,bg,cy];unfold ssL;generalize (ss.map λs=>D.lst (s.map sD))=L at *;generalize (tk ss p).map sD=M at *;simp only[zdy,sSeq,jo,p7,vq,lp,rh,fBin,fIxV,ixSl,fVar,fC,dSub,h9,af,ah,ac,ao,ax,ay,m,Z,c,o,f,if_true,b])
 have r:=zhw ss;have f:Few (ss.map λs=>D.lst (s.map sD)).length:=few (by rw[ae];lia);refine j4 (e':=[some (.sh (ssL ss)),some (.sh (.lst (iD os))),some (.ow (cntD ss.length (cntF os))),some (.sh (.lst ((tk ss os).map sD))),Y]) rfl ?_;show zhb [some (.sh (ssL ss)),some (.sh (.lst (iD os))),none,none,none]=_;have V:forL 4 zdy (iD os) [some (.sh (ssL ss)),some (.sh (.lst (iD os))),some (.ow (cntD ss.length (cntF []))),some (.ow []),none]=_:=h1;unfold ssL at V ⊢;generalize (ss.map λs=>D.lst (s.map sD))=L at *;simp[zhb,ju,f,r,V]
def mv(h:Int):List (Nat×Sk)->List f5
 | []=>[]
 | x::r=>[x.2.1,(x.1:Int),h,h+x.2.2.1]::mv (h+x.2.2.1) r
def zrg(x:Sk)(r:g9):hrs (x::r)=x.2.1+hrs r:=rfl
def zxr(x:Sk)(r:g9):lss (x::r)=x.2.2+lss r:=rfl
def zlx(x:Nat×Sk):∀(p:List (Nat×Sk)) (h:Int),mv h (p++[x])=mv h p++[[x.2.1,(x.1:Int),h+hrs (p.map (·.2)),h+hrs (p.map (·.2))+x.2.2.1]]
 | [],h=>by simp[mv,hrs]
 | y::p,h=>by
   rw[jt,mv,mv,zlx x p,bg,zrg];rw[<-Int.add_assoc];rfl
def jx(h:Int):g9->Int
 | []=>0
 | x::r=>x.2.2*(h+x.2.1)+jx (h+x.2.1) r
theorem zi9(x:Sk):∀(p:g9) (h:Int),jx h (p++[x])=jx h p+x.2.2*(h+hrs p+x.2.1)
 | [],h=>by simp[jx,hrs]
 | y::p,h=>by
   rw[jt,jx,jx,zi9 x p,zrg,<-Int.add_assoc h]
   lia
def zj4(x:Sk):p9 [sD x]=some (.int x.2.1):=rfl
def zp9(x:Sk):xm [sD x]=some (.int x.2.2):=rfl
def qr(x:Sk):my [sD x]=some (.int x.1):=rfl
def zow:∀(p:List (Nat×Sk)) (h:Int),(mv h p).length=p.length
 | [],_=>rfl
 | x::p,h=>by rw[mv,aw,aw,zow p]
theorem zm3(h:Whole ss os)(Y:ss.length<=1000)(f:os.length<=900):zg8 [ssL ss,.lst (iD os)]=some (.lst ((mv 0 (os.zip (tk ss os))).map iT)):=by
 have Z:=y7 h Y (by lia);obtain⟨e',h1,I,U,v5,v6,rfl,rfl⟩:=sj (ix:=[4,5]) (g:=zff) (λx:Nat×Sk=>[D.int (x.1:Int),sD x.2])
  (λp e=>∃I U v5 v6,e=[some (.sh (ssL ss)),some (.sh (.lst (iD os))),some (.ow ((mv 0 p).map iT)),I,U,v5,v6]/\I=some (.sh (.int (hrs (p.map (·.2)))))) (os.zip (tk ss os))
  [some (.sh (ssL ss)),some (.sh (.lst (iD os))),some (.ow []),some (.sh (.int 0)),none,none,none] ⟨_,none,none,none,rfl,rfl⟩ (λ_ _=>rfl) (by
   rintro p x q e V ⟨I,U,v5,v6,rfl,rfl⟩;have a:Few (((mv 0 p).map iT).length+1):=few (by
    rw[ae,zow];have:=congrArg List.length V;simp[qz] at this
    lia)
   have b:iT [x.2.1,(x.1:Int),0+hrs (p.map (·.2)),0+hrs (p.map (·.2))+x.2.2.1]=.tup [.int x.2.1,.int (x.1:Int),.int (hrs (p.map (·.2))),.int (hrs (p.map (·.2))+x.2.2.1)]:=by simp[iT]
   have c:hrs ((p++[x]).map (·.2))=hrs (p.map (·.2))+x.2.2.1:=by rw[bi,nn];simp[hrs]
   rw[zlx,bi,bg,cy,b,c];generalize (mv 0 p).map iT=M at *;simp[l4,zff,zj4,qr,a])
 refine j4 (e':=[some (.sh (ssL ss)),some (.sh (.lst (iD os))),some (.sh (.lst ((mv 0 (os.zip (tk ss os))).map iT))),some (.sh (.int (hrs ((os.zip (tk ss os)).map (·.2))))),U,v5,v6]) rfl ?_;show zg7 [some (.sh (ssL ss)),some (.sh (.lst (iD os))),none,none,none,none,none]=_;have d:iZp [.lst (iD os),.lst ((tk ss os).map sD)]=some ((os.zip (tk ss os)).map λx=>D.tup [D.int (x.1:Int),sD x.2]):=by
  show some (zipD (iD os) ((tk ss os).map sD))=_;unfold iD;rw[zmy]
 simp only[zg7,sSeq,sOwn,sSet,mj,sRet,il,fNil,fC,gz,er,bz,fVar,af,ah,ac,ao,ax,ay,cg,dy,if_true,Z,d,h1]
theorem zis(h:Whole ss os)(U:∀x∈ss.flatten,gw x)(V:ss.length<=1000)(b:os.length<=900):ze7 [ssL ss,.lst (iD os)]=some (.int (jx 0 (tk ss os))):=by
 have Y:=y7 h V (by lia);obtain⟨e',h1,D,rfl⟩:=nr (i:=4) (g:=zfh) sD (λp e=>∃D,e=[some (.sh (ssL ss)),some (.sh (.lst (iD os))),some (.sh (.int (jx 0 p))),some (.sh (.int (hrs p))),D]) (tk ss os)
  [some (.sh (ssL ss)),some (.sh (.lst (iD os))),some (.sh (.int 0)),some (.sh (.int 0)),none] ⟨none,rfl⟩ (by
   rintro p x q e I ⟨D,rfl⟩;obtain⟨_,_,_,_,c,d⟩:=U x (h.sk x (by rw[I];simp));have sm:ln x.2.2:=l3 (by lia);have Z:hrs (p++[x])=hrs p+x.2.1:=by rw[nn];simp[hrs]
   have a:jx 0 (p++[x])=jx 0 p+x.2.2*(hrs p+x.2.1):=by rw[zi9,i9]
   rw[Z,a];simp[zfh,zj4,zp9,om sm])
 refine j4 (e':=[some (.sh (ssL ss)),some (.sh (.lst (iD os))),some (.sh (.int (jx 0 (tk ss os)))),some (.sh (.int (hrs (tk ss os)))),D]) rfl ?_;show zha [some (.sh (ssL ss)),some (.sh (.lst (iD os))),none,none,none]=_;simp[zha,Y,h1]
theorem zrh(ss:h7)(p:f0)(h:∀a∈p,1<=a/\a<=ss.length):((List.range ss.length).map (lenF ss p)).sum=(ss.flatten.length:Int)-(p.length:Int):=by
 have e:∀(f g:Nat->Nat) (l:f0),(l.map λj=>(f j:Int)-(g j:Int)).sum=((l.map f).sum:Int)-((l.map g).sum:Int):=λf g l=>by
  induction l with
  | nil=>rfl
  | cons a l ih=>simp[dq,ih];lia
 rw[<-zm1,<-zm0 ss.length p h];exact e _ _ _
theorem zri(f:Nat->Int):∀n:Nat,0<((List.range n).map f).sum->∃j,j<n/\0<f j
 | 0,h=>by simp at h
 | n+1,h=>by
   rw[gf,bi,jg] at h;simp only[bg,cy,dq,List.sum_nil] at h;by_cases h1:0<f n
   ·exact⟨n,by lia,h1⟩
   ·obtain⟨j,I,D⟩:=zri f n (by lia)
    exact⟨j,by lia,D⟩
theorem zox(ss:h7)(hn:ss.length<=900)(hl:ss.flatten.length<=900)(Y:Int):∃os,Whole ss os/\ze6 [ssL ss,.int Y]=some (iD os):=by
 have f:=zrh ss [] (by simp);rw[cg] at f;have l:=zov ss.length (lenF ss []);have F:((List.range ss.length).map (lenF ss [])).sum=(ss.flatten.length:Int):=by rw[f];lia
 obtain⟨e',h1,p,I,E,v5,v6,rfl,Z,V,m⟩:=qv (i:=4) (g:=zfg) (λk e=>∃(p:f0) (I:Int) (E v5 v6:g5),e=[some (.sh (ssL ss)),some (.sh (.int I)),some (.ow (cntD ss.length (lenF ss p))),some (.ow (iD p)),E,v5,v6]/\p.length=k/\(∀a∈p,1<=a/\a<=ss.length)/\∀j,j<ss.length->0<=lenF ss p j)
  (rngD 0 ss.flatten.length) [some (.sh (ssL ss)),some (.sh (.int Y)),some (.ow (cntD ss.length (lenF ss []))),some (.ow []),none,none,none]
  ⟨[],Y,none,none,none,rfl,rfl,by simp,λj U=>by unfold lenF;simp⟩ (by
   rintro k d e G ⟨p,I,E,v5,v6,rfl,Z,V,m⟩;obtain⟨rfl,hk⟩:=qp G;have H:=zrh ss p V;obtain⟨W,J,K⟩:=zri (lenF ss p) ss.length (by rw[H];lia);have c:=zmm (tt:=fTst (fBin dGt (fIxV 1 (fVar 0)) (fC (.int 0)))) (te:=fVar 0) (base:=[some (.sh (.lst (cntD ss.length (lenF ss p))))]) (λj:Nat=>D.int (0+(j:Int))) (λj:Nat=>D.int (0+(j:Int))) (λj=>decide (0<lenF ss p j)) (List.range ss.length) (λj U=>by
    have U:j<ss.length:=fu.mp U;have r:=wo ss.length (lenF ss p) j U;rw[show(j:Int)=0+(j:Int) by lia] at r;refine⟨[some (.sh (.int (0+(j:Int)))),some (.sh (.lst (cntD ss.length (lenF ss p))))],?_,λ_=>⟨[some (.sh (.int (0+(j:Int)))),some (.sh (.lst (cntD ss.length (lenF ss p))))],rfl⟩⟩;simp only[fTst,fBin,fIxV,ixSl,fVar,fC,dGt,af,ah,ac,ao,r])
   generalize n:(List.range ss.length).filter (λj=>decide (0<lenF ss p j))=so at c;have X:0<so.length:=by
    apply gk.mpr;intro z;have:W∈so:=by rw[<-n];exact fj.mpr ⟨fu.mpr J,by simpa using K⟩
    rw[z] at this;cases this
   have T:so.length<=ss.length:=by rw[<-n];exact b8 (lq _ _) (by simp)
   have aa:0<=I % (so.length:Int):=Int.emod_nonneg _ (by lia);have ab:I % (so.length:Int)<(so.length:Int):=Int.emod_lt_of_pos _ (by lia);have t:(I % (so.length:Int)).toNat<so.length:=by lia
   generalize U:so[(I % (so.length:Int)).toNat]=j at *;have u:j∈so:=by rw[<-U];exact f7 t
   have L:j<ss.length/\0<lenF ss p j:=by
    rw[<-n] at u;obtain⟨a,b⟩:=fj.mp u;exact⟨fu.mp a,by simpa using b⟩
   have v:atI (so.map λj:Nat=>D.int (0+(j:Int))) (I % (so.length:Int))=some (.int (0+(j:Int))):=by
    rw[show I % (so.length:Int)=(((I % (so.length:Int)).toNat:Nat):Int) by lia];exact kh (λj:Nat=>D.int (0+(j:Int))) (by rw[ak t,U])
   have w:=wo ss.length (lenF ss p) j L.1;have o:atI (cntD ss.length (lenF ss p)) (0+(j:Int))=some (.int (lenF ss p j)):=by rw[i9];exact w
   have x:ixN (cntD ss.length (lenF ss p)).length (0+(j:Int))=some j:=by
    rw[qm (by lia) (by rw[ww];lia)];congr 1
    lia
   obtain⟨M,N⟩:=zou ss p (j+1) (by lia);rw[show j+1-1=j by lia] at M N;have h:=zj3 ss.length (lenF ss p) (lenF ss (p++[j+1])) j (λi _ hi=>N i hi);rw[M] at h;have y:(so.map λj:Nat=>D.int (0+(j:Int))).all ui=true:=by simp[ui]
   have O:iD (p++[j+1])=iD p++[.int (0+(j:Int)+1)]:=by rw[zu8];simp[iD]
   have P:Few ((iD p).length+1):=few (by rw[zu9];lia);have Q:Few (rngD 0 ss.length).length:=few (by rw[pd];lia);have q:(so.map λj:Nat=>D.int (0+(j:Int))).length=so.length:=by simp
   have hi:=oo ss.length (by lia);have R:iR1 [.int ((cntD ss.length (lenF ss p)).length:Int)]=some (rngD 0 ss.length):=by rw[ww];exact hi
   have A:rngD 0 ss.length=(List.range ss.length).map λj:Nat=>D.int (0+(j:Int)):=rfl;rw[<-A] at c;have B:dMod (.int I) (.int (so.length:Int))=some (.int (I % (so.length:Int))):=vc (by lia);have C:dDiv (.int I) (.int (so.length:Int))=some (.int (I / (so.length:Int))):=zml (by lia) (by lia);refine⟨[some (.sh (ssL ss)),some (.sh (.int (I / (so.length:Int)))),some (.ow (cntD ss.length (lenF ss (p++[j+1])))),some (.ow (iD (p++[j+1]))),some (.sh (.int (0+(k:Int)))),some (.sh (.lst (so.map λj:Nat=>D.int (0+(j:Int))))),some (.sh (.int (0+(j:Int))))],?_,p++[j+1],_,_,_,_,rfl,by simp[Z],λa ha=>?_,λi hi=>?_⟩
   ·rw[<-h,O]
    simp only[zfg,sSeq,sSet,jo,p7,vq,fLst,ur,gz,bz,fNil,jk,fIxV,ixSl,fBin,fVar,fC,lp,rh,dSub,h9,bg,cy,List.getD_cons_zero,List.getD_cons_succ,oa,af,ah,ac,ao,ax,ay,R,Q,if_true,c,y,q,B,C,v,o,x,P]
   ·rcases de.mp ha with ha | ha
    ·exact V a ha
    ·have:a=j+1:=by simpa using ha
     lia
   ·by_cases e:i=j
    ·subst e;rw[M];lia
    ·rw[N i e];exact m i hi)
 rw[pd] at Z;have hw:Whole ss p:=by
  refine⟨V,λj s U=>?_⟩;have S:=(am.mp U).1;have:=zjo (λj=>p.count (j+1)) (λj=>(ss.getD j []).length) ss.length (λj U=>by have:=m j U;unfold lenF at this;lia) (by rw[zm0 _ _ V,zm1,Z]) j S;rw[this];simp[U]
 refine⟨p,hw,?_⟩;have hc:=zot ss;have hf:Few (ss.map λs=>D.lst (s.map sD)).length:=few (by rw[ae];lia);have hi:iR1 [.int (ss.flatten.length:Int)]=some (rngD 0 ss.flatten.length):=oo _ (by lia);refine zp6 (e':=[some (.sh (ssL ss)),some (.sh (.int I)),some (.ow (cntD ss.length (lenF ss p))),some (.ow (iD p)),E,v5,v6]) rfl ?_;show zg9 [some (.sh (ssL ss)),some (.sh (.int Y)),none,none,none,none,none]=_;unfold ssL at h1 ⊢;simp only[zg9,sSeq,sOwn,sFor,vt,ju,fiS,fVar,il,fNil,gz,bz,vp,cy,cg,dy,af,ah,ac,ao,ax,ay,hf,if_true,hc,l,F,hi,h1]
theorem zk0(T:g9)(U:∀x∈T,gw x):xl [.lst (T.map sD)]=some (.int (jx 0 T)):=by
 obtain⟨e',h1,D,rfl⟩:=nr (i:=3) (g:=zgk) sD (λp e=>∃D,e=[some (.sh (.lst (T.map sD))),some (.sh (.int (hrs p))),some (.sh (.int (jx 0 p))),D]) T
  [some (.sh (.lst (T.map sD))),some (.sh (.int 0)),some (.sh (.int 0)),none] ⟨none,rfl⟩ (by
   rintro p x q e I ⟨D,rfl⟩;obtain⟨_,_,_,_,Z,a⟩:=U x (by rw[I];simp);have sm:ln x.2.2:=l3 (by lia);have V:hrs (p++[x])=hrs p+x.2.1:=by rw[nn];simp[hrs]
   have Y:jx 0 (p++[x])=jx 0 p+x.2.2*(hrs p+x.2.1):=by rw[zi9,i9]
   rw[V,Y];generalize T.map sD=TT at *;unfold sD;simp[zgk,ug,uf,om sm])
 refine j4 (e':=[some (.sh (.lst (T.map sD))),some (.sh (.int (hrs T))),some (.sh (.int (jx 0 T))),D]) rfl ?_;show zif [some (.sh (.lst (T.map sD))),none,none,none]=_;simp[zif,h1]
theorem zm4(ok:TurnsOk ss ts)(I:tj [ssL ss]=some (.lst (ts.map tnD)))(Y:∀x∈ss.flatten,gw x)(Z:ss.length<=1000)(a:ss.flatten.length<=14):zhd [ssL ss]=some (.int (jx 0 (tk ss (gm ts)))):=by
 have D:=zgo ok I a;have V:=ok.whole;have U:=zis V Y Z (by rw[V.len];lia);refine j4 (e':=[some (.sh (ssL ss))]) rfl ?_;show zhc [some (.sh (ssL ss))]=_;simp[zhc,D,U]
def yn(p q:h8)(j:Nat):ofS (p++q) j=ofS p j++ofS q j:=by unfold ofS;rw[f9,bi]
def begF(p:h8)(j:Nat):Int:=((ofS p j).flatten.length:Int)
theorem zve(p:h8)(t:Tn)(h1:1<=t.1):begF (p++[t]) (t.1-1)=begF p (t.1-1)+(t.2.length:Int)/\∀i,i≠t.1-1->begF (p++[t]) i=begF p i:=by
 unfold begF;refine⟨?_,λi hi=>?_⟩
 ·rw[yn,vh t [] (t.1-1) (by lia)]
  simp[ofS]
 ·rw[yn,yv t [] i (by lia)]
  simp[ofS]
def slD(r:g9):D:=.lst (r.map sD)
theorem zm5(ok:TurnsOk ss ts)(w:ss.length<=1000)(x:ss.flatten.length<=14):zhf [ssL ss,.lst (ts.map tnD)]=some (.lst (ts.map λt=>slD t.2)):=by
 have k:=ok.len;obtain⟨e',h1,a,v5,v6,v7,v8,rfl⟩:=sj (ix:=[4,5,6,7]) (g:=zdz) (λt:Tn=>[D.int (t.1:Int),.int (t.2.length:Int),.int (hrs t.2),.int (lss t.2)])
  (λp e=>∃a v5 v6 v7 v8,e=[some (.sh (ssL ss)),some (.sh (.lst (ts.map tnD))),some (.ow (cntD ss.length (begF p))),some (.ow (p.map λt=>slD t.2)),a,v5,v6,v7,v8]) ts
  [some (.sh (ssL ss)),some (.sh (.lst (ts.map tnD))),some (.ow (cntD ss.length (begF []))),some (.ow []),none,none,none,none,none] ⟨none,none,none,none,none,rfl⟩ (λ_ _=>rfl) (by
   rintro p t q e V ⟨a,v5,v6,v7,v8,rfl⟩;obtain⟨l,y⟩:=ok.lo t (by rw[V];simp);obtain⟨m,n⟩:=zve p t l;have o:(t.1:Int)-1=((t.1-1:Nat):Int):=by lia
   have b:=wo ss.length (begF p) (t.1-1) (by lia);have c:ixN (cntD ss.length (begF p)).length ((t.1-1:Nat):Int)=some (t.1-1):=by
    rw[qm (by lia) (by rw[ww];lia)];congr 1
   have U:=zj3 ss.length (begF p) (begF (p++[t])) (t.1-1) (λi _ hi=>n i hi);rw[m] at U;have Y:t.1-1<ss.length:=by lia
   have j:=ok.part (t.1-1) ss[t.1-1] (by simp[Y]);rw[V,yn,vh t q (t.1-1) (by lia),em,cf] at j;have d:atI (ss.map λs=>D.lst (s.map sD)) ((t.1-1:Nat):Int)=some (.lst (ss[t.1-1].map sD)):=kh (λs:g9=>D.lst (s.map sD)) (by simp[Y]);have I:=z02 ((ofS p (t.1-1)).flatten.map sD) (t.2.map sD) ((ofS q (t.1-1)).flatten.map sD);rw[<-bi,<-bi,j,ae,ae] at I;have r:begF p (t.1-1)=((ofS p (t.1-1)).flatten.length:Int):=rfl;rw[<-r] at I;have u:p.length<=ts.length:=by rw[V];simp
   have f:Few ((p.map λt=>slD t.2).length+1):=few (by rw[ae];lia);rw[<-U,bi,bg,cy];unfold ssL;generalize (p.map λt=>slD t.2)=M at *;have h:D.lst (t.2.map sD)=slD t.2:=rfl;simp[l4,zdz,o,b,c,d,I,h,f])
 have v:lv fYes (fC (.int 0)) [] (ss.map λs=>D.lst (s.map sD))=some (cntD ss.length (begF [])):=by
  rw[zhw];congr 1
 have f:Few (ss.map λs=>D.lst (s.map sD)).length:=few (by rw[ae];lia);refine j4 (e':=[some (.sh (ssL ss)),some (.sh (.lst (ts.map tnD))),some (.ow (cntD ss.length (begF ts))),some (.sh (.lst (ts.map λt=>slD t.2))),a,v5,v6,v7,v8]) rfl ?_;show zhe [some (.sh (ssL ss)),some (.sh (.lst (ts.map tnD))),none,none,none,none,none,none,none]=_;have Z:forU [4,5,6,7] zdz (ts.map tnD) [some (.sh (ssL ss)),some (.sh (.lst (ts.map tnD))),some (.ow (cntD ss.length (begF []))),some (.ow []),none,none,none,none,none]=_:=h1;unfold ssL at Z ⊢;generalize (ss.map λs=>D.lst (s.map sD))=L at *;simp[zhe,ju,f,v,Z]
def rl(r p:g9):f5:=(List.range p.length).map λi=>lss r*hrs (p.take (i+1))-lss (p.take (i+1))*hrs r
theorem zsu(r p:g9)(x:Sk):rl r (p++[x])=rl r p++[lss r*hrs (p++[x])-lss (p++[x])*hrs r]:=by
 unfold rl;rw[aj,dg,gf,bi];congr 1
 ·apply jb
  intro i hi;have hi:i<p.length:=fu.mp hi;rw[ia (by lia)]
 ·simp
  rw[ig (by simp)]
def zk2(r p:g9):(rl r p).length=p.length:=by simp[rl]
def debts(r:g9):f5:=rl r r.dropLast
theorem zxs(a:g2):cutD a none (some (-1))=a.dropLast:=by
 unfold cutD;rw[HT.sIx_none];have:HT.sIx a.length a.length (some (-1))=a.length-1:=by
  unfold HT.sIx;dsimp only;rw[if_pos (by lia)]
  lia
 rw[this,lr];simp
theorem zlj(r:g9)(a:∀x∈r,gw x)(k:r.length<=14):zei [.tup [.int (hrs r),.int (lss r)],slD r]=some (.lst ((debts r).map D.int)):=by
 have b:=smB r a (by lia);obtain⟨e',h1,v5,rfl⟩:=nr (i:=5) (g:=zew) sD (λp e=>∃v5,e=[some (.sh (.tup [.int (hrs r),.int (lss r)])),some (.sh (slD r)),some (.ow ((rl r p).map D.int)),some (.sh (.int (hrs p))),some (.sh (.int (lss p))),v5]) r.dropLast
  [some (.sh (.tup [.int (hrs r),.int (lss r)])),some (.sh (slD r)),some (.ow []),some (.sh (.int 0)),some (.sh (.int 0)),none] ⟨none,rfl⟩ (by
   rintro p x q e V ⟨v5,rfl⟩;have c:hrs (p++[x])=hrs p+x.2.1:=by rw[nn];simp[hrs]
   have d:lss (p++[x])=lss p+x.2.2:=by rw[sd];simp[lss]
   have f:p.length+1<=r.length:=by
    have:=congrArg List.length V;simp at this
    lia
   have Y:∀y∈p++[x],gw y:=λy h=>a y (List.dropLast_subset r (by rw[V];rw[show p++x::q=(p++[x])++q by simp];exact e7 _ h));have Z:=smB (p++[x]) Y (by simp;lia);have I:=zq8 (hrs r) (lss r) (hrs (p++[x])) (lss (p++[x])) b.2 Z.2;have j:Few (((rl r p).map D.int).length+1):=few (by rw[ae,zk2];lia);rw[zsu,bi,bg,cy];rw[c,d] at I ⊢;generalize (rl r p).map D.int=M at *;simp[zew,zj4,zp9,I,j])
 refine j4 (e':=[some (.sh (.tup [.int (hrs r),.int (lss r)])),some (.sh (slD r)),some (.sh (.lst ((debts r).map D.int))),some (.sh (.int (hrs r.dropLast))),some (.sh (.int (lss r.dropLast))),v5]) rfl ?_;show zgl [some (.sh (.tup [.int (hrs r),.int (lss r)])),some (.sh (slD r)),none,none,none,none]=_;have U:=zxs (r.map sD);rw[<-List.map_dropLast] at U;unfold slD at h1 ⊢;unfold debts;simp only[zgl,sSeq,sSet,sOwn,sFor,sRet,il,fNil,fC,fiS,fLst,fSl,fO0,fO1,fUn,dNeg,fVar,af,ah,ac,ao,ax,ay,cg,dy,if_true,U,h1]
def drF(ss:h7)(p:f0):h7:=(List.range ss.length).map λj=>(ss.getD j []).drop (p.count (j+1))
def z1b(ss:h7):drF ss []=ss:=by
 unfold drF;apply d6;intro i;by_cases h:i<ss.length
 ·simp[h]
 ·simp[h]
theorem zxt(V:Whole ss (p++a::q)) :
  ∃r:g9,(drF ss p)[a-1]?=some (nj ss a (p.count a)::r)/\(drF ss p).set (a-1) r=drF ss (p++[a]):=by
 obtain⟨s,Y,I,U,Z,b⟩:=V.at;have hd:s.drop (p.count a)=nj ss a (p.count a)::s.drop (p.count a+1):=by
  rw[fb I];rw[ak I] at U;rw[bh U]
 have D:ss.getD (a-1) []=s:=by rw[aq,Y];rfl
 refine⟨s.drop (p.count a+1),?_,?_⟩
 ·unfold drF
  rw[az,jd (by lia),ao,D,show a-1+1=a by lia,hd]
 ·apply d6
  intro i;unfold drF;rw[ir];by_cases hi:i<ss.length
  ·by_cases e:a-1=i
   ·subst e
    simp only[ae,gg,hi,if_true];rw[az,jd hi,ao,D,vg,if_pos (by lia),show a-1+1=a by lia]
   ·rw[if_neg e,az,az,jd hi,ao,ao,vg,if_neg (by lia)];rfl
  ·by_cases e:a-1=i
   ·subst e;lia
   ·rw[if_neg e,c7 (by simp;lia),c7 (by simp;lia)]
def zrj{α:Type}:∀ {l:List (List α)} {j:Nat} {r:List α} {x:α},l[j]?=some (x::r)->l.flatten.Perm (x::(l.set j r).flatten)
 | s::l,0,r,x,h=>by
   have h:s=x::r:=by simpa using h
   subst h;exact List.Perm.refl _
 | s::l,j+1,r,x,h=>by
   have D:=zrj (l:=l) (j:=j) (r:=r) (x:=x) (by simpa using h);exact(lu s D).trans List.perm_middle
def zxu(U:Whole ss os):∀p:f0,∀q,os=p++q->(tk ss p++(drF ss p).flatten).Perm ss.flatten:=by
 apply zm2
 ·intro q _
  rw[z1b];exact List.Perm.refl _
 ·intro p a V q D
  rw[b9,ff] at D;obtain⟨r,h1,h2⟩:=zxt (D ▸ U);have I:=zrj h1;rw[h2] at I;rw[wp,b9];exact(lu _ I.symm).trans (V (a::q) D)
def z1c(I:Whole ss os):(drF ss os).flatten=[]:=by
 apply List.flatten_eq_nil_iff.mpr;intro l U;obtain⟨j,D,rfl⟩:=cx.mp U;have D:j<ss.length:=fu.mp D;rw[I.cnt j ss[j] (by simp[D])];simp[D]
def ym(D:Whole ss os):(tk ss os).Perm ss.flatten:=by
 have:=zxu D os [] (by simp);rw[z1c D,cr] at this;exact this
def z1d(D:Whole ss os)(nd:(ss.flatten.map (·.1)).Nodup):((tk ss os).map (·.1)).Nodup:=((ym D).map (·.1)).nodup_iff.mpr nd
def zja{α:Type}{te:FE}{n:Nat}{base:DE0}(I:α->g2)(ψ:α->D):∀(xs:List α),(∀x∈xs,(I x).length=n)->(∀x∈xs,∃e',te (l4 (List.range n) (I x) (List.replicate n none++base))=some (ψ x,e')) ->
  qj fYes te n base (xs.map λx=>D.tup (I x))=some (xs.map ψ)
 | [],_,_=>rfl
 | x::xs,hl,h=>by
   obtain⟨e',h1⟩:=h x bj;have V:=zja I ψ xs (λy U=>hl y (au _ U)) (λy U=>h y (au _ U));rw[bg,qj];have Y:unp (List.range n) (.tup (I x)) (List.replicate n none++base)=some (l4 (List.range n) (I x) (List.replicate n none++base)):=by
    show(if (I x).length=(List.range n).length then some (l4 (List.range n) (I x) (List.replicate n none++base)) else none)=_;rw[if_pos (by rw[hl x bj,gg])]
   simp[Y,h1,V]
def zoy{α:Type}(k:α->Int)(v:α->D):∀xs:List α,pairs? (xs.map λx=>D.tup [.int (k x),v x])=some (xs.map λx=>(k x,v x))
 | []=>rfl
 | x::xs=>by rw[bg,pairs?,zoy k v xs];rfl
def zoz(k:α->Int)(v:α->D)(xs:List α)(nd:(xs.map k).Nodup):uh [.lst (xs.map λx=>D.tup [.int (k x),v x])]=some (.dct (xs.map k) (xs.map v)):=by
 unfold uh;simp only[zoy,ac,ed];have I:((λx:Int×D=>x.1) ∘ λx=>(k x,v x))=k:=rfl;have U:((λx:Int×D=>x.2) ∘ λx=>(k x,v x))=v:=rfl;rw[I,U,if_pos nd]
def zk4{α:Type}(k:α->Int)(v:α->D):∀(xs:List α),(xs.map k).Nodup->∀x∈xs,rg (xs.map k) (xs.map v) (k x)=some (v x)
 | y::xs,nd,x,h=>by
   rw[bg,bg,rg];rw[bg,cq] at nd;rcases b7.mp h with rfl | h
   ·rw[if_pos rfl]
   ·rw[if_neg (λe=>nd.1 (by rw[e];exact cx.mpr ⟨x,h,rfl⟩))]
    exact zk4 k v xs nd.2 x h
def plcD(T:g9):D:=.dct (T.map (·.1)) ((List.range T.length).map λi:Nat=>D.int (i:Int))
def zjb(T:List α):(T.zipIdx 0).map (·.1)=T:=by simp
def zly{β:Type}(f:Nat->β)(T:List α):(T.zipIdx 0).map (λp=>f p.2)=(List.range T.length).map f:=by
 apply d6;intro i;rw[az,az,iy];by_cases h:i<T.length
 ·simp[h]
 ·simp[h]
theorem zh5(T:g9)(nd:(T.map (·.1)).Nodup)(a:T.length<=1000):zej [.lst (T.map sD)]=some (plcD T):=by
 have c:=zja (te:=fTup (bz (er my (bz (fVar 1) (fNil))) (bz (fVar 0) (fNil)))) (n:=2) (base:=[]) (λx:Sk×Nat=>[D.int (x.2:Nat),sD x.1]) (λx:Sk×Nat=>D.tup [.int x.1.1,.int (x.2:Nat)]) (T.zipIdx 0) (λ_ _=>rfl) (λx _=>⟨[some (.sh (.int (x.2:Nat))),some (.sh (sD x.1))],by
  simp[List.range,List.range.loop,l4,qr]⟩)
 have V:iEn 0 [.lst (T.map sD)]=some ((T.zipIdx 0).map λp=>D.tup [.int (p.2:Nat),sD p.1]):=by
  show some (mz 0 (T.map sD))=_;rw[xg]
 have I:(T.zipIdx 0).map (λx:Sk×Nat=>x.1.1)=T.map (·.1):=by
  have:=congrArg (List.map λx:Sk=>x.1) (zjb T);rw[ed] at this;exact this
 have Y:(T.zipIdx 0).map (λx:Sk×Nat=>D.int (x.2:Nat))=(List.range T.length).map λi:Nat=>D.int (i:Int):=zly (λi:Nat=>D.int (i:Int)) T;have U:=zoz (λx:Sk×Nat=>x.1.1) (λx:Sk×Nat=>D.int (x.2:Nat)) (T.zipIdx 0) (by rw[I];exact nd);rw[I,Y] at U;have Z:Few ((T.zipIdx 0).map λp:Sk×Nat=>D.tup [.int (p.2:Nat),sD p.1]).length:=few (by simp;lia);refine j4 (e':=[some (.sh (.lst (T.map sD)))]) rfl ?_;show zgm [some (.sh (.lst (T.map sD)))]=_;simp only[zgm,sRet,er,bz,fNil,fLst,rn,gz,fVar,af,ac,ao,V,Z,if_true,cy,c,U,plcD]
theorem zvf{α:Type}[DecidableEq α]:∀(T:List α) (c:Nat),T.Nodup->∀x,x∈T.zipIdx c->x.2=c+T.idxOf x.1
 | y::T,c,nd,x,h=>by
   rw[cq] at nd;rcases b7.mp h with rfl | h
   ·simp
   ·have D:=zvf T (c+1) nd.2 x h
    have I:x.1∈T:=(List.mem_zipIdx h).2.2 ▸ f7 _;rw[q9];have:(y==x.1)=false:=by
     rw[beq_eq_false_iff_ne];intro e;exact nd.1 (e ▸ I)
    rw[this,D];simp only[cond_false]
    lia
def posT(T:g9)(k:Int):Int:=((T.map (·.1)).idxOf k:Nat)
variable{T:g9}{x:Sk}
def zy(nd:(T.map (·.1)).Nodup)(I:x∈T):pj (plcD T) (.int x.1)=some (.int (posT T x.1)):=by
 show rg (T.map (·.1)) ((List.range T.length).map λi:Nat=>D.int (i:Int)) x.1=_;have U:x.1∈T.map (·.1):=cx.mpr ⟨x,I,rfl⟩;have V:∃i,(x.1,i)∈(T.map (·.1)).zipIdx 0:=by
  obtain⟨i,hi,e⟩:=gl U;exact⟨i,List.mem_zipIdx_iff_getElem?.mpr (by rw[<-e];exact ak hi)⟩
 obtain⟨i,hi⟩:=V;have h1:=zvf _ 0 nd _ hi;have h2:=zk4 (λp:Int×Nat=>p.1) (λp:Int×Nat=>D.int (p.2:Int)) ((T.map (·.1)).zipIdx 0) (by rw[zjb];exact nd) (x.1,i) hi;rw[zjb] at h2;have Y:((T.map (·.1)).zipIdx 0).map (λp:Int×Nat=>D.int (p.2:Int))=(List.range T.length).map λi:Nat=>D.int (i:Int):=by
  rw[zly (λi:Nat=>D.int (i:Int)) (T.map (·.1)),ae]
 rw[Y] at h2;rw[h2];unfold posT;rw[h1,j1]
def gapS(x y:Sk):Int:=x.2.2*y.2.1-y.2.2*x.2.1
def prow(pos:Int->Int)(x:Sk)(q:g9):List f5:=(q.filter λy=>decide (pos y.1<pos x.1)).map λy=>[x.1,y.1,gapS x y]
def zo0(pos:Int->Int)(x:Sk)(p:g9)(y:Sk):prow pos x (p++[y])=prow pos x p++if pos y.1<pos x.1 then[[x.1,y.1,gapS x y]] else[]:=by
 unfold prow;by_cases h:pos y.1<pos x.1
 ·simp[h]
 ·simp[h]
def zm7(pos:Int->Int)(x:Sk)(q:g9):(prow pos x q).length<=q.length:=by
 unfold prow;rw[ae];exact lq _ _
def tpN(pos:Int->Int)(T:g9)(n:Nat):List f5:=(List.range n).flatMap λi=>prow pos (T.getD i (0,0,0)) (T.drop (i+1))
def zm8(pos:Int->Int)(T:g9)(n:Nat):tpN pos T (n+1)=tpN pos T n++prow pos (T.getD n (0,0,0)) (T.drop (n+1)):=by
 unfold tpN;rw[gf,List.flatMap_append];simp
variable{q:g9}{p:List Hs}
def z4s(pos:Int->Int){p:g9}(h:T=p++x::q):tpN pos T (p.length+1)=tpN pos T p.length++prow pos x q:=by
 rw[zm8,h];simp[aq]
theorem zm9(pos:Int->Int)(T:g9):∀n,(tpN pos T n).length<=n*T.length
 | 0=>by simp[tpN]
 | n+1=>by
   rw[zm8,aj];have h1:=zm9 pos T n;have h2:=zm7 pos (T.getD n (0,0,0)) (T.drop (n+1));rw[d5] at h2;rw[Nat.succ_mul]
   lia
def zsv(x:Sk):ze8 [sD x]=some (.tup [.int x.2.1,.int x.2.2]):=by
 refine j4 (e':=[some (.sh (sD x))]) rfl ?_;show zhg [some (.sh (sD x))]=_;simp[zhg,zj4,zp9]
def zxv(a b:g2)(x:D):cutD (a++x::b) (some ((a.length:Int)+1)) none=b:=by
 have:=zp5 (a++[x]) b;rw[b9,ff,aj,dg] at this;exact this
variable{S:g9}
theorem zxw{ST OR:D}(nd:(S.map (·.1)).Nodup)(a:x∈S)(f:∀y∈q,y∈S)(b:∀y∈S,gw y)(I:g2)(t:I.length<=1000)(h:q.length<=1000)(v5:g5)(v7 v8:g5) :
  ∃j k,forL 7 zg (q.map sD) [some (.sh ST),some (.sh OR),some (.sh (plcD S)),some (.sh (.lst (T.map sD))),some (.ow I),v5,some (.sh (sD x)),v7,v8] =
   some (.nx,[some (.sh ST),some (.sh OR),some (.sh (plcD S)),some (.sh (.lst (T.map sD))),some (.ow (I++(prow (posT S) x q).map iT)),v5,some (.sh (sD x)),j,k]):=by
 have l:ln x.2.2:=by have:=b x a;exact l3 (by unfold gw at this;lia)
 have px:=zy nd a;obtain⟨e',h1,Y,Z,rfl⟩:=nr (i:=7) (g:=zg) sD (λp e=>∃v7 v8,e=[some (.sh ST),some (.sh OR),some (.sh (plcD S)),some (.sh (.lst (T.map sD))),some (.ow (I++(prow (posT S) x p).map iT)),v5,some (.sh (sD x)),v7,v8]) q
  [some (.sh ST),some (.sh OR),some (.sh (plcD S)),some (.sh (.lst (T.map sD))),some (.ow I),v5,some (.sh (sD x)),v7,v8] ⟨v7,v8,by simp[prow]⟩ (by
   rintro p y r e U ⟨v7,v8,rfl⟩;have c:y∈S:=f y (by rw[U];simp);have d:=zy nd c;have m:ln y.2.2:=by have:=b y c;exact l3 (by unfold gw at this;lia)
   have n:p.length<=1000:=by have:=congrArg List.length U;simp at this;lia
   have o:Few ((I++(prow (posT S) x p).map iT).length+1):=few (by have:=zm7 (posT S) x p;simp;lia);have s:=zq8 x.2.1 x.2.2 y.2.1 y.2.2 l m;rw[zo0,bi];by_cases V:posT S y.1<posT S x.1
   ·refine⟨[some (.sh ST),some (.sh OR),some (.sh (plcD S)),some (.sh (.lst (T.map sD))),some (.ow (I++((prow (posT S) x p).map iT++[.tup [.int x.1,.int y.1,.int (gapS x y)]]))),v5,some (.sh (sD x)),some (.sh (sD y)),some (.sh (.int (gapS x y)))],?_,_,_,by rw[if_pos V];rfl⟩
    rw[<-b9];generalize I++(prow (posT S) x p).map iT=M at *;simp[zg,qr,px,d,decide_eq_true V,zsv,s,o,gapS]
   ·refine⟨[some (.sh ST),some (.sh OR),some (.sh (plcD S)),some (.sh (.lst (T.map sD))),some (.ow (I++((prow (posT S) x p).map iT++[]))),v5,some (.sh (sD x)),some (.sh (sD y)),v8],?_,_,_,by rw[if_neg V];rfl⟩
    simp[zg,qr,px,d,decide_eq_false V])
 exact⟨Y,Z,h1⟩
theorem zk5(ok:TurnsOk ss ts)(d:tj [ssL ss]=some (.lst (ts.map tnD)))(Y:Whole ss os)(c:Stk 14 ss) :
  zfj [ssL ss,.lst (iD os)]=some (.lst ((tpN (posT (tk ss os)) (tk ss (gm ts)) (tk ss (gm ts)).length).map iT)):=by
 have A:=c.many;have Z:=c.tot;have f:=y7 Y (by lia) (by rw[Y.len];lia);have i:=y7 ok.whole (by lia) (by rw[ok.whole.len];lia);have j:=zgo ok d Z;have nd:=z1d Y c.nd;have m:(tk ss os).length<=14:=by rw[um,Y.len];lia
 have k:(tk ss (gm ts)).length<=14:=by rw[um,ok.whole.len];lia
 have V:=zh5 (tk ss os) nd (by lia);have U:∀y∈tk ss (gm ts),y∈tk ss os:=λy a=>(ym Y).mem_iff.mpr ((ym ok.whole).mem_iff.mp a);have o:∀y∈tk ss os,gw y:=λy a=>c.good y (Y.sk y a);generalize hT:tk ss (gm ts)=T at *;generalize B:tk ss os=S at *;obtain⟨e',h1,v5,v6,v7,v8,rfl⟩:=sj (ix:=[5,6]) (g:=zed) (λx:Sk×Nat=>[D.int (x.2:Nat),sD x.1]) (λp e=>∃v5 v6 v7 v8,e=[some (.sh (ssL ss)),some (.sh (.lst (iD os))),some (.sh (plcD S)),some (.sh (.lst (T.map sD))),some (.ow ((tpN (posT S) T p.length).map iT)),v5,v6,v7,v8]) (T.zipIdx 0)
  [some (.sh (ssL ss)),some (.sh (.lst (iD os))),some (.sh (plcD S)),some (.sh (.lst (T.map sD))),some (.ow []),none,none,none,none] ⟨none,none,none,none,rfl⟩ (λ_ _=>rfl) (by
   rintro p ⟨x,n⟩ r e hpr ⟨v5,v6,v7,v8,rfl⟩;have I:T=p.map (·.1)++x::r.map (·.1):=by
    have:=congrArg (List.map (·.1)) hpr;simpa using this
   have s:n=p.length:=by
    have:(T.zipIdx 0)[p.length]?=some (x,n):=by rw[hpr];simp
    rw[iy] at this;cases h:T[p.length]? with
    | none=>rw[h] at this;cases this
    | some y=>rw[h] at this;simp at this;lia
   subst s;have V:p.length<=14:=by have:=congrArg List.length I;simp at this;lia
   have t:(r.map (·.1)).length<=14:=by have:=congrArg List.length I;simp at this;simp;lia
   have u:(tpN (posT S) T p.length).length<=1000:=by
    have:=zm9 (posT S) T p.length;have:p.length*T.length<=14*14:=ub V k
    lia
   obtain⟨v,w,h2⟩:=zxw (ST:=ssL ss) (OR:=.lst (iD os)) (T:=T) (x:=x) (q:=r.map (·.1)) nd (U x (by rw[I];simp)) (λy a=>U y (by rw[I];exact bn _ (au _ a))) o ((tpN (posT S) T p.length).map iT) (by rw[ae];exact u) (by lia) (some (.sh (.int (p.length:Nat)))) v7 v8;have l:tpN (posT S) T (p++[(x,p.length)]).length=tpN (posT S) T p.length++prow (posT S) x (r.map (·.1)):=by
    have:=z4s (posT S) I;rw[ae] at this;rw[aj,dg,this]
   have b:cutD (T.map sD) (some ((p.length:Int)+1)) none=(r.map (·.1)).map sD:=by
    have:=zxv ((p.map (·.1)).map sD) ((r.map (·.1)).map sD) (sD x);rw[ae,ae] at this;rw[I,bi,bg];exact this
   rw[l,bi];refine⟨_,?_,some (.sh (.int (p.length:Nat))),some (.sh (sD x)),v,w,rfl⟩;rw[<-h2];simp[l4,zed,b])
 rw[List.length_zipIdx] at h1;have z:iEn 0 [.lst (T.map sD)]=some ((T.zipIdx 0).map λp=>D.tup [.int (p.2:Nat),sD p.1]):=by
  show some (mz 0 (T.map sD))=_;rw[xg]
 refine j4 (e':=[some (.sh (ssL ss)),some (.sh (.lst (iD os))),some (.sh (plcD S)),some (.sh (.lst (T.map sD))),some (.sh (.lst ((tpN (posT S) T T.length).map iT))),v5,v6,v7,v8]) rfl ?_;show zfi [some (.sh (ssL ss)),some (.sh (.lst (iD os))),none,none,none,none,none,none,none]=_;simp only[zfi,sSeq,sSet,sOwn,mj,sRet,il,fNil,gz,er,bz,fVar,fLst,af,ah,ac,ao,ax,ay,cg,dy,if_true,f,j,i,V,z,h1]
theorem zo1(f:α->Int){l D:List α}(p:l.Perm D):(l.map f).sum=(D.map f).sum:=by
 induction p with
 | nil=>rfl
 | cons x _ ih=>simp[dq,ih]
 | swap x y l=>simp[dq];lia
 | trans _ _ h1 h2=>rw[h1,h2]
theorem zk6(d:Int):∀(r:g9) (h:Int),jx (h+d) r=jx h r+d*lss r
 | [],h=>by simp[jx,lss]
 | x::r,h=>by
   rw[jx,jx,zxr,show h+d+x.2.1=h+x.2.1+d by lia,zk6 d r,ib x.2.2,ib d,ij d x.2.2]
   lia
def invS(pos:Int->Int):g9->Int
 | []=>0
 | x::r=>(r.map λy=>if pos y.1<pos x.1 then gapS x y else 0).sum+invS pos r
def vk(pos:Int->Int)(x y:Sk):Int:=if pos y.1<pos x.1 then x.2.2*y.2.1 else y.2.2*x.2.1
def KC(pos:Int->Int):g9->Int
 | []=>0
 | x::r=>x.2.2*x.2.1+(r.map (vk pos x)).sum+KC pos r
theorem zlz{α:Type}(f g:α->Int):∀l:List α,(l.map λx=>f x+g x).sum=(l.map f).sum+(l.map g).sum
 | []=>rfl
 | x::l=>by simp[dq,zlz f g l];lia
def zl0{α:Type}(c:Int)(f:α->Int):∀l:List α,(l.map λx=>c*f x).sum=c*(l.map f).sum
 | []=>by simp
 | x::l=>by simp[dq,zl0 c f l,ib]
theorem zna(pos:Int->Int):∀T:g9,jx 0 T+invS pos T=KC pos T
 | []=>rfl
 | x::r=>by
   have D:=zna pos r;rw[jx,invS,KC,zk6 x.2.1 r 0,i9];have e:(r.map (vk pos x)).sum=x.2.1*lss r+(r.map λy=>if pos y.1<pos x.1 then gapS x y else 0).sum:=by
    rw[lss,<-zl0,<-zlz];congr 1;apply jb;intro y _;unfold vk gapS;by_cases h:pos y.1<pos x.1
    ·rw[if_pos h,if_pos h,ij y.2.2];lia
    ·rw[if_neg h,if_neg h,ij y.2.2];lia
   lia
theorem z1e(pos:Int->Int)(p:T.Perm S):(∀a∈T,∀b∈T,pos a.1=pos b.1->a=b)->KC pos T=KC pos S:=by
 induction p with
 | nil=>intro _;rfl
 | @cons x l l' q ih =>
   intro h;rw[KC,KC,zo1 _ q,ih λa D b I=>h a (au _ D) b (au _ I)]
 | swap x y l =>
   intro h;simp[KC,dq];have e:vk pos x y=vk pos y x:=by
    unfold vk;by_cases h1:pos y.1<pos x.1
    ·rw[if_pos h1,if_neg (by lia)]
    ·by_cases h2:pos x.1<pos y.1
     ·rw[if_neg h1,if_pos h2]
     ·rw[h y (by simp) x (by simp) (by lia)]
   lia
 | trans p1 p2 h1 h2 =>
   intro h;rw[h1 h,h2 λa D b I=>h a (p1.mem_iff.mpr D) b (p1.mem_iff.mpr I)]
def zrl{α:Type}:∀l:List α,(l.map λ_=>(0:Int)).sum=0
 | []=>rfl
 | _::l=>by simp only[bg,dq,zrl l];rfl
theorem zo2(pos:Int->Int):∀ {S:g9},S.Pairwise (λa b=>pos a.1<pos b.1)->invS pos S=0
 | [],_=>rfl
 | x::r,h=>by
   rw[d9] at h;rw[invS,zo2 pos h.2];have:(r.map λy=>if pos y.1<pos x.1 then gapS x y else 0)=r.map λ_=>0:=jb λy D=>if_neg (by have:=h.1 y D;lia);rw[this,zrl];rfl
theorem z1f(nd:(S.map (·.1)).Nodup):S.Pairwise (λa b=>posT S a.1<posT S b.1):=by
 rw[List.pairwise_iff_getElem];intro i j hi D I;have h1:=nd.idxOf_getElem i (by simpa using hi);have h2:=nd.idxOf_getElem j (by simpa using D);simp only[kt] at h1 h2;unfold posT
 lia
theorem zxx(nd:(S.map (·.1)).Nodup):∀a∈S,∀b∈S,posT S a.1=posT S b.1->a=b:=by
 intro a D b I h;obtain⟨i,hi,rfl⟩:=gl D;obtain⟨j,U,rfl⟩:=gl I;have h1:=nd.idxOf_getElem i (by simpa using hi);have h2:=nd.idxOf_getElem j (by simpa using U);simp only[kt] at h1 h2;unfold posT at h;have:i=j:=by lia
 subst this;rfl
theorem zvg(p:T.Perm S)(nd:(S.map (·.1)).Nodup):jx 0 S-jx 0 T=invS (posT S) T:=by
 have h1:=zna (posT S) T;have h2:=zna (posT S) S;rw[zo2 _ (z1f nd)] at h2;have U:=z1e (posT S) p λa D b I=>zxx nd a (p.mem_iff.mp D) b (p.mem_iff.mp I)
 lia
def oy(pos:Int->Int):g9->List f5
 | []=>[]
 | x::r=>prow pos x r++oy pos r
def zi(pos:Int->Int):∀T:g9,tpN pos T T.length=oy pos T
 | []=>rfl
 | x::r=>by
   rw[oy,<-zi pos r];unfold tpN;rw[aw,List.range_succ_eq_map,List.flatMap_cons,List.flatMap_map];rfl
def r3(r:f5):Int:=r.getD 2 0
theorem zza(pos:Int->Int)(x:Sk):∀q:g9,((prow pos x q).map r3).sum=(q.map λy=>if pos y.1<pos x.1 then gapS x y else 0).sum
 | []=>rfl
 | y::q=>by
   have D:=zza pos x q;unfold prow at D ⊢;rw[pi];by_cases h:pos y.1<pos x.1
   ·simp only[decide_eq_true h,if_true,bg,dq,D,if_pos h]
    rfl
   ·simp only[decide_eq_false h,dc,if_false,bg,dq,D,if_neg h]
    lia
def zo3(pos:Int->Int):∀T:g9,((oy pos T).map r3).sum=invS pos T
 | []=>rfl
 | x::r=>by rw[oy,bi,jg,zza,zo3 pos r,invS]
def zo4(pos:Int->Int):∀ {T:g9},(T.map (·.1)).Nodup->∀r∈oy pos T,∃x∈T,∃y∈T,x.1≠y.1/\r=[x.1,y.1,gapS x y]
 | x::T,nd,r,h=>by
   rw[bg,cq] at nd;rcases de.mp h with h | h
   ·unfold prow at h
    obtain⟨y,D,rfl⟩:=cx.mp h;have D:=(fj.mp D).1;exact⟨x,by simp,y,au _ D,λe=>nd.1 (by rw[e];exact cx.mpr ⟨y,D,rfl⟩),rfl⟩
   ·obtain⟨a,I,b,U,h1,h2⟩:=zo4 pos nd.2 r h
    exact⟨a,au _ I,b,au _ U,h1,h2⟩
def srt(r:f5):f5:=[if r.getD 0 0<=r.getD 1 0 then r.getD 0 0 else r.getD 1 0,if r.getD 0 0<=r.getD 1 0 then r.getD 1 0 else r.getD 0 0]
def zvh(pos:Int->Int)(T:g9):(oy pos T).length<=T.length*T.length:=by
 rw[<-zi];exact zm9 pos T T.length
def zxz(l:g2):isiT (tyD (D.lst l)) "list" = true:=rfl
theorem zqa(h:Whole ss os)(A:ss.length<=1000):zdf [.lst (iD os),ssL ss]=some (.bl true):=by
 obtain⟨e',h1,V,rfl⟩:=nr (i:=3) (g:=zch) (λa:Nat=>D.int (a:Int)) (λp e=>∃V,e=[some (.sh (.lst (iD os))),some (.sh (ssL ss)),some (.ow (cntD ss.length (cntF p))),V,none]) os
  [some (.sh (.lst (iD os))),some (.sh (ssL ss)),some (.ow (cntD ss.length (cntF []))),none,none] ⟨none,rfl⟩ (by
   rintro p a q e c ⟨V,rfl⟩;have m:Whole ss (p++a::q):=by rw[<-c];exact h
   obtain⟨o,I,n,Y,r,f,s,U,t⟩:=zvd m;obtain⟨_,_,_,_,B,C⟩:=m.at;have u:=zmx (a:Int);have v:decide ((a:Int)<1)=false:=decide_eq_false (by lia);have w:decide ((a:Int) > ((ss.map λs=>D.lst (s.map sD)).length:Int))=false:=decide_eq_false (by rw[ae];lia);refine⟨[some (.sh (.lst (iD os))),some (.sh (ssL ss)),some (.ow (cntD ss.length (cntF (p++[a])))),some (.sh (.int (a:Int))),none],?_,_,rfl⟩;rw[<-Y];unfold ssL;simp only[zch,sSeq,sIf,sNil,p7,vq,fOr,fNot,fTst,er,bz,fNil,fBin,fIxV,ixSl,jk,fVar,fC,dSub,h9,dLt,dGt,af,ah,ac,ao,ax,ay,u,v,w,o,I,U,if_true,f,km,dc,if_false])
 obtain⟨E,h2,b,rfl⟩:=qv (i:=4) (g:=zdo) (λk e=>∃b,e=[some (.sh (.lst (iD os))),some (.sh (ssL ss)),some (.ow (cntD ss.length (cntF os))),V,b]) (rngD 0 ss.length)
  [some (.sh (.lst (iD os))),some (.sh (ssL ss)),some (.ow (cntD ss.length (cntF os))),V,none] ⟨none,rfl⟩ (by
   rintro k d e hd ⟨b,rfl⟩;obtain⟨rfl,j⟩:=qp hd;have I:=wo ss.length (cntF os) k j;have U:atI (ss.map λs=>D.lst (s.map sD)) (k:Int)=some (.lst (ss[k].map sD)):=kh (λs:g9=>D.lst (s.map sD)) (ak j);have l:cntF os k=(ss[k].length:Int):=by unfold cntF;rw[h.cnt k ss[k] (ak j)]
   have x:bLen [.lst (ss[k].map sD)]=some (.int (ss[k].length:Int)):=by show some (D.int ((ss[k].map sD).length:Nat))=_;rw[ae]
   rw[l] at I;unfold ssL;simp[zdo,I,U,x])
 have l:=zhw ss;have y:Few (ss.map λs=>D.lst (s.map sD)).length:=few (by rw[ae];lia);have z:iR1 [.int ((ss.map λs=>D.lst (s.map sD)).length:Int)]=some (rngD 0 ss.length):=by rw[ae];exact oo _ (by lia)
 refine j4 (e':=[some (.sh (.lst (iD os))),some (.sh (ssL ss)),some (.ow (cntD ss.length (cntF os))),V,b]) rfl ?_;show zex [some (.sh (.lst (iD os))),some (.sh (ssL ss)),none,none,none]=_;have Z:forL 3 zch (iD os) [some (.sh (.lst (iD os))),some (.sh (ssL ss)),some (.ow (cntD ss.length (cntF []))),none,none]=_:=h1;unfold ssL at Z h2 ⊢;generalize (ss.map λs=>D.lst (s.map sD))=L at *;simp[zex,ju,y,l,Z,h2,z,zxz]
def sumI(f:α->Int)(l:List α):Int:=(l.map f).sum
def zrm(f:α->Int):sumI f []=0:=rfl
def zo5(f:α->Int)(x:α)(l:List α):sumI f (x::l)=f x+sumI f l:=by simp[sumI]
def zrn(f:α->Int)(l D:List α):sumI f (l++D)=sumI f l+sumI f D:=by simp[sumI]
def PS(w C:Sk->Int)(P:Int):g9->Int
 | x::y::r=>-(P+w x)*(C y-C x-y.2.1)+PS w C (P+w x) (y::r)
 | _=>0
def z4t(Y:Whole ss os)(Z:ss[j]?=some s):s.Sublist (tk ss os):=by
 have U:∀p:f0,∀q,os=p++q->(s.take (p.count (j+1))).Sublist (tk ss p):=by
  apply zm2
  ·intro q _;simp
  ·intro p a I q V
   rw[b9,ff] at V;have I:=I (a::q) V;rw[wp,vg];by_cases e:a=j+1
   ·subst e
    rw[if_pos rfl];obtain⟨s',D,c,b,_,_⟩:=(V ▸ Y).at;rw[Nat.add_sub_cancel,Z] at D;cases D;have:s.take (p.count (j+1)+1)=s.take (p.count (j+1))++[nj ss (j+1) (p.count (j+1))]:=by
     rw[List.take_succ,b];rfl
    rw[this];exact List.Sublist.append I (kf _)
   ·rw[if_neg e,Nat.add_zero]
    exact I.trans (List.sublist_append_left _ _)
 have:=U os [] (by simp);rw[Y.cnt j s Z,List.take_length] at this;exact this
theorem z6d(ok:TurnsOk ss ts)(U:Whole ss os)(D:t∈ts):t.2.Sublist (tk ss os):=by
 obtain⟨h1,h2⟩:=ok.lo t D;have I:ss[t.1-1]?=some ss[t.1-1]:=ak (by lia);refine List.Sublist.trans ?_ (z4t U I);rw[<-ok.part _ _ I];apply eo;refine cx.mpr ⟨t,fj.mpr ⟨D,?_⟩,rfl⟩;simp
 lia
theorem zzb{ss:h7}{a:Nat}{s:g9}(I:ss[a-1]?=some s)(p:f0):∀k:Nat,p.count a+k<=s.length->tk ss (p++List.replicate k a)=tk ss p++(s.drop (p.count a)).take k
 | 0,_=>by simp
 | k+1,h=>by
   rw[List.replicate_succ',<-b9,wp,zzb I p k (by lia),b9];have D:p.count a+k<s.length:=by lia
   rw[List.take_succ];unfold nj;rw[aq,aq,I];simp[D]
theorem zvi(ok:TurnsOk ss ts):tk ss (gm ts)=(ts.map (·.2)).flatten:=by
 have I:∀p:h8,∀q,ts=p++q->tk ss (gm p)=(p.map (·.2)).flatten:=by
  apply zm2
  ·intro q _;rfl
  ·intro p t U q D
   rw[b9,ff] at D;have U:=U (t::q) D;obtain⟨h1,h2⟩:=ok.lo t (by rw[D];simp);have Z:ss[t.1-1]?=some ss[t.1-1]:=ak (by lia);have V:=ok.part _ _ Z;rw[D,yn,vh t q (t.1-1) (by lia),em,cf] at V;have Y:=zrd p (t.1-1);rw[show t.1-1+1=t.1 by lia] at Y;rw[qt,vf,zzb Z _ _ (by rw[Y,<-V];simp),U,Y,<-V];simp
 exact I ts [] (by simp)
theorem z1g(l:h7):(l.map λs:g9=>(s.length:Int)).sum=(l.flatten.length:Int):=by
 induction l with
 | nil=>rfl
 | cons a l ih=>rw[bg,dq,ih,cf,aj];lia
theorem zvj(ss:h7)(V:ss.length<=1000):zfl [ssL ss]=some (.int (ss.flatten.length:Int)):=by
 have c:=qu (te:=jk 0) (base:=[]) (λs:g9=>D.lst (s.map sD)) (λs:g9=>D.int (s.length:Int)) ss λs _=>⟨_,by simp;rfl⟩;have I:=zu3 (λs:g9=>(s.length:Int)) ss;have U:Few (ss.map λs=>D.lst (s.map sD)).length:=few (by rw[ae];lia);rw[z1g] at I;refine j4 (e':=[some (.sh (ssL ss))]) rfl ?_;show zfk [some (.sh (ssL ss))]=_;unfold ssL;generalize (ss.map λs=>D.lst (s.map sD))=L at *;simp[zfk,ju,U,c,I]
theorem zo(h:ss[a-1]?=some s)(I:1<=a):atI (ss.map λs=>D.lst (s.map sD)) ((a:Int)-1)=some (.lst (s.map sD)):=by
 rw[show((a:Int)-1)=((a-1:Nat):Int) by lia];exact kh _ h
def z1h(l:List α)(k:Nat)(x:α)(h:k<l.length):l.take k++[x]++l.drop (k+1)=l.set k x:=by
 rw[List.set_eq_take_append_cons_drop,if_pos h];simp
def zx1(l:g2)(k:Nat)(h:k<=l.length):cutD l none (some (k:Int))=l.take k:=by
 have:=z06 (l.take k) (l.drop k);rwa [List.take_append_drop,dz,Nat.min_eq_left h] at this
def znb(l:g2)(k:Nat)(h:k<=l.length):cutD l (some (k:Int)) none=l.drop k:=by
 have:=zp5 (l.take k) (l.drop k);rwa [List.take_append_drop,dz,Nat.min_eq_left h] at this
theorem znc(s:g9)(d:1<=a)(e:a<=ss.length)(f:ss.length<=1000):ze9 [ssL ss,.int (a:Int),.lst (s.map sD)]=some (ssL (ss.set (a-1) s)):=by
 have ll:(ss.map λs=>D.lst (s.map sD)).length=ss.length:=ae ..;have U:=zx1 (ss.map λs=>D.lst (s.map sD)) (a-1) (by lia);have V:=znb (ss.map λs=>D.lst (s.map sD)) a (by lia);have Y:((a:Int)-1)=((a-1:Nat):Int):=by lia
 have I:=z1h (ss.map λs=>D.lst (s.map sD)) (a-1) (D.lst (s.map sD)) (by lia);rw[show a-1+1=a by lia] at I;have Z:Few ((((ss.map λs=>D.lst (s.map sD)).take (a-1)).length)+(0+1)):=few (by simp only[dz];lia);have b:Few (((ss.map λs=>D.lst (s.map sD)).take (a-1)++[D.lst (s.map sD)]).length+((ss.map λs=>D.lst (s.map sD)).drop a).length):=few (by simp[dz,d5];lia);have c:ssL (ss.set (a-1) s)=.lst ((ss.map λs=>D.lst (s.map sD)).set (a-1) (D.lst (s.map sD))):=by unfold ssL;rw[i7]
 refine j4 (e':=[some (.sh (ssL ss)),some (.sh (.int (a:Int))),some (.sh (.lst (s.map sD)))]) rfl ?_;show zhh [some (.sh (ssL ss)),some (.sh (.int (a:Int))),some (.sh (.lst (s.map sD)))]=_;rw[c,<-I];unfold ssL;generalize s.map sD=M at *;simp only[zhh,sRet,fLst,fCat,fSl,fO0,fO1,il,bz,fNil,fVar,fBin,fC,dSub,Y,af,ah,ac,ao,U,V,Z,b,if_true,aw,cg,show(0+1<=64)=True by simp]
variable{B:g5}
theorem z4u{p:g9}{B:g9}(h:B=p++b)(g:Good B):¬gt (blk B) (blk b):=by
 have h1:=g.beg p ⟨b,h.symm⟩;have D:hrs B=hrs p+hrs b:=by rw[h,nn]
 have I:lss B=lss p+lss b:=by rw[h,sd]
 show ¬lss b*hrs B<lss B*hrs b;rw[D,I] at h1 ⊢;simp only[iz,ib] at h1 ⊢
 lia
def zx2(a:Nat)(D:h7)(j:Nat):ofS (D.map λb=>(a,b)) j=if a=j+1 then D else[]:=by
 unfold ofS;induction D with
 | nil=>simp
 | cons b r ih =>
   rw[bg];by_cases h:a=j+1
   ·rw[ky (by simp[h]),bg,ih,if_pos h,if_pos h]
   ·rw[kz (by simp[h]),ih,if_neg h,if_neg h]
def zsx(a:Nat)(D:h7):gm (D.map λb=>(a,b))=List.replicate D.flatten.length a:=by
 unfold gm;induction D with
 | nil=>simp
 | cons b r ih =>
   rw[bg,bg,cf,ih,cf,aj,List.replicate_append_replicate]
theorem zvk(ok:TurnsOk ss ((a,x::r)::ts))(B:∀y∈ss.flatten,gw y)(l:ss.flatten.length<=14) :
  ∃tl Z,ss[a-1]?=some (x::tl)/\1<=a/\a<=ss.length/\TurnsOk (ss.set (a-1) tl) Z/\gm Z=List.replicate r.length a++gm ts/\(Z.map (·.2)).flatten=r++(ts.map (·.2)).flatten:=by
 have lo:=ok.lo (a,x::r) (by simp);have J:=ok.good (a,x::r) (by simp);have d:=ok.sk B (a,x::r) (by simp);have m:=ok.len1 (a,x::r) (by simp);have o:=ok.left;have U:=zlw (n:=ss.length) (t:=(a,x::r)) (ts:=ts) lo.1 lo.2;rw[o] at U;obtain⟨I,V,_⟩:=zhi r (λy p=>d y (by simp[p])) (by rw[aw] at m;lia);have pos:∀b∈I,0<hrs b:=λb D=>ql b (λy p=>d y (au _ (by rw[<-V.flat];exact fo.mpr ⟨b,by simpa using D,p⟩))) (V.good b D).ne;have q:0<hrs (x::r):=ql _ d (by simp);have C:=zp2 I V.desc pos;have E:∀b∈I,¬gt (blk (x::r)) (blk b):=by
  cases I with
  | nil=>intro b D;cases D
  | cons bl rs' =>
    have v:x::r=(x::rs'.reverse.flatten)++bl:=by rw[<-V.flat];simp
    have F:=z4u v J;intro b D;rcases b7.mp D with rfl | hb'
    ·exact F
    ·exact z4m (pos b D) (pos bl (by simp)) q (λz=>t4 ((d9.mp C).1 b hb') z) F
 have i:=ok.srt;obtain⟨w,A⟩:=d9.mp i;have k:∀t∈I.reverse.map (λb=>(a,b))++ts,1<=t.1/\t.1<=ss.length:=λt f=>by
  rcases de.mp f with h | h
  ·obtain⟨b,_,rfl⟩:=cx.mp h;exact lo
  ·exact ok.lo t (by simp[h])
 have g:i4 ss.length (I.reverse.map (λb=>(a,b))++ts)=ss.set (a-1) (r++(ofS ts (a-1)).flatten):=by
  apply d6;intro j;by_cases Y:j<ss.length
  ·rw[ox Y,ir,yn,zx2]
   by_cases e:a-1=j
   ·subst e
    rw[if_pos (by lia),if_pos rfl,if_pos Y,em,V.flat]
   ·rw[if_neg (by lia),if_neg e]
    have:=ok.part j ss[j] (by simp[Y]);rw[yv _ _ _ (by simp;lia)] at this;simp[this,Y]
  ·rw[c7 (by rw[mi];lia),c7 (by rw[du];lia)]
 refine⟨r++(ofS ts (a-1)).flatten,I.reverse.map (λb=>(a,b))++ts,U,lo.1,lo.2,?_,?_,?_⟩
 ·rw[<-g]
  refine⟨λt f=>by rw[mi];exact k t f,λt f=>?_,λj s Y=>?_,?_,zig k⟩
  ·rcases de.mp f with h | h
   ·obtain⟨b,D,rfl⟩:=cx.mp h;exact V.good b (by simpa using D)
   ·exact ok.good t (by simp[h])
  ·have l:=(am.mp Y).1
   rw[mi] at l;rw[ox l] at Y;exact bh Y
  ·rw[iw]
   refine⟨?_,A,λt f u G=>?_⟩
   ·rw[n6,List.pairwise_reverse]
    exact C.imp λh=>.inl h
   ·obtain⟨b,D,rfl⟩:=cx.mp f
    have D:b∈I:=by simpa using D
    have H:0<hrs u.2:=ok.pos B u (by simp[G]);rcases w u G with z | ⟨z1,z2⟩
    ·exact .inl (z6c (n:=blk b) (c:=blk (x::r)) (b:=blk u.2) (pos b D) q H (E b D) z)
    ·exact .inr ⟨z4m (n:=blk b) (c:=blk (x::r)) (b:=blk u.2) (pos b D) q H (E b D) z1,z2⟩
 ·rw[qt,zsx,V.flat]
 ·rw[bi,em,ed]
  show((I.reverse.map λb=>b).flatten)++_=_;rw[List.map_id',V.flat]
def zfp:FS:=sIf (fOr (fTst (fBin dLt (fVar 1) (fC (.int 1)))) (fTst (fBin dGt (fVar 1) (jk 0)))) (qh "UnknownStack" (some)) (sNil)
def zd0:g7->g2->g3:=runQ 2 0 2 zfp
def zd1:g7->g2->gr:=xQ 2 0 2 zfp
def zfq:FS:=sIf (fOr (fTst (fBin dLt (fVar 0) (fC (.int 0)))) (fTst (fBin dGt (fVar 0) (fC (.int 5))))) (qh "BadCount" ((λz=>(some z).bind ((λz=>((vInt (fC (.int 5))) z).bind ((λz=>(some z).bind (some)))))))) (sNil)
def zd2:g7->g2->g3:=runQ 1 0 1 zfq
def zd3:g7->g2->gr:=xQ 1 0 1 zfq
def zfr:FS:=sIf (fOr (fTst (fBin dLt (fVar 0) (fC (.int 1)))) (fTst (fBin dGt (fVar 0) (fC (.int 60))))) (qh "BadHours" ((λz=>(some z).bind ((λz=>((vInt (fC (.int 60))) z).bind ((λz=>(some z).bind (some)))))))) (sNil)
def zd4:g7->g2->g3:=runQ 1 0 1 zfr
def zd5:g7->g2->gr:=xQ 1 0 1 zfr
def zgp:FS:=sIf (fOr (fTst (fBin dLt (fVar 0) (fC (.int 0)))) (fTst (fBin dGt (fVar 0) (fC (.int 100))))) (qh "BadLoss" ((λz=>(some z).bind ((λz=>((vInt (fC (.int 100))) z).bind (some)))))) (sNil)
def zel:g7->g2->g3:=runQ 1 0 1 zgp
def zem:g7->g2->gr:=xQ 1 0 1 zgp
def zen:FS:=sIf (fTst (fBin dGe (er zfl (bz (fVar 0) (fNil))) (fC (.int 14)))) (qh "HouseFull" ((λz=>((vInt (fC (.int 14))) z).bind ((λz=>(some z).bind (some)))))) (sNil)
def zeo:g7->g2->g3:=runQ 1 0 1 zen
def xn:g7->g2->gr:=xQ 1 0 1 zen
def zd6:FS:=sIf (fTst (fBin dGe (jk 0) (fC (.int 60)))) (qh "DeedsFull" ((λz=>((vInt (fC (.int 60))) z).bind ((λz=>(some z).bind (some)))))) (sNil)
def zd7:g7->g2->g3:=runQ 1 0 1 zd6
def xt:g7->g2->gr:=xQ 1 0 1 zd6
def zit:FS:=sRet (fBin h9 (fC (.int 1)) (er bLen (bz (fLst (ju (fiS (fVar 0)) [] (fTst (fBin dEq (fIxV 0 (fC (.int 0))) (fC (.str "put")))) (fVar 0))) (fNil))))
def zep:g2->g3:=runD 1 1 zit
def zck:FS:=sSeq (sXp (p5 zd3 [] (bz (fVar 1) (fNil))) (jo (ko zd2 [] (bz (fVar 1) (fNil))))) (sSeq (x6 0 "House" "kept" (il (fNil))) (x6 0 "House" "states" (il (bz (fTup (bz (fLst (ju (gz iR1 (bz (fVar 1) (fNil))) [] fYes (fLst (il (fNil))))) (bz (fLst (il (fNil))) (fNil)))) (fNil)))))
def za:g7->g2->g8:=runL 2 1 1 zck
def zdq:g7->g2->Option (Str×g7):=xL 2 1 1 zck
def zfs:FS:=sRet (fBin dIx (pIx (.at (.ins false "House" lz)) 0 1 (-1)) (fC (.int 0)))
def t9:g7->g2->g3:=runQ 1 1 0 zfs
def zlk:g7->g2->gr:=xQ 1 1 0 zfs
def zft:FS:=sRet (fBin dIx (pIx (.at (.ins false "House" lz)) 0 1 (-1)) (fC (.int 1)))
def zd8:g7->g2->g3:=runQ 1 1 0 zft
def zll:g7->g2->gr:=xQ 1 1 0 zft
def zgq:FS:=sSeq (jo (wt (.at (.ins false "House" lz)) 0 0 (fVar 1))) (jo (wt (.at (.ins false "House" lz)) 0 1 (fTup (bz (fVar 2) (bz (fVar 3) (fNil))))))
def yx:g7->g2->g8:=runL 4 1 3 zgq
def znd:g7->g2->Option (Str×g7):=xL 4 1 3 zgq
def zfb:FS:=sSeq (sSet 4 (fK (.ins false "House" lz) 0 (ko t9 [0] (fNil)))) (sSeq (sXp (p5 zd1 [] (bz (fVar 4) (bz (fVar 1) (fNil)))) (jo (ko zd0 [] (bz (fVar 4) (bz (fVar 1) (fNil)))))) (sSeq (sXp (p5 zd5 [] (bz (fVar 2) (fNil))) (jo (ko zd4 [] (bz (fVar 2) (fNil))))) (sSeq (sXp (p5 zem [] (bz (fVar 3) (fNil))) (jo (ko zel [] (bz (fVar 3) (fNil))))) (sSeq (sXp (p5 xn [] (bz (fVar 4) (fNil))) (jo (ko zeo [] (bz (fVar 4) (fNil))))) (sSeq (sXp (xFrz true (p5 xt [] (bz (ue (.ins false "House" lz) 0 0) (fNil)))) (jo (fFrz true (ko zd7 [] (bz (ue (.ins false "House" lz) 0 0) (fNil)))))) (sSeq (sSet 5 (fFrz true (er zep (bz (ue (.ins false "House" lz) 0 0) (fNil))))) (sSeq (sSet 6 (fLst (fCat (fLst (il (bz (fTup (bz (fVar 5) (bz (fVar 2) (bz (fVar 3) (fNil))))) (fNil)))) (fIxV 4 (fBin dSub (fVar 1) (fC (.int 1))))))) (sSeq (jo (fK (.ins false "House" lz) 0 (o5 yx [0] (bz (fTup (bz (fC (.str "put")) (bz (fVar 1) (bz (fVar 2) (bz (fVar 3) (fNil)))))) (bz (er ze9 (bz (fVar 4) (bz (fVar 1) (bz (fVar 6) (fNil))))) (bz (fK (.ins false "House" lz) 0 (ko zd8 [0] (fNil))) (fNil))))))) (sRet (fVar 5))))))))))
def xo:g7->g2->g8:=runL 7 1 3 zfb
def zhl:g7->g2->Option (Str×g7):=xL 7 1 3 zfb
def zfu:FS:=sRet (fLst (gz xq (bz (fK (.ins false "House" lz) 0 (ko t9 [0] (fNil))) (fNil))))
def y0:g7->g2->g3:=runQ 1 1 0 zfu
def zlm:g7->g2->gr:=xQ 1 1 0 zfu
def zf:FS:=sIf (fTst (fBin dLt (fBin pj (fVar 2) (er my (bz (fVar 5) (fNil)))) (fBin pj (fVar 2) (er my (bz (fVar 4) (fNil)))))) (sSet 3 (fBin h9 (fVar 3) (fBin dMul (er p9 (bz (fVar 4) (fNil))) (er p9 (bz (fVar 5) (fNil)))))) (sNil)
def zee:FS:=sFor 5 (fiS (fVar 1)) (zf)
def zfv:FS:=sSeq (sSet 3 (fC (.int 0))) (sSeq (sFor 4 (fiS (fVar 0)) (zee)) (sRet (fVar 3)))
def zfw:g2->g3:=runD 6 3 zfv
def zc:FS:=sSeq (sSet 7 (fIxV 1 (fVar 6))) (sSeq (sSet 8 (fBin dMul (er t6 (bz (fIxV 0 (fVar 4)) (bz (fIxV 0 (fVar 6)) (fNil)))) (er zfw (bz (fVar 5) (bz (fVar 7) (bz (fVar 2) (fNil))))))) (sIf (fTst (fBin dGt (fVar 8) (fC (.int 0)))) (sSeq (sSet 9 (fBin dMul (fBin dIx (fIxV 0 (fVar 4)) (fC (.int 0))) (fBin dIx (fIxV 0 (fVar 6)) (fC (.int 0))))) (jo (lp 3 (fTup (bz (fC (.str "turned")) (bz (er my (bz (fIxV 5 (fC (.int 0))) (fNil))) (bz (er my (bz (fIxV 7 (fC (.int 0))) (fNil))) (bz (fVar 8) (bz (fVar 9) (fNil)))))))))) (sNil)))
def zdj:FS:=sFor 6 (gz iR2 (bz (fBin h9 (fVar 4) (fC (.int 1))) (bz (jk 1) (fNil)))) (zc)
def zgv:FS:=sSeq (sOwn 3 (il (fNil))) (sSeq (mj [4,5] (gz (iEn 0) (bz (fVar 1) (fNil))) (zdj)) (sRet (fVar 3)))
def zef:g2->g3:=runD 10 3 zgv
def zhm:FS:=sRet (er uh (bz (fLst (rn 4 (fiS (fVar 0)) [] fYes (fTup (bz (fVar 0) (bz (fTup (bz (fVar 2) (bz (fVar 3) (fNil)))) (fNil)))))) (fNil)))
def zhn:g2->g3:=runD 1 1 zhm
def zca:FS:=sSeq (sSet 8 (er my (bz (fIxV 5 (fVar 6)) (fNil)))) (sSeq (sSet 9 (er my (bz (fIxV 5 (fBin h9 (fVar 6) (fC (.int 1)))) (fNil)))) (sSeq (sSet 10 (fBin dMul (fVar 7) (fBin dSub (fBin dIx (fBin pj (fVar 2) (fVar 9)) (fC (.int 0))) (fBin dIx (fBin pj (fVar 2) (fVar 8)) (fC (.int 1)))))) (sIf (fTst (fBin dGt (fVar 10) (fC (.int 0)))) (jo (lp 3 (fTup (bz (fC (.str "parted")) (bz (fVar 8) (bz (fVar 9) (bz (fVar 10) (bz (fIxV 4 (fC (.int 0))) (fNil))))))))) (sNil))))
def zcb:FS:=mj [6,7] (gz (iEn 0) (bz (er zei (bz (fVar 4) (bz (fVar 5) (fNil)))) (fNil))) (zca)
def zgw:FS:=sSeq (sOwn 3 (il (fNil))) (sSeq (mj [4,5] (gz iZp (bz (fVar 0) (bz (fVar 1) (fNil)))) (zcb)) (sRet (fVar 3)))
def zeg:g2->g3:=runD 11 3 zgw
def zl1:FS:=sSeq (sSet 2 (er zg8 (bz (fVar 0) (bz (fVar 1) (fNil))))) (sSeq (sSet 3 (er zej (bz (er vi (bz (fVar 0) (bz (fVar 1) (fNil)))) (fNil)))) (sSeq (sSet 4 (er tj (bz (fVar 0) (fNil)))) (sSeq (sSet 5 (er zhf (bz (fVar 0) (bz (fVar 4) (fNil))))) (sSeq (sSet 6 (fLst (ju (fiS (fVar 4)) [] fYes (er sw (bz (fVar 0) (fNil)))))) (sRet (fLst (fCat (er zef (bz (fVar 6) (bz (fVar 5) (bz (fVar 3) (fNil))))) (er zeg (bz (fVar 6) (bz (fVar 5) (bz (er zhn (bz (fVar 2) (fNil))) (fNil))))))))))))
def zjc:g2->g3:=runD 7 2 zl1
def zeh:FS:=sSeq (sSet 2 (fK (.ins false "House" lz) 0 (ko t9 [0] (fNil)))) (sSeq (sSet 3 (fBin dSub (er ze7 (bz (fVar 2) (bz (fVar 1) (fNil)))) (er zhd (bz (fVar 2) (fNil))))) (sRet (fTup (bz (fVar 3) (bz (er zfj (bz (fVar 2) (bz (fVar 1) (fNil)))) (bz (er zjc (bz (fVar 2) (bz (fVar 1) (fNil)))) (fNil)))))))
def ze:g7->g2->g3:=runQ 4 1 1 zeh
def zjt:g7->g2->gr:=xQ 4 1 1 zeh
def zk7:FS:=sRet (fBin dIx (fLst (il (bz (fC (.int 5)) (bz (fC (.int 3)) (bz (fC (.int 2)) (bz (fC (.int 4)) (bz (fC (.int 1)) (bz (fC (.int 5)) (bz (fC (.int 0)) (bz (fC (.int 4)) (bz (fC (.int 3)) (bz (fC (.int 5)) (bz (fC (.int 2)) (bz (fC (.int 4)) (fNil))))))))))))))) (fBin dMod (fVar 0) (fC (.int 12))))
def zgr:g2->g3:=runD 1 1 zk7
def tm:FS:=sSeq (uj 3 (ut (fiS (fVar 0)) [] (gz qd (bz (fVar 0) (fNil))))) (sSeq (sSet 4 (fC (.int 0))) (sSeq (sIf (fTst (fBin dGt (jk 1) (fC (.int 1)))) (sSet 4 (fBin dSub (fIxV 1 (fC (.int 1))) (fC (.int 1)))) (sNil)) (sSeq (sIf (fTst (fBin dEq (fIxV 1 (fC (.int 0))) (fC (.str "put")))) (sSeq (vn 3 (fVar 4) (oz false (fCat (fLst (il (bz (fTup (bz (fVar 2) (bz (fIxV 1 (fC (.int 2))) (bz (fIxV 1 (fC (.int 3))) (fNil))))) (fNil)))) (fIxV 3 (fVar 4))))) (sRet (fLst (il (bz (fVar 3) (bz (fVar 2) (fNil))))))) (sNil)) (sSeq (sIf (fTst (fBin dEq (fIxV 1 (fC (.int 0))) (fC (.str "tell")))) (sSeq (sSet 5 (fFrz false (fBin dIx (fIxV 3 (fVar 4)) (fBin dSub (fIxV 1 (fC (.int 2))) (fC (.int 1)))))) (sSeq (zy5 3 (fVar 4) (fBin dSub (fIxV 1 (fC (.int 2))) (fC (.int 1))) (fTup (bz (fIxV 5 (fC (.int 0))) (bz (fIxV 5 (fC (.int 1))) (bz (fIxV 1 (fC (.int 3))) (fNil)))))) (sRet (fLst (il (bz (fVar 3) (bz (fIxV 5 (fC (.int 2))) (fNil)))))))) (sNil)) (sSeq (sIf (fTst (fBin dEq (fIxV 1 (fC (.int 0))) (fC (.str "dry")))) (sSet 4 (fBin dSub (fBin dIx (fBin dIx (er ze5 (bz (fVar 0) (fNil))) (fC (.int 0))) (fC (.int 0))) (fC (.int 1)))) (sNil)) (sSeq (sSet 5 (fFrz false (fBin dIx (fIxV 3 (fVar 4)) (fC (.int 0))))) (sSeq (vn 3 (fVar 4) (oz false (fSl (fIxV 3 (fVar 4)) (fO1 (fC (.int 1))) (fO0)))) (sRet (fLst (il (bz (fVar 3) (bz (fVar 5) (fNil)))))))))))))
def yw:g2->g3:=runD 6 3 tm
inductive Deed where
 | put (a h l:Int) | tell (a p l:Int) | go (a:Int) | dry
abbrev ik:=List Deed
def dD:Deed->D
 | .put a h l=>.tup [.str "put",.int a,.int h,.int l]
 | .tell a p l=>.tup [.str "tell",.int a,.int p,.int l]
 | .go a=>.tup [.str "go",.int a]
 | .dry=>.tup [.str "dry"]
def Deed.isPut:Deed->Bool | .put ..=>true | _=>false
abbrev Spn:=Int×Int×Int
abbrev ip:=List Spn
abbrev Hs:=h7×ip
abbrev i0:=List Hs
def spL(sp:ip):D:=.lst (sp.map sD)
def stD(s:Hs):D:=.tup [ssL s.1,spL s.2]
abbrev kH:AK:=.ins false "House" lz
def hP(k:ik)(s:i0):g4:=[.o (k.map dD),.o (s.map stD)]
abbrev hA(k:ik)(s:i0):Ag:=(kH,hP k s)
variable{e:DE0}{κ:AK}{l:Option Nat}{ps:g4}
def zx3(h:e[i]?=some (some (.ag κ l ps)))(D:ps[j]?=some (.o ds)):n9 (.at κ) i j e=some ds:=by
 unfold n9 agAt;rw[if_pos (show Acc.ok (.at κ) e i j from(show isK κ e i from .inl ⟨_,_,h⟩)),h];dsimp;rw[D]
def zro(h:e[i]?=some (some (.ro κ ps)))(D:ps[j]?=some (.o ds)):n9 (.at κ) i j e=some ds:=by
 unfold n9 agAt;rw[if_pos (show Acc.ok (.at κ) e i j from(show isK κ e i from .inr ⟨_,h⟩)),h];dsimp;rw[D]
variable{f:FE}
def x0(h:e[i]?=some (some (.ag κ l ps))):fK κ i f e=f e:=if_pos (.inl ⟨_,_,h⟩)
def z4v(h:e[i]?=some (some (.ro κ ps))):fK κ i f e=f e:=if_pos (.inr ⟨_,h⟩)
variable{r:g2×DE0}{m:g7->g2->g3}{F:FA}
def zx4(h:e[i]?=some (some (.ro κ ps)))(D:F e=some r)(h2:r.2[i]?=some (some (.ro κ ps))):ko m [i] F e=(m [(κ,ps)] r.1).map λd=>(d,r.2):=by
 unfold ko;rw[if_pos (show aggs e [i] from λk I=>by rw[cj.mp I];exact⟨_,h⟩),D];simp[getR,h2]
def zrp(h:e[i]?=some (some (.ag κ l ps)))(D:F e=some r)(h2:r.2[i]?=some (some (.ag κ l ps))):ko m [i] F e=(m [(κ,ps)] r.1).map λd=>(d,r.2):=by
 unfold ko;rw[if_pos (show aggs e [i] from λk I=>by rw[cj.mp I];exact⟨_,h⟩),D];simp[getR,h2]
def zo6:ko m [] F e=(F e).bind λr=>(m [] r.1).map λd=>(d,r.2):=by
 unfold ko;rw[if_pos (show aggs e [] from λk D=>nomatch D)];rfl
def zl2{x:g7->g2->gr}:p5 x [] F e=(F e).bind λr=>(x [] r.1).map λd=>(d,r.2):=by
 unfold p5;rw[if_pos (show aggs e [] from λk I=>nomatch I)];rfl
variable{d:D}{ps':g4}
def zx5{m:g7->g2->g8}(h:e[i]?=some (some (.ag κ l ps)))(I:F e=some r)(h2:r.2[i]?=some (some (.ag κ l ps)))(U:m [(κ,ps)] r.1=some (d,[(κ,ps')])):o5 m [i] F e=some (d,r.2.set i (some (.ag κ l ps'))):=by
 unfold o5;rw[if_pos (show aggs e [i] from λk V=>by rw[cj.mp V];exact⟨_,h⟩),I];simp[getA,h2,U,putA]
theorem zvm(xs:g2)(x:D):atI (xs++[x]) (-1)=some x:=by
 unfold atI ixN;rw[if_neg (by decide),if_pos (by simp;lia),show(-1+((xs++[x]).length:Int)).toNat=xs.length by simp;lia];simp
variable{k:ik}{s:Hs}
def znf:t9 [hA k (p++[s])] []=some (ssL s.1):=by
 unfold t9 runQ;have h:n9 (.at kH) 0 1 (ml 1 [hA k (p++[s])] [])=some ((p++[s]).map stD):=zro (ps:=hP k (p++[s])) rfl rfl;simp[zfs,pIx,h,zvm,stD];rfl
def zx6:zd8 [hA k (p++[s])] []=some (spL s.2):=by
 unfold zd8 runQ;have h:n9 (.at kH) 0 1 (ml 1 [hA k (p++[s])] [])=some ((p++[s]).map stD):=zro (ps:=hP k (p++[s])) rfl rfl;simp[zft,pIx,h,zvm,stD];rfl
def hrOf(sp:ip):Int:=match sp.getLast? with | none=>0 | some x=>x.2.1
theorem zx7{a:Int}(h1:1<=a)(h2:a<=ss.length):zd1 [] [ssL ss,.int a]=none/\zd0 [] [ssL ss,.int a]=some .non:=by
 have e:ml 2 [] [ssL ss,.int a]=[some (.sh (ssL ss)),some (.sh (.int a))]:=rfl;have l:((ss.map λs=>D.lst (s.map sD)).length:Int)=ss.length:=by rw[ae]
 unfold zd1 zd0 xQ runQ;rw[if_pos ⟨rfl,rfl⟩,if_pos ⟨rfl,rfl⟩,e];unfold ssL at *;generalize (ss.map λs=>D.lst (s.map sD))=L at *;simp[zfp,show ¬a<1 by lia,show ¬((L.length:Int)<a) by lia]
variable{h:Int}
theorem zx8(h1:1<=h)(h2:h<=60):zd5 [] [.int h]=none/\zd4 [] [.int h]=some .non:=by
 unfold zd5 zd4 xQ runQ;rw[if_pos ⟨rfl,rfl⟩,if_pos ⟨rfl,rfl⟩,show ml 1 [] [.int h]=[some (.sh (.int h))] from rfl];simp[zfr,show ¬h<1 by lia,show ¬60<h by lia]
theorem z1i(h1:0<=h)(h2:h<=100):zem [] [.int h]=none/\zel [] [.int h]=some .non:=by
 unfold zem zel xQ runQ;rw[if_pos ⟨rfl,rfl⟩,if_pos ⟨rfl,rfl⟩,show ml 1 [] [.int h]=[some (.sh (.int h))] from rfl];simp[zgp,show ¬h<0 by lia,show ¬100<h by lia]
theorem zx9(h1:0<=h)(h2:h<=5):zd3 [] [.int h]=none/\zd2 [] [.int h]=some .non:=by
 unfold zd3 zd2 xQ runQ;rw[if_pos ⟨rfl,rfl⟩,if_pos ⟨rfl,rfl⟩,show ml 1 [] [.int h]=[some (.sh (.int h))] from rfl];simp[zfq,show ¬h<0 by lia,show ¬5<h by lia]
theorem z1j(ss:h7)(D:ss.length<=1000):(if ss.flatten.length<14 then xn [] [ssL ss]=none/\zeo [] [ssL ss]=some .non else xn [] [ssL ss]=some ("HouseFull" : Str)):=by
 have h:=zvj ss D;generalize ss.flatten.length=n at *;split <;> rename_i hh
 ·unfold xn zeo xQ runQ
  rw[if_pos ⟨rfl,rfl⟩,if_pos ⟨rfl,rfl⟩,show ml 1 [] [ssL ss]=[some (.sh (ssL ss))] from rfl];simp[zen,h,show ¬(14:Int)<=(n:Int) by lia]
 ·unfold xn xQ
  rw[if_pos ⟨rfl,rfl⟩,show ml 1 [] [ssL ss]=[some (.sh (ssL ss))] from rfl];simp[zen,h,show(14:Int)<=(n:Int) by lia,qh,vInt]
theorem zya(ds:g2):(if ds.length<60 then xt [] [.lst ds]=none/\zd7 [] [.lst ds]=some .non else xt [] [.lst ds]=some ("DeedsFull" : Str)):=by
 split <;> rename_i hh
 ·unfold xt zd7 xQ runQ
  rw[if_pos ⟨rfl,rfl⟩,if_pos ⟨rfl,rfl⟩,show ml 1 [] [.lst ds]=[some (.sh (.lst ds))] from rfl];simp[zd6,show ¬(60:Int)<=(ds.length:Int) by lia]
 ·unfold xt xQ
  rw[if_pos ⟨rfl,rfl⟩,show ml 1 [] [.lst ds]=[some (.sh (.lst ds))] from rfl];simp[zd6,show(60:Int)<=(ds.length:Int) by lia,qh,vInt]
def jf(k:ik):Int:=1+(k.filter Deed.isPut).length
theorem z1k(k:ik)(U:k.length<=1000):zep [.lst (k.map dD)]=some (.int (jf k)):=by
 have c:=zmm (tt:=fTst (fBin dEq (fIxV 0 (fC (.int 0))) (fC (.str "put")))) (te:=fVar 0) (base:=[]) dD dD Deed.isPut k λx _=>by
  cases x with
  | put a h l=>exact⟨_,rfl,λ_=>⟨_,rfl⟩⟩
  | tell a p l=>exact⟨_,rfl,λz=>nomatch z⟩
  | go a=>exact⟨_,rfl,λz=>nomatch z⟩
  | dry=>exact⟨_,rfl,λz=>nomatch z⟩
 have I:Few (k.map dD).length:=few (by rw[ae];lia);unfold zep runD;rw[if_pos (show[D.lst (k.map dD)].length=1 from rfl),show jw 1 [D.lst (k.map dD)]=[some (.sh (.lst (k.map dD)))] from rfl];unfold jf;generalize k.map dD=L at *;simp[zit,ju,I,c]
def fK0:fK κ 0 f (some (.ag κ l ps)::e)=f (some (.ag κ l ps)::e):=x0 rfl
def fK0r:fK κ 0 f (some (.ro κ ps)::e)=f (some (.ro κ ps)::e):=z4v rfl
variable{sl:Sl}
def cQ0:ko m [0] F (some sl::e)=(F (some sl::e)).bind λr=>(getR r.2 [0]).bind λags=>(m ags r.1).map λd=>(d,r.2):=if_pos λk D=>by rw[cj.mp D];exact⟨_,rfl⟩
def cL0{m:g7->g2->g8}:o5 m [0] F (some sl::e)=(F (some sl::e)).bind λr=>(getA r.2 [0]).bind λags=>(m ags r.1).bind λq=>if q.2.map (·.1)=ags.map (·.1) then some (q.1,putA r.2 [0] q.2) else none:=if_pos λk I=>by rw[cj.mp I];exact⟨_,rfl⟩
def z6e:getA (some (.ag κ l ps)::e) [0]=some [(κ,ps)]:=rfl
def z6f{D:AK}:putA (some (.ag κ l ps)::e) [0] [(D,ps')]=some (.ag D l ps')::e:=rfl
def z6g:getR (some (.ag κ l ps)::e) [0]=some [(κ,ps)]:=rfl
def z4w:getR (some (.ro κ ps)::e) [0]=some [(κ,ps)]:=rfl
def z6h:ue kH 0 0 (frz true (some (.ag kH l (hP k p))::e))=some (.lst (k.map dD),frz true (some (.ag kH l (hP k p))::e)):=by
 unfold ue;rw[if_pos (show isK kH (frz true (some (.ag kH l (hP k p))::e)) 0 from .inr ⟨[.d (.lst (k.map dD)),.d (.lst (p.map stD))],rfl⟩)];rfl
def zl3{r:Nat}(h:e[i]?=some (some (.ag κ (some r) ps)))(I:∀c fs,κ≠.ins true c fs)(D:ps[j]?=some (.o ds))(U:f e=some (d,e))(V:Few (ds.length+1)) :
  wt (.at κ) i j f e=some (.non,e.set i (some (.ag κ (some r) (ps.set j (.o (ds++[d])))))):=by
 unfold wt;rw[h];dsimp only;rw[if_pos (show labO κ (some r) from⟨rfl,I⟩),zx3 h D,ac,U,ac];unfold appP;rw[h];dsimp only;rw[D];dsimp only;rw[if_pos ⟨rfl,rfl,rfl,V⟩];unfold setP;rw[h]
theorem z1l{d:Deed}{sp:ip}(D:k.length<=1000)(I:p.length<=1000):yx [hA k p] [dD d,ssL ss,spL sp]=some (.non,[hA (k++[d]) (p++[(ss,sp)])]):=by
 have h1:=zl3 (e:=[some (.ag kH (some 0) (hP k p)),some (.sh (dD d)),some (.sh (ssL ss)),some (.sh (spL sp))]) (i:=0) (j:=0) (f:=fVar 1) rfl (λc fs z=>nomatch z) rfl rfl (few (by rw[ae];lia));have h2:=zl3 (e:=[some (.ag kH (some 0) ((hP k p).set 0 (.o (k.map dD++[dD d])))),some (.sh (dD d)),some (.sh (ssL ss)),some (.sh (spL sp))]) (i:=0) (j:=1) (f:=fTup (bz (fVar 2) (bz (fVar 3) fNil))) (ds:=p.map stD) rfl (λc fs z=>nomatch z) rfl rfl (few (by rw[ae];lia));unfold yx runL;rw[if_pos ⟨rfl,rfl⟩,show qi 4 [hA k p] [dD d,ssL ss,spL sp]=[some (.ag kH (some 0) (hP k p)),some (.sh (dD d)),some (.sh (ssL ss)),some (.sh (spL sp))] from rfl];simp[zgq,h1,h2];unfold hA hP;rw[bi,bi];rfl
def putX(ss:h7)(n:Nat)(a h l:Int):gr:=if a<1\/(ss.length:Int)<a then some "UnknownStack" else if h<1\/60<h then some "BadHours" else if l<0\/100<l then some "BadLoss" else if ss.flatten.length<14 then(if n<60 then none else some "DeedsFull") else some "HouseFull"
def putS(ss:h7)(a:Nat)(x:Sk):h7:=ss.set (a-1) (x::ss.getD (a-1) [])
theorem z4x{l:Int}(I:putX s.1 k.length a h l=none)(r:s.1.length<=5)(t:p.length<=100) :
  zhl [hA k (p++[s])] [.int a,.int h,.int l]=none/\xo [hA k (p++[s])] [.int a,.int h,.int l]=some (.int (jf k),[hA (k++[.put a h l]) (p++[s]++[(putS s.1 a (jf k,h,l),s.2)])]):=by
 unfold putX at I;split at I
 ·cases I
 split at I
 ·cases I
 split at I
 ·cases I
 split at I;case isFalse=>cases I
 rename_i c;split at I;case isFalse=>cases I
 rename_i e;have k1:=zx7 (ss:=s.1) (a:=a) (by lia) (by lia);have k2:=zx8 (h:=h) (by lia) (by lia);have k3:=z1i (h:=l) (by lia) (by lia);have b:=z1j s.1 (by lia);rw[if_pos c] at b;have k5:=zya (k.map dD);rw[if_pos (by rw[ae];exact e)] at k5;have f:=z1k k (by lia);have U:(a-1:Nat)<s.1.length:=by lia
 have g:atI (s.1.map λs=>D.lst (s.map sD)) ((a:Int)-1)=some (.lst ((s.1.getD (a-1) []).map sD)):=by
  rw[show(a:Int)-1=((a-1:Nat):Int) by lia,kh (λs:g9=>D.lst (s.map sD)) (ak U),aq,ak U];rfl
 have i:=znc (ss:=s.1) (a:=a) ((jf k,h,l)::s.1.getD (a-1) []) (by lia) (by lia) (by lia);have j:=z1l (k:=k) (p:=p++[s]) (d:=.put a h l) (ss:=putS s.1 a (jf k,h,l)) (sp:=s.2) (by lia) (by simp;lia);have m:=znf (k:=k) (p:=p) (s:=s);have n:=zx6 (k:=k) (p:=p) (s:=s);have o:Few (0+1+((s.1.getD (a-1) []).map sD).length):=few (by
  have:(s.1.getD (a-1) []).length<=s.1.flatten.length:=by
   rw[aq,ak U];exact(eo (f7 U)).length_le
  rw[ae];lia)
 have q:qi 7 [hA k (p++[s])] [.int a,.int h,.int l]=[some (.ag kH (some 0) (hP k (p++[s]))),some (.sh (.int a)),some (.sh (.int h)),some (.sh (.int l)),none,none,none]:=rfl;have Y:yx [(kH,hP k (p++[s]))] [.tup [.str "put",.int a,.int h,.int l],ssL (putS s.1 a (jf k,h,l)),spL s.2]=some (.non,[hA (k++[.put a h l]) (p++[s]++[(putS s.1 a (jf k,h,l),s.2)])]):=j;have Z:ze9 [ssL s.1,.int a,.lst (.tup [.int (jf k),.int h,.int l]::(s.1.getD (a-1) []).map sD)]=some (ssL (putS s.1 a (jf k,h,l))):=i;have V:zfb (qi 7 [hA k (p++[s])] [.int a,.int h,.int l])=some (.rt (.int (jf k)),[some (.ag kH (some 0) (hP (k++[.put a h l]) (p++[s]++[(putS s.1 a (jf k,h,l),s.2)]))),some (.sh (.int a)),some (.sh (.int h)),some (.sh (.int l)),some (.sh (ssL s.1)),some (.sh (.int (jf k))),some (.sh (.lst (.tup [.int (jf k),.int h,.int l]::(s.1.getD (a-1) []).map sD)))]):=by
  rw[q];generalize (s.1.getD (a-1) []).map sD=TL at *;unfold ssL at *;simp[zfb,fK0,cQ0,z6g,m,zl2,zo6,k1,k2,k3,b,xFrz,fFrz,z6h,k5,noL,f,g,o,cL0,z6e,Z,n,Y,z6f]
 exact⟨by unfold zhl xL;rw[if_pos ⟨rfl,rfl⟩,V],by unfold xo runL;rw[if_pos ⟨rfl,rfl⟩,V];rfl⟩
def newS(n:Nat):Hs:=(List.replicate n [],[])
theorem z1m(b:n<=5):zdq [(.ins true "House" [],[])] [.int n]=none/\za [(.ins true "House" [],[])] [.int n]=some (.non,[(.ins true "House" lz,hP [] [newS n])]):=by
 have k1:=zx9 (h:=n) (by lia) (by lia);have U:Few (rngD 0 n).length:=few (by rw[pd];lia);have c:=qu (te:=fLst (il fNil)) (base:=[]) (λi:Nat=>D.int (0+(i:Int))) (λ_:Nat=>D.lst []) (List.range n) λi _=>⟨_,rfl⟩;have V:=oo n (by lia);have Y:qi 2 [(AK.ins true "House" [],[])] [.int n]=[some (.ag (.ins true "House" []) (some 0) []),some (.sh (.int n))]:=rfl;have Z:(List.range n).map (λ_=>D.lst [])=(List.replicate n ([]:g9)).map λs=>D.lst (s.map sD):=by
  rw[List.map_const',gg,List.map_replicate,cy]
 have I:zck (qi 2 [(AK.ins true "House" [],[])] [.int n])=some (.nx,[some (.ag (.ins true "House" lz) (some 0) (hP [] [newS n])),some (.sh (.int n))]):=by
  rw[Y];unfold rngD at V U;rw[Z] at c;have a:(True/\(Str.ofString "kept")∉([]:c3)/\0<900):=⟨trivial,by simp,by decide⟩;simp only[zck,sSeq,sXp,zl2,zo6,bz,fVar,fNil,ah,af,ac,k1,Option.map_none,ao,jo,x6,il,cg,dy,if_true,ax,jh,fTup,fLst,ju,gz,V,U,c,cy,aw,show 0+1+1<=64 by decide,show 0+1<=64 by decide];rw[if_pos a];simp only[ac,ah,af,V,U,c,if_true,ao,aw,cg,show 0+1+1<=64 by decide,show 0+1<=64 by decide];rfl
 exact⟨by unfold zdq xL;rw[if_pos ⟨rfl,rfl⟩,I],by unfold za runL;rw[if_pos ⟨rfl,rfl⟩,I];rfl⟩
def z1n(D:n<=5)(I:F e=some ([.int n],e')):x8 "House" za F e=some ((kH,hP [] [newS n]),e'):=by
 unfold x8;rw[I,ac,(z1m D).2];rfl
def z6i(h:e[i]?=some (some (.ag kH l (hP k p)))):fK kH i (ko m [i] fNil) e=(m [hA k p] []).map λd=>(d,e):=by
 rw[x0 h];exact zrp h (r:=([],e)) rfl h
variable{m:g7->g2->g8}
def zvn(h:e[i]?=some (some (.ag κ l ps)))(D:F e=some (ds,e))(I:m [(κ,ps)] ds=some (d,[(κ,ps')])):o5 m [i] F e=some (d,e.set i (some (.ag κ l ps'))):=zx5 h (r:=(ds,e)) D h I
def frz_ow(h:e[j]?=some (some (.ow ds))):(frz false e)[j]?=some (some (.sh (.lst ds))):=by
 unfold frz;rw[az,h];rfl
def zo7(h:a-1<ss.length):(putS ss a x).flatten.Perm (x::ss.flatten):=by
 exact zir (x:=[x]) (by simp[h])
def zvo(h:a-1<ss.length):(putS ss a x).flatten.length=ss.flatten.length+1:=(zo7 h).length_eq
def zyb(h:xq [ssL s.1]=some (iD os)):y0 [hA k (p++[s])] []=some (.lst (iD os)):=by
 unfold y0 runQ;have D:(ml 1 [hA k (p++[s])] [])[0]?=some (some (.ro kH (hP k (p++[s])))):=rfl;have h1:=zx4 (m:=t9) (F:=fNil) D (r:=([],ml 1 [hA k (p++[s])] [])) rfl D;have h2:=z4v (f:=ko t9 [0] fNil) D;simp[znf] at h1;simp[zfu,h2,h1,h]
def z4y:Int->ip->Prop
 | _,[]=>True
 | b,x::r=>x.1=b/\x.1<=x.2.1/\z4y x.2.1 r
def z1o:Int->ip->Int
 | b,[]=>b
 | _,x::r=>z1o x.2.1 r
abbrev dsO(ss:h7):List g2:=ss.map λs=>s.map sD
def pz(h:e[j]?=some (some (.sh d))):(frz false e)[j]?=some (some (.sh d)):=by
 unfold frz;rw[az,h];rfl
def wf(h:e[j]?=some (some (.o2 (dsO ss)))):(frz false e)[j]?=some (some (.sh (ssL ss))):=by
 unfold frz;rw[az,h];show some (some (Sl.sh (.lst ((dsO ss).map D.lst))))=_;unfold dsO ssL;rw[ed];rfl
def zzc(r:g9):noLs (r.map sD)=true:=by
 induction r with
 | nil=>rfl
 | cons x r ih=>rw[bg];unfold noLs;rw[ih];rfl
def noLs_i(r:f5):noLs (r.map D.int)=true:=by
 induction r with
 | nil=>rfl
 | cons x r ih=>rw[bg];unfold noLs;rw[ih];rfl
def z1p(ss:h7)(n:Nat)(a m l:Int):gr:=if a<1\/(ss.length:Int)<a then some "UnknownStack" else if (ss.getD (a.toNat-1) []).length=0 then some "EmptyStack" else if m<1\/((ss.getD (a.toNat-1) []).length:Int)<m then some "UnknownPlace" else if l<0\/100<l then some "BadLoss" else if n<60 then none else some "DeedsFull"
def goX(ss:h7)(n:Nat)(a:Int):gr:=if a<1\/(ss.length:Int)<a then some "UnknownStack" else if (ss.getD (a.toNat-1) []).length=0 then some "EmptyStack" else if n<60 then none else some "DeedsFull"
def dryX(ss:h7)(n:Nat):gr:=if 0<ss.flatten.length then(if n<60 then none else some "DeedsFull") else some "NothingWaits"
theorem zvp{a:Int}(h:¬(a<1\/(ss.length:Int)<a)):ss[a.toNat-1]?=some (ss.getD (a.toNat-1) []):=by
 rw[aq,ak (by lia)];rfl
inductive Cmd where
 | d (x:Deed) | back
def cmdX(ss:h7)(n:Nat):Cmd->gr
 | .d (.put a h l)=>putX ss n a h l
 | .d (.tell a m l)=>z1p ss n a m l
 | .d (.go a)=>goX ss n a
 | .d .dry=>dryX ss n
 | .back=>if n=0 then some "NothingDone" else none
section
variable {c p q:FT} {f g:FE} {u v w:FS} {e:DE0} {i:Nat} {d:D} {x y:Str} {A B:Prop} [Decidable A] [Decidable B] {a b:Int}
end
def sne:(("put" : Str) = "back")=False/\(("put" : Str) = "dry")=False/\(("put" : Str) = "tell")=False/\(("tell" : Str) = "back")=False/\(("tell" : Str) = "dry")=False/\(("tell" : Str) = "put")=False/\(("go" : Str) = "back")=False/\(("go" : Str) = "dry")=False/\(("go" : Str) = "put")=False/\(("go" : Str) = "tell")=False/\(("dry" : Str) = "back")=False/\(("dry" : Str) = "put")=False/\(("dry" : Str) = "tell")=False:=by
 refine⟨?_,?_,?_,?_,?_,?_,?_,?_,?_,?_,?_,?_,?_⟩ <;> exact eq_false (by decide)
def at_4{x y z w:D}:atI [x,y,z,w] 0=some x/\atI [x,y,z,w] 1=some y/\atI [x,y,z,w] 2=some z/\atI [x,y,z,w] 3=some w:=⟨rfl,rfl,rfl,rfl⟩
def mask{x:D}(I:F (some (.ag kH l ps)::e)=some (ds,some (.ag kH l ps)::e))(U:m [(kH,ps)] ds=some (x,[(kH,ps')])):fK kH 0 (o5 m [0] F) (some (.ag kH l ps)::e)=some (x,some (.ag kH l ps')::e):=by
 rw[x0 (i:=0) rfl];exact zvn (i:=0) rfl I U
theorem cp_o(ss:h7)(U:ss.length<=1000)(e:DE0):ut (fiS (fVar 0)) [] (gz qd (bz (fVar 0) fNil)) (some (.sh (ssL ss))::e)=some (dsO ss,some (.sh (ssL ss))::e):=by
 have c:=zlt (te:=gz qd (bz (fVar 0) (fNil))) (base:=[]) (λs:g9=>D.lst (s.map sD)) (λs:g9=>s.map sD) ss λs _=>⟨_,by simp;rfl⟩;have I:Few (ss.map λs=>D.lst (s.map sD)).length:=few (by rw[ae];lia);unfold ssL dsO;generalize (ss.map λs=>D.lst (s.map sD))=L at *;simp[ut,I,c]
def xz(ss:h7):D.lst ((dsO ss).map D.lst)=ssL ss:=by unfold dsO ssL;rw[ed];rfl
variable{l:Int}
def at_0{x:D}{l:g2}:atI (x::l) 0=some x:=by unfold atI ixN;simp
variable{num:Int}
theorem zrq(V:1<=a)(g:a<=ss.length)(i:ss.length<=5)(j:(ss.getD (a-1) []).length<=1000):yw [ssL ss,dD (.put a h l),.int num]=some (.lst [ssL (putS ss a (num,h,l)),.int num]):=by
 have k:=λe=>cp_o ss (by lia) e;have Y:=at_4 (x:=D.str "put") (y:=.int (a:Int)) (z:=.int h) (w:=.int l);have m:((1:Int)<((0+1+1+1+1:Nat):Int))=True:=eq_true (by decide);have I:ss[a-1]?=some (ss.getD (a-1) []):=by rw[aq,ak (by lia)];rfl
 have n:ixN (dsO ss).length ((a:Int)-1)=some (a-1):=by
  rw[qm (by lia) (by unfold dsO;rw[ae];lia)];congr 1;lia
 have Z:(dsO ss).set (a-1) (((num,h,l)::ss.getD (a-1) []).map sD)=dsO (putS ss a (num,h,l)):=by unfold putS dsO;rw[i7]
 have b:=zo I V;have c:Few (0+1+((ss.getD (a-1) []).map sD).length):=few (by rw[ae];lia);have d:noLs (D.tup [.int num,.int h,.int l]::(ss.getD (a-1) []).map sD)=true:=zzc ((num,h,l)::ss.getD (a-1) []);have ct:oz false (fCat (fLst (il (bz (fTup (bz (fVar 2) (bz (fIxV 1 (fC (.int 2))) (bz (fIxV 1 (fC (.int 3))) (fNil))))) (fNil)))) (fIxV 3 (fVar 4))) [some (.sh (ssL ss)),some (.sh (dD (.put a h l))),some (.sh (.int num)),some (.o2 (dsO ss)),some (.sh (.int ((a:Int)-1))),none]=some (((num,h,l)::ss.getD (a-1) []).map sD,[some (.sh (ssL ss)),some (.sh (dD (.put a h l))),some (.sh (.int num)),some (.o2 (dsO ss)),some (.sh (.int ((a:Int)-1))),none]):=by
  have f:frz false [some (.sh (ssL ss)),some (.sh (dD (.put a h l))),some (.sh (.int num)),some (.o2 (dsO ss)),some (.sh (.int ((a:Int)-1))),none]=[some (.sh (ssL ss)),some (.sh (dD (.put a h l))),some (.sh (.int num)),some (.sh (ssL ss)),some (.sh (.int ((a:Int)-1))),none]:=by
   rw[<-xz];rfl
  unfold oz;rw[f,show((num,h,l)::ss.getD (a-1) []).map sD=D.tup [.int num,.int h,.int l]::(ss.getD (a-1) []).map sD from rfl];unfold ssL dD;generalize (ss.getD (a-1) []).map sD=TL at *;generalize (ss.map λs=>D.lst (s.map sD))=SL at *;simp[Y,b,c,d]
 rw[<-xz (putS ss a (num,h,l)),<-Z];suffices U:∃e',tm [some (.sh (ssL ss)),some (.sh (dD (.put a h l))),some (.sh (.int num)),none,none,none]=some (.rt (.lst [.lst (((dsO ss).set (a-1) (((num,h,l)::ss.getD (a-1) []).map sD)).map D.lst),.int num]),e') from let ⟨_,U⟩:=U;j4 rfl U;simp only[dD] at ct ⊢;simp only[tm,sSeq,uj,sSet,fC,jk,fIxV,ixSl,fVar,fBin,fTst,sIf,sNil,dGt,dEq,dSub,af,ah,ac,ao,ax,ay,aw,cg,decide_true,if_true,sRet,fLst,il,bz,fNil,vn,frsE,frs1,bg,cy, *];exact⟨_,rfl⟩
theorem zvr{m:Nat}{t:g9}(I:ss[a-1]?=some t)(V:t[m-1]?=some x)(Y:1<=a)(j:1<=m)(k:ss.length<=5):yw [ssL ss,dD (.tell a m l),.int num]=some (.lst [ssL (ss.set (a-1) (t.set (m-1) (x.1,x.2.1,l))),.int x.2.2]):=by
 have n:=λe=>cp_o ss (by lia) e;have sn:=sne;have Z:=at_4 (x:=D.str "tell") (y:=.int (a:Int)) (z:=.int (m:Int)) (w:=.int l);have o:atI [D.int x.1,.int x.2.1,.int x.2.2] 0=some (.int x.1)/\atI [D.int x.1,.int x.2.1,.int x.2.2] 1=some (.int x.2.1)/\atI [D.int x.1,.int x.2.1,.int x.2.2] 2=some (.int x.2.2):=⟨rfl,rfl,rfl⟩;have p:((1:Int)<((0+1+1+1+1:Nat):Int))=True:=eq_true (by decide);have b:(0+1+1<=64)=True/\(0+1+1+1<=64)=True:=⟨eq_true (by decide),eq_true (by decide)⟩;have q:=(am.mp I).1;have r:=(am.mp V).1;have s:ixN (dsO ss).length ((a:Int)-1)=some (a-1):=by
  rw[qm (by lia) (by unfold dsO;rw[ae];lia)];congr 1;lia
 have c:(dsO ss)[a-1]?=some (t.map sD):=by unfold dsO;rw[az,I];rfl
 have d:ixN (t.map sD).length ((m:Int)-1)=some (m-1):=by
  rw[qm (by lia) (by rw[ae];lia)];congr 1;lia
 have f:(dsO ss).set (a-1) ((t.map sD).set (m-1) (.tup [.int x.1,.int x.2.1,.int l]))=dsO (ss.set (a-1) (t.set (m-1) (x.1,x.2.1,l))):=by
  unfold dsO;rw[i7,i7];rfl
 have g:=zo I Y;have h:atI (t.map sD) ((m:Int)-1)=some (sD x):=by
  rw[show(m:Int)-1=((m-1:Nat):Int) by lia];exact kh sD V
 have ct:fFrz false (fBin dIx (fIxV 3 (fVar 4)) (fBin dSub (fIxV 1 (fC (.int 2))) (fC (.int 1)))) [some (.sh (ssL ss)),some (.sh (dD (.tell a m l))),some (.sh (.int num)),some (.o2 (dsO ss)),some (.sh (.int ((a:Int)-1))),none]=some (sD x,[some (.sh (ssL ss)),some (.sh (dD (.tell a m l))),some (.sh (.int num)),some (.o2 (dsO ss)),some (.sh (.int ((a:Int)-1))),none]):=by
  have i:frz false [some (.sh (ssL ss)),some (.sh (dD (.tell a m l))),some (.sh (.int num)),some (.o2 (dsO ss)),some (.sh (.int ((a:Int)-1))),none]=[some (.sh (ssL ss)),some (.sh (dD (.tell a m l))),some (.sh (.int num)),some (.sh (ssL ss)),some (.sh (.int ((a:Int)-1))),none]:=by
   rw[<-xz];rfl
  unfold fFrz;rw[i];unfold ssL dD;simp[Z,g,h];rfl
 rw[<-xz (ss.set (a-1) (t.set (m-1) (x.1,x.2.1,l))),<-f];suffices U:∃e',tm [some (.sh (ssL ss)),some (.sh (dD (.tell a m l))),some (.sh (.int num)),none,none,none]=some (.rt (.lst [.lst (((dsO ss).set (a-1) ((t.map sD).set (m-1) (.tup [.int x.1,.int x.2.1,.int l]))).map D.lst),.int x.2.2]),e') from let ⟨_,U⟩:=U;j4 rfl U;simp only[dD,sD] at ct ⊢;simp only[tm,sSeq,uj,sSet,fC,jk,fIxV,ixSl,fVar,fBin,fTst,sIf,sNil,dGt,dEq,dSub,af,ah,ac,ao,ax,ay,aw,cg,decide_true,decide_false,dc,if_false,if_true,sRet,fLst,il,bz,fNil,vn,frsE, *];simp only[zy5,fTup];simp only[fC,fIxV,ixSl,fVar,fBin,dSub,af,ah,ac,ao,ax,ay,aw,cg,if_true,bz,fNil,frsE,frs1,bg,cy, *];exact⟨_,rfl⟩
theorem zrr{tl:g9}{v1 v2:g5}(Y:ss[a-1]?=some (x::tl))(Z:1<=a)(j:ss.length<=5)(b:tl.length<=1000) :
  ∃e',(sSeq (sSet 5 (fFrz false (fBin dIx (fIxV 3 (fVar 4)) (fC (.int 0))))) (sSeq (vn 3 (fVar 4) (oz false (fSl (fIxV 3 (fVar 4)) (fO1 (fC (.int 1))) (fO0)))) (sRet (fLst (il (bz (fVar 3) (bz (fVar 5) (fNil)))))))) [some (.sh (ssL ss)),v1,v2,some (.o2 (dsO ss)),some (.sh (.int ((a:Int)-1))),none]=some (.rt (.lst [ssL (ss.set (a-1) tl),sD x]),e'):=by
 have k:=(am.mp Y).1;have c:ixN (dsO ss).length ((a:Int)-1)=some (a-1):=by
  rw[qm (by lia) (by unfold dsO;rw[ae];lia)];congr 1;lia
 have d:(dsO ss).set (a-1) (tl.map sD)=dsO (ss.set (a-1) tl):=by unfold dsO;rw[i7]
 have I:=zo Y Z;have e:atI (sD x::tl.map sD) 0=some (sD x):=at_0;have U:=znb (sD x::tl.map sD) 1 (by simp);have f:noLs (tl.map sD)=true:=zzc tl;have V:(0+1+1<=64)=True:=eq_true (by decide);have g:(frz false [some (.sh (ssL ss)),v1,v2,some (.o2 (dsO ss)),some (.sh (.int ((a:Int)-1))),none])[3]?=some (some (.sh (ssL ss)))/\(frz false [some (.sh (ssL ss)),v1,v2,some (.o2 (dsO ss)),some (.sh (.int ((a:Int)-1))),none])[4]?=some (some (.sh (.int ((a:Int)-1)))):=⟨wf rfl,pz rfl⟩;have h:(frz false [some (.sh (ssL ss)),v1,v2,some (.o2 (dsO ss)),some (.sh (.int ((a:Int)-1))),some (.sh (sD x))])[3]?=some (some (.sh (ssL ss)))/\(frz false [some (.sh (ssL ss)),v1,v2,some (.o2 (dsO ss)),some (.sh (.int ((a:Int)-1))),some (.sh (sD x))])[4]?=some (some (.sh (.int ((a:Int)-1)))):=⟨wf rfl,pz rfl⟩;have ct:fFrz false (fBin dIx (fIxV 3 (fVar 4)) (fC (.int 0))) [some (.sh (ssL ss)),v1,v2,some (.o2 (dsO ss)),some (.sh (.int ((a:Int)-1))),none]=some (sD x,[some (.sh (ssL ss)),v1,v2,some (.o2 (dsO ss)),some (.sh (.int ((a:Int)-1))),none]):=by
  unfold fFrz;unfold ssL at *;simp[g,I,e];rfl
 have i:oz false (fSl (fIxV 3 (fVar 4)) (fO1 (fC (.int 1))) (fO0)) [some (.sh (ssL ss)),v1,v2,some (.o2 (dsO ss)),some (.sh (.int ((a:Int)-1))),some (.sh (sD x))]=some (tl.map sD,[some (.sh (ssL ss)),v1,v2,some (.o2 (dsO ss)),some (.sh (.int ((a:Int)-1))),some (.sh (sD x))]):=by
  unfold oz;unfold ssL at *;rw[bg] at I;generalize tl.map sD=TL at *;generalize (ss.map λs=>D.lst (s.map sD))=SL at *;have U:cutD (sD x::TL) (some 1) none=TL:=U;simp[h,I,U,f]
 rw[<-xz (ss.set (a-1) tl),<-d];generalize tl.map sD=TL at *;generalize dsO ss=SO at *;simp only[sSeq,sSet,ct,ao,ac,ax,ay,vn,i,af,ah,frsE,frs1,bg,cy,fVar,c,sRet,fLst,il,bz,fNil,aw,cg,V,if_true];exact⟨_,rfl⟩
theorem z1q{tl:g9}(U:ss[a-1]?=some (x::tl))(V:1<=a)(Y:ss.length<=5)(I:tl.length<=1000):yw [ssL ss,dD (.go a),.int num]=some (.lst [ssL (ss.set (a-1) tl),sD x]):=by
 obtain⟨e',st⟩:=zrr (v1:=some (.sh (dD (.go a)))) (v2:=some (.sh (.int num))) U V Y I;have Z:=λe=>cp_o ss (by lia) e;have sn:=sne;have b:atI [D.str "go",.int (a:Int)] 0=some (.str "go")/\atI [D.str "go",.int (a:Int)] 1=some (.int (a:Int)):=⟨rfl,rfl⟩;have c:((1:Int)<((0+1+1:Nat):Int))=True:=eq_true (by decide);refine j4 (e':=e') rfl (?_:tm [some (.sh (ssL ss)),some (.sh (dD (.go a))),some (.sh (.int num)),none,none,none]=_);rw[<-st];simp only[dD];simp[tm,Z,b,sn]
theorem zyc{tl:g9}{u v w:D}{ts:g2}(U:ze5 [ssL ss]=some (.lst (.tup [.int (a:Int),u,v,w]::ts)))(V:ss[a-1]?=some (x::tl))(Y:1<=a)(Z:ss.length<=5)(I:tl.length<=1000):yw [ssL ss,dD .dry,.int num]=some (.lst [ssL (ss.set (a-1) tl),sD x]):=by
 obtain⟨e',st⟩:=zrr (v1:=some (.sh (dD .dry))) (v2:=some (.sh (.int num))) V Y Z I;have b:=λe=>cp_o ss (by lia) e;have sn:=sne;have c:atI [D.str "dry"] 0=some (.str "dry"):=rfl;have d:atI (.tup [.int (a:Int),u,v,w]::ts) 0=some (.tup [.int (a:Int),u,v,w]):=at_0;have f:atI [D.int (a:Int),u,v,w] 0=some (.int (a:Int)):=rfl;have g:((1:Int)<((0+1:Nat):Int))=False:=eq_false (by decide);refine j4 (e':=e') rfl (?_:tm [some (.sh (ssL ss)),some (.sh (dD .dry)),some (.sh (.int num)),none,none,none]=_);rw[<-st];simp only[dD];simp[tm,b,c,sn,U,d,f]
structure SI (n i:Nat) (s:Hs):Prop where
 len:s.1.length=n
 few:s.1.flatten.length<=14
 good:∀x∈s.1.flatten,gw x
 chain:z4y 0 s.2
 rate:∀x∈s.2,0<=x.2.2/\x.2.2<=100000
 sp:s.2.length<=i
 hour:z1o 0 s.2<=60*s.2.length
def Stp(k:ik)(s:Hs)(d:Deed)(s':Hs):Prop:=cmdX s.1 k.length (.d d)=none/\∃D,yw [ssL s.1,dD d,.int (jf k)]=some (.lst [ssL s'.1,D])/\match d with | .dry=>∃x:Sk,D=sD x/\s'.2=s.2++[(hrOf s.2,hrOf s.2+x.2.1,lss s.1.flatten)] | _=>s'.2=s.2
structure HI (n:Nat) (k:ik) (p:i0) (s:Hs):Prop where
 n5:n<=5
 k60:k.length<=60
 kp:p.length=k.length
 all:∀i t,(p++[s])[i]?=some t->SI n i t
 st0:(p++[s])[0]?=some (newS n)
 tr:∀i d t t',k[i]?=some d->(p++[s])[i]?=some t->(p++[s])[i+1]?=some t'->Stp (k.take i) t d t'
def HI.at(h:HI n k p s):SI n k.length s:=h.all k.length s (by rw[<-h.kp];simp)
def zrs{α:Type}:∀(ss:List (List α)) (i:Nat) (t t':List α),ss[i]?=some t->∃A B,ss.flatten=A++(t++B)/\(ss.set i t').flatten=A++(t'++B)
 | y::r,0,t,t',h=>by
   simp at h;subst h;exact⟨[],r.flatten,rfl,rfl⟩
 | y::r,i+1,t,t',h=>by
   obtain⟨A,B,h1,h2⟩:=zrs r i t t' (by simpa using h);exact⟨y++A,B,by simp[h1],by simp[h2]⟩
variable{d:Deed}{s':Hs}
theorem HI.push(h:HI n k p s)(Z:k.length<60)(V:SI n (k.length+1) s')(st:Stp k s d s'):HI n (k++[d]) (p++[s]) s':=by
 have Y:(p++[s]).length=k.length+1:=by simp[h.kp]
 have lt:∀i,i<=k.length->(p++[s]++[s'])[i]?=(p++[s])[i]?:=λi c=>bf (by lia);have U:(p++[s]++[s'])[k.length+1]?=some s':=by rw[<-Y,j3]
 refine⟨h.n5,by simp;lia,by simp[h.kp],λi t D=>?_,by rw[lt 0 (by lia)];exact h.st0,λi d' t t' h1 h2 I=>?_⟩
 ·by_cases c:i<=k.length
  ·exact h.all i t (lt i c ▸ D)
  ·obtain rfl:i=k.length+1:=by have:=(am.mp D).1;simp[h.kp] at this;lia
   rw[U] at D;cases D;exact V
 ·by_cases c:i<k.length
  ·rw[ia (by lia)]
   exact h.tr i d' t t' (by rwa [bf c] at h1) (by rwa [lt i (by lia)] at h2) (by rwa [lt _ c] at I)
  ·obtain rfl:i=k.length:=by have:=(am.mp h1).1;simp at this;lia
   rw[j3] at h1;rw[lt _ (bo _),<-h.kp,j3] at h2;rw[U] at I;cases h1;cases h2;cases I;rw[l9];exact st
theorem SI.swap{t t':g9}(h:SI n i s)(I:s.1[a]?=some t)(U:s.1.flatten.length+t'.length<=14+t.length)(V:∀x∈t',(∀y∈t,gw y)->gw x):SI n (i+1) (s.1.set a t',s.2):=by
 obtain⟨A,B,h1,h2⟩:=zrs s.1 a t t' I;have g:=h.good;rw[h1] at g U;refine⟨by rw[du];exact h.len,?_,?_,h.chain,h.rate,nz h.sp,h.hour⟩
 ·show(s.1.set a t').flatten.length<=14
  rw[h2];simp at *
  lia
 ·intro x D
  rw[h2,de,de] at D;rcases D with q | q | q
  ·exact g x (by simp[q])
  ·exact V x q λy Y=>g y (by simp[Y])
  ·exact g x (by simp[q])
theorem z1r(k:ik):1<=jf k/\jf k<=k.length+1:=by
 unfold jf;have:=lq Deed.isPut k
 lia
def HI.l5(hi:HI n k p s):s.1.length<=5:=by rw[hi.at.len];exact hi.n5
def HI.new(D:n<=5):HI n [] [] (newS n) :=
 ⟨D,by simp,rfl,λi t h=>by
  have e:i=0/\t=newS n:=by
   cases i with
   | zero=>simp at h;exact⟨rfl,h.symm⟩
   | succ m=>simp at h
  obtain⟨rfl,rfl⟩:=e;have z:(newS n).1.flatten=[]:=by simp[newS]
  exact⟨by simp[newS],by rw[z];simp,by rw[z];simp,trivial,λx h=>by simp[newS] at h,by simp[newS],by simp[newS,z1o]⟩,rfl,λi d t t' h=>by simp at h⟩
theorem z1s(z:Int):∃n:Nat,n<=5/\zgr [.int z]=some (.int n):=by
 have h:z % 12=0\/z % 12=1\/z % 12=2\/z % 12=3\/z % 12=4\/z % 12=5\/z % 12=6\/z % 12=7\/z % 12=8\/z % 12=9\/z % 12=10\/z % 12=11:=by lia
 have q:∀r:Int,dMod (.int z) (.int 12)=some (.int r)->∀v,dIx (.lst [.int 5,.int 3,.int 2,.int 4,.int 1,.int 5,.int 0,.int 4,.int 3,.int 5,.int 2,.int 4]) (.int r)=some v->zgr [.int z]=some v:=λr h1 v h2=>by
  refine j4 (e':=[some (.sh (.int z))]) rfl ?_;rw[show jw 1 [D.int z]=[some (.sh (.int z))] from rfl];simp only[zk7,sRet,fBin,fLst,il,bz,fNil,fC,fVar,af,ac,ao];rw[if_pos (by decide)];simp only[h1,h2,ac,ao,af]
 have m:dMod (.int z) (.int 12)=some (.int (z % 12)):=by
  simp[dMod]
 rcases h with h | h | h | h | h | h | h | h | h | h | h | h <;> rw[h] at m <;> exact⟨_,by decide,q _ m (.int ((_:Nat):Int)) rfl⟩
def z4z{y:Sk}(h:sD x=sD y):x=y:=by
 obtain⟨a,b,c⟩:=x;obtain⟨d,e,f⟩:=y;simp[sD] at h;simp[h]
def zng{x y:h7}(h:ssL x=ssL y):x=y:=by
 unfold ssL at h;exact(List.map_inj_right λa b e=>(List.map_inj_right λ_ _=>z4z).mp (D.lst.inj e)).mp (D.lst.inj h)
def flat(ts:h8):g9:=(ts.map (·.2)).flatten
def zvs(ok:TurnsOk ss ts):(flat ts).length=ss.flatten.length/\lss (flat ts)=lss ss.flatten/\∀x∈flat ts,x∈ss.flatten:=by
 have h:=ok.perm;refine⟨h.length_eq,?_,λx D=>h.mem_iff.mp D⟩;exact zo1 (λx:Sk=>x.2.2) h
def z6j(ok:TurnsOk ss ts)(D:∀y∈ss.flatten,gw y)(I:ss.flatten.length<=14)(V:ss.length<=900):tj [ssL ss]=some (.lst (ts.map tnD)):=by
 obtain⟨Y,U,h⟩:=zfo ss D I;have e:=zj2 U D I V;rw[zj2 ok D I V] at e;rw[h,e]
abbrev Ent:=Nat×Sk
def col(c:Nat)(L:List Ent):g9:=(L.filter λe=>e.1==c).map (·.2)
def non(a:Nat)(L:List Ent):g9:=(L.filter λe=>!(e.1==a)).map (·.2)
def stk(ss:h7)(c:Nat):g9:=if c=0 then[] else ss.getD (c-1) []
def chg(a:Nat)(l:Int):Nat->List Ent->List Ent
 | _,[]=>[]
 | n,e::L=>if e.1=a then(match n with | 0=>(e.1,(e.2.1,e.2.2.1,l))::L | n+1=>e::chg a l n L) else e::chg a l n L
def chgN{d:Nat}(h:d≠a)(l:Int)(x:Sk)(L:List Ent)(n:Nat):chg a l n ((d,x)::L)=(d,x)::chg a l n L:=by cases n <;> simp[chg,h]
def th1(P:Int->Int)(x:Sk)(r:g9):Int:=sumI (λy=>if P y.1<P x.1 then x.2.1*y.2.1 else 0) r
def thR(P:Int->Int)(a b:g9):Int:=sumI (λx=>th1 P x b) a
variable{A:g5}
theorem z6k(nd:(S.map (·.1)).Nodup)(Z:x∈S)(a:∀y∈b,y∈S)(c:gw x)(t:Int)(v5:g5) :
  ∃D,forL 5 zf (b.map sD) [A,B,some (.sh (plcD S)),some (.sh (.int t)),some (.sh (sD x)),v5]=some (.nx,[A,B,some (.sh (plcD S)),some (.sh (.int (t+th1 (posT S) x b))),some (.sh (sD x)),D]):=by
 obtain⟨e',h1,D,rfl⟩:=nr (i:=5) (g:=zf) sD (λp e=>∃D,e=[A,B,some (.sh (plcD S)),some (.sh (.int (t+th1 (posT S) x p))),some (.sh (sD x)),D]) b [A,B,some (.sh (plcD S)),some (.sh (.int t)),some (.sh (sD x)),v5] ⟨v5,by simp[th1,sumI]⟩ (by
  rintro p y q e d ⟨D,rfl⟩;have f:y∈S:=a y (by rw[d];simp);have U:=zy nd f;have px:=zy nd Z;have V:=qr y;have nx:=qr x;have hh:p9 [sD x]=some (.int x.2.1):=rfl;have I:p9 [sD y]=some (.int y.2.1):=rfl;have mm:dMul (.int x.2.1) (.int y.2.1)=some (.int (x.2.1*y.2.1)):=om (l3 (by unfold gw at c;lia));have j:t+th1 (posT S) x (p++[y])=t+th1 (posT S) x p+(if posT S y.1<posT S x.1 then x.2.1*y.2.1 else 0):=by unfold th1;rw[zrn,zo5,zrm];lia
  refine⟨[A,B,some (.sh (plcD S)),some (.sh (.int (t+th1 (posT S) x (p++[y])))),some (.sh (sD x)),some (.sh (sD y))],?_,_,rfl⟩;rw[j];generalize t+th1 (posT S) x p=u at *;generalize plcD S=PL at *;generalize sD x=X at *;generalize sD y=Y at *;by_cases h:posT S y.1<posT S x.1
  ·rw[if_pos h]
   simp only[zf,sIf,fTst,fBin,fVar,er,bz,fNil,V,nx,U,px,dLt,decide_eq_true h,if_true,sSet,hh,I,mm,h9,af,ah,ay,ax,ac,ao]
  ·rw[if_neg h,Int.add_zero]
   simp only[zf,sIf,fTst,fBin,fVar,er,bz,fNil,V,nx,U,px,dLt,decide_eq_false h,dc,if_false,sNil,af,ah,ay,ax,ac,ao])
 exact⟨D,h1⟩
def zk8{a:g9}(nd:(S.map (·.1)).Nodup)(Y:∀y∈a,y∈S)(Z:∀y∈b,y∈S)(c:∀y∈S,gw y):zfw [slD a,slD b,plcD S]=some (.int (thR (posT S) a b)):=by
 obtain⟨e',h1,I,D,rfl⟩:=nr (i:=4) (g:=zee) sD (λp e=>∃I D,e=[some (.sh (slD a)),some (.sh (slD b)),some (.sh (plcD S)),some (.sh (.int (thR (posT S) p b))),I,D]) a [some (.sh (slD a)),some (.sh (slD b)),some (.sh (plcD S)),some (.sh (.int 0)),none,none] ⟨none,none,rfl⟩ (by
  rintro p x q e d ⟨I,D,rfl⟩;have V:=Y x (by rw[d];simp);obtain⟨f,h2⟩:=z6k (A:=some (.sh (slD a))) (B:=some (.sh (slD b))) nd V Z (c x V) (thR (posT S) p b) D;have h:thR (posT S) (p++[x]) b=thR (posT S) p b+th1 (posT S) x b:=by unfold thR;rw[zrn,zo5,zrm,Int.add_zero]
  refine⟨[some (.sh (slD a)),some (.sh (slD b)),some (.sh (plcD S)),some (.sh (.int (thR (posT S) (p++[x]) b))),some (.sh (sD x)),f],?_,_,_,rfl⟩;rw[h];exact h2)
 refine j4 (e':=[some (.sh (slD a)),some (.sh (slD b)),some (.sh (plcD S)),some (.sh (.int (thR (posT S) a b))),I,D]) rfl ?_;show zfv [some (.sh (slD a)),some (.sh (slD b)),some (.sh (plcD S)),none,none,none]=_;have U:forL 4 zee (a.map sD) [some (.sh (.lst (a.map sD))),some (.sh (slD b)),some (.sh (plcD S)),some (.sh (.int 0)),none,none]=_:=h1;rw[show slD a=.lst (a.map sD) from rfl] at *;generalize a.map sD=AL at *;simp only[zfv,sSeq,sSet,fC,sFor,fiS,fVar,U,sRet,af,ah,ay,ax,ac,ao]
def hd(t:Tn):Int:=(t.2.headD (0,0,0)).1
def gapT(t u:Tn):Int:=lss t.2*hrs u.2-lss u.2*hrs t.2
def trow(P:Int->Int)(t u:Tn):g2:=if 0<gapT t u*thR P t.2 u.2 then[.tup [.str "turned",.int (hd t),.int (hd u),.int (gapT t u*thR P t.2 u.2),.int (hrs t.2*hrs u.2)]] else[]
def trIn(P:Int->Int)(t:Tn)(us:h8):g2:=(us.map (trow P t)).flatten
def zyd(P:Int->Int)(t u:Tn):(trow P t u).length<=1:=by unfold trow;split <;> simp
theorem znh(P:Int->Int)(t:Tn):∀us:h8,(trIn P t us).length<=us.length
 | []=>bo _
 | u::us=>by
   have:=zyd P t u;have:=znh P t us;rw[show trIn P t (u::us)=trow P t u++trIn P t us from rfl,aj,aw]
   lia
theorem zvt{a b:Int}(h1:0<=a/\a<=1400)(h2:0<=b/\b<=1400):0<=a*b/\a*b<=1960000:=by
 have:=Int.mul_nonneg h1.1 h2.1;have:=Int.mul_le_mul h1.2 h2.2 h2.1 (by decide)
 lia
def shD(t:Tn):D:=.tup [.int (hrs t.2),.int (lss t.2)]
def zvu(h:t.2≠[]):atI (t.2.map sD) 0=some (sD (t.2.headD (0,0,0))):=by
 cases e:t.2 with
 | nil=>exact absurd e h
 | cons x r=>exact at_0
theorem z6l(nd:(S.map (·.1)).Nodup)(V:∀t∈ts,∀x∈t.2,x∈S)(s:∀y∈S,gw y)(j:∀t∈ts,t.2≠[])(m:∀t∈ts,t.2.length<=14)(hl:ts.length<=14)(hi:i<ts.length)(I:g2)(ha:I.length<=300)(v6 v7 v8 v9:g5) :
  ∃c f h Z,forL 6 zc (rngD ((i:Int)+1) (ts.length-(i+1))) [some (.sh (.lst (ts.map shD))),some (.sh (.lst (ts.map λt=>slD t.2))),some (.sh (plcD S)),some (.ow I),some (.sh (.int (i:Int))),some (.sh (slD ts[i].2)),v6,v7,v8,v9] =
   some (.nx,[some (.sh (.lst (ts.map shD))),some (.sh (.lst (ts.map λt=>slD t.2))),some (.sh (plcD S)),some (.ow (I++trIn (posT S) ts[i] (ts.drop (i+1)))),some (.sh (.int (i:Int))),some (.sh (slD ts[i].2)),c,f,h,Z]):=by
 have v:∀t∈ts,0<=hrs t.2/\hrs t.2<=840/\0<=lss t.2/\lss t.2<=1400:=λt w=>by
  have:=tx t.2 λx E=>s x (V t w x E);have:=m t w
  lia
 obtain⟨e',h1,c,f,h,Z,rfl⟩:=qv (i:=6) (g:=zc) (λk e=>∃c f h Z,e=[some (.sh (.lst (ts.map shD))),some (.sh (.lst (ts.map λt=>slD t.2))),some (.sh (plcD S)),some (.ow (I++trIn (posT S) ts[i] ((ts.drop (i+1)).take k))),some (.sh (.int (i:Int))),some (.sh (slD ts[i].2)),c,f,h,Z])
  (rngD ((i:Int)+1) (ts.length-(i+1))) [some (.sh (.lst (ts.map shD))),some (.sh (.lst (ts.map λt=>slD t.2))),some (.sh (plcD S)),some (.ow I),some (.sh (.int (i:Int))),some (.sh (slD ts[i].2)),v6,v7,v8,v9] ⟨v6,v7,v8,v9,by rw[List.take_zero];simp[trIn]⟩ (by
    rintro k d e n ⟨c,f,h,Z,rfl⟩;obtain⟨rfl,F⟩:=qp n;have o:i+1+k<ts.length:=by lia
    have p:k<(ts.drop (i+1)).length:=by rw[d5];exact F
    have G:(ts.drop (i+1))[k]=ts[i+1+k]:=List.getElem_drop ..;have q:(ts.drop (i+1)).take (k+1)=(ts.drop (i+1)).take k++[ts[i+1+k]]:=by rw[jl p,G]
    have H:(i:Int)+1+(k:Int)=((i+1+k:Nat):Int):=by lia
    rw[H,q];have mt:ts[i]∈ts:=f7 hi;have r:ts[i+1+k]∈ts:=f7 o;have z:atI (ts.map shD) (i:Int)=some (shD ts[i]):=kh shD (ak hi);have A:atI (ts.map shD) ((i+1+k:Nat):Int)=some (shD ts[i+1+k]):=kh shD (ak o);have B:atI (ts.map λt=>slD t.2) ((i+1+k:Nat):Int)=some (slD ts[i+1+k].2):=kh (λt:Tn=>slD t.2) (ak o);have K:(trIn (posT S) ts[i] ((ts.drop (i+1)).take k)).length<=14:=by
     have:=znh (posT S) ts[i] ((ts.drop (i+1)).take k);rw[dz,d5] at this
     lia
    have L:trIn (posT S) ts[i] ((ts.drop (i+1)).take k++[ts[i+1+k]])=trIn (posT S) ts[i] ((ts.drop (i+1)).take k)++trow (posT S) ts[i] ts[i+1+k]:=by simp[trIn]
    rw[L,<-b9];generalize trIn (posT S) ts[i] ((ts.drop (i+1)).take k)=acc2 at *;have N:Few ((I++acc2).length+1):=few (by rw[aj];lia);generalize I++acc2=M at *;have P:=zvu (j _ mt);have h1:=zvu (j _ r);have th:=zk8 nd (V _ mt) (V _ r) s;have bt:=v _ mt;have bu:=v _ r;generalize ((i+1+k:Nat):Int)=J at *;generalize ts[i+1+k]=u at *;generalize ts[i]=t at *;have Y:t6 [shD t,shD u]=some (.int (gapT t u)):=zq8 _ _ _ _ (l3 (by lia)) (l3 (by lia));have p1:=zvt (a:=lss t.2) (b:=hrs u.2) (by lia) (by lia);have p2:=zvt (a:=lss u.2) (b:=hrs t.2) (by lia) (by lia);have C:dMul (.int (gapT t u)) (.int (thR (posT S) t.2 u.2))=some (.int (gapT t u*thR (posT S) t.2 u.2)):=om (l3 (by unfold gapT;lia));have Q:dMul (.int (hrs t.2)) (.int (hrs u.2))=some (.int (hrs t.2*hrs u.2)):=om (l3 (by lia));have R:my [sD (t.2.headD (0,0,0))]=some (.int (hd t)):=qr _;have T:my [sD (u.2.headD (0,0,0))]=some (.int (hd u)):=qr _;have W:dIx (shD t) (.int 0)=some (.int (hrs t.2)):=rfl;have X:dIx (shD u) (.int 0)=some (.int (hrs u.2)):=rfl;by_cases l:0<gapT t u*thR (posT S) t.2 u.2
    ·refine⟨[some (.sh (.lst (ts.map shD))),some (.sh (.lst (ts.map λt=>slD t.2))),some (.sh (plcD S)),some (.ow (M++[.tup [.str "turned",.int (hd t),.int (hd u),.int (gapT t u*thR (posT S) t.2 u.2),.int (hrs t.2*hrs u.2)]])),some (.sh (.int (i:Int))),some (.sh (slD t.2)),some (.sh (.int J)),some (.sh (slD u.2)),some (.sh (.int (gapT t u*thR (posT S) t.2 u.2))),some (.sh (.int (hrs t.2*hrs u.2)))],?_,_,_,_,_,by unfold trow;rw[if_pos l]⟩
     rw[show slD t.2=.lst (t.2.map sD) from rfl,show slD u.2=.lst (u.2.map sD) from rfl] at *;generalize gapT t u*thR (posT S) t.2 u.2=O at *;generalize hrs t.2*hrs u.2=U at *;generalize plcD S=PL at *;generalize t.2.map sD=TL at *;generalize u.2.map sD=UL at *;generalize ts.map shD=SHL at *;generalize (ts.map λt=>slD t.2)=BL at *;generalize shD t=st at *;generalize shD u=su at *;generalize sD (t.2.headD (0,0,0))=x at *;generalize sD (u.2.headD (0,0,0))=y at *;simp[zc,-dIx,z,A,B,Y,th,C,Q,l,W,X,P,h1,R,T,N]
    ·refine⟨[some (.sh (.lst (ts.map shD))),some (.sh (.lst (ts.map λt=>slD t.2))),some (.sh (plcD S)),some (.ow M),some (.sh (.int (i:Int))),some (.sh (slD t.2)),some (.sh (.int J)),some (.sh (slD u.2)),some (.sh (.int (gapT t u*thR (posT S) t.2 u.2))),Z],?_,_,_,_,_,by unfold trow;rw[if_neg l,cr]⟩
     rw[show slD u.2=.lst (u.2.map sD) from rfl] at *;generalize gapT t u*thR (posT S) t.2 u.2=O at *;generalize plcD S=PL at *;generalize slD t.2=TL at *;generalize u.2.map sD=UL at *;generalize ts.map shD=SHL at *;generalize (ts.map λt=>slD t.2)=BL at *;generalize shD t=st at *;generalize shD u=su at *;simp[zc,-dIx,z,A,B,Y,th,C,l])
 rw[pd,ig (by rw[d5];exact bo _)] at h1;exact⟨c,f,h,Z,h1⟩
def trUp(P:Int->Int)(ts:h8)(n:Nat):g2:=((List.range n).map λi=>trIn P (ts.getD i (0,[])) (ts.drop (i+1))).flatten
def zo8(P:Int->Int)(ts:h8)(n:Nat):trUp P ts (n+1)=trUp P ts n++trIn P (ts.getD n (0,[])) (ts.drop (n+1)):=by
 unfold trUp;rw[gf,bi,em];simp
theorem zni(P:Int->Int){ts:h8}(D:ts.length<=14):∀n,(trUp P ts n).length<=14*n
 | 0=>bo _
 | n+1=>by
   have h1:=zni P D n;have h2:=znh P (ts.getD n (0,[])) (ts.drop (n+1));rw[d5] at h2;rw[zo8,aj]
   lia
theorem zvv{ts:List α}{p q:List (α×Nat)}{x:α×Nat}(h:ts.zipIdx 0=p++x::q):∃hi:p.length<ts.length,x=(ts[p.length],p.length):=by
 have e:(ts.zipIdx 0)[p.length]?=some x:=by rw[h];simp
 rw[iy] at e;have hi:p.length<ts.length:=by
  by_cases z:p.length<ts.length
  ·exact z
  ·rw[c7 (by lia)] at e;cases e
 rw[ak hi] at e;refine⟨hi,?_⟩;simpa using(bh e).symm
theorem zjd(nd:(S.map (·.1)).Nodup)(I:∀t∈ts,∀x∈t.2,x∈S)(h:∀y∈S,gw y)(c:∀t∈ts,t.2≠[])(d:∀t∈ts,t.2.length<=14)(f:ts.length<=14) :
  zef [.lst (ts.map shD),.lst (ts.map λt=>slD t.2),plcD S]=some (.lst (trUp (posT S) ts ts.length)):=by
 obtain⟨e',h1,a,b,U,V,Y,Z,rfl⟩:=sj (ix:=[4,5]) (g:=zdj) (λx:Tn×Nat=>[D.int (x.2:Nat),slD x.1.2]) (λp e=>∃a b U V Y Z,e=[some (.sh (.lst (ts.map shD))),some (.sh (.lst (ts.map λt=>slD t.2))),some (.sh (plcD S)),some (.ow (trUp (posT S) ts p.length)),a,b,U,V,Y,Z]) (ts.zipIdx 0)
  [some (.sh (.lst (ts.map shD))),some (.sh (.lst (ts.map λt=>slD t.2))),some (.sh (plcD S)),some (.ow []),none,none,none,none,none,none] ⟨none,none,none,none,none,none,rfl⟩ (λ_ _=>rfl) (by
   rintro p x q e i ⟨a,b,U,V,Y,Z,rfl⟩;obtain⟨hi,ex⟩:=zvv i;subst ex;have j:=zni (posT S) f p.length;obtain⟨k,l,m,n,h2⟩:=z6l nd I h c d f hi (trUp (posT S) ts p.length) (by lia) U V Y Z;have o:ts.getD p.length (0,[])=ts[p.length]:=by rw[aq,ak hi];rfl
   have r:trUp (posT S) ts (p++[(ts[p.length],p.length)]).length=trUp (posT S) ts p.length++trIn (posT S) ts[p.length] (ts.drop (p.length+1)):=by rw[aj,dg,zo8,o]
   refine⟨[some (.sh (.lst (ts.map shD))),some (.sh (.lst (ts.map λt=>slD t.2))),some (.sh (plcD S)),some (.ow (trUp (posT S) ts (p++[(ts[p.length],p.length)]).length)),some (.sh (.int (p.length:Nat))),some (.sh (slD ts[p.length].2)),k,l,m,n],?_,_,_,_,_,_,_,rfl⟩;rw[r];have s:iR2 [.int ((p.length:Int)+1),.int ((ts.map λt=>slD t.2).length:Int)]=some (rngD ((p.length:Int)+1) (ts.length-(p.length+1))):=by
    rw[ae];unfold iR2;dsimp only;rw[if_pos ⟨⟨by lia,by lia⟩,⟨by lia,by lia⟩⟩];congr 2
    lia
   generalize ts[p.length]=t at *;generalize (ts.map λt=>slD t.2)=BL at *;generalize ts.map shD=SHL at *;generalize plcD S=PL at *;generalize slD t.2=TL at *;generalize trUp (posT S) ts p.length=acc at *;simp only[l4,zdj,sFor,gz,bz,fNil,fBin,fVar,jk,fC,h9,s,h2,af,ah,ay,ax,ac,ao])
 have u:(ts.zipIdx 0).length=ts.length:=by simp
 rw[u] at h1;have v:iEn 0 [.lst (ts.map λt=>slD t.2)]=some ((ts.zipIdx 0).map λx:Tn×Nat=>D.tup [D.int (x.2:Nat),slD x.1.2]):=by
  show some (mz 0 (ts.map λt=>slD t.2))=_;rw[xg]
 refine j4 (e':=[some (.sh (.lst (ts.map shD))),some (.sh (.lst (ts.map λt=>slD t.2))),some (.sh (plcD S)),some (.sh (.lst (trUp (posT S) ts ts.length))),a,b,U,V,Y,Z]) rfl ?_;rw[show jw 10 [.lst (ts.map shD),.lst (ts.map λt=>slD t.2),plcD S]=[some (.sh (.lst (ts.map shD))),some (.sh (.lst (ts.map λt=>slD t.2))),some (.sh (plcD S)),none,none,none,none,none,none,none] from rfl];generalize (ts.map λt=>slD t.2)=BL at *;generalize ts.map shD=SHL at *;generalize plcD S=PL at *;generalize ((ts.zipIdx 0).map λx:Tn×Nat=>D.tup [D.int (x.2:Nat),slD x.1.2])=EN at *;simp only[zgv,sSeq,sOwn,il,bz,fNil,cg,dy,if_true,mj,gz,fVar,v,h1,sRet,af,ah,ay,ax,ac,ao]
def beg(T:g9)(n:Int):Int:=hrs (T.takeWhile λx=>!(x.1==n))
def spnD(T:g9):D:=.dct (T.map (·.1)) (T.map λx=>D.tup [.int (beg T x.1),.int (beg T x.1+x.2.1)])
def z40{p:g9}(nd:((p++x::q).map (·.1)).Nodup):beg (p++x::q) x.1=hrs p:=by
 unfold beg;rw[bi,ke] at nd;rw[List.takeWhile_append_of_pos (λy D=>by
  have:y.1≠x.1:=nd.2.2 y.1 (List.mem_map_of_mem D) x.1 (by simp);simp[this])]
 simp
def zo9:∀(os:f0) (p q:g9),((p++q).map (·.1)).Nodup->os.length=q.length->mv (hrs p) (os.zip q)=(os.zip q).map λz=>[z.2.1,(z.1:Int),beg (p++q) z.2.1,beg (p++q) z.2.1+z.2.2.1]
 | [],p,q,_,h=>by cases q with | nil=>rfl | cons x q=>cases h
 | a::os,p,[],_,h=>by cases h
 | a::os,p,x::q,nd,h=>by
   have D:=zo9 os (p++[x]) q (by rw[b9];exact nd) (lg h);rw[b9,nn,show hrs [x]=x.2.1 by simp[hrs]] at D;rw[ie,mv,bg,D,z40 nd];rfl
theorem znj(nd:(T.map (·.1)).Nodup)(e:T.length<=100)(I:os.length=T.length):zhn [.lst ((mv 0 (os.zip T)).map iT)]=some (spnD T):=by
 have U:=zo9 os [] T nd I;rw[jh,show hrs []=0 from rfl] at U;rw[U,ed];have c:=zja (te:=fTup (bz (fVar 0) (bz (fTup (bz (fVar 2) (bz (fVar 3) (fNil)))) (fNil)))) (n:=4) (base:=[]) (λz:Nat×Sk=>[D.int z.2.1,.int (z.1:Int),.int (beg T z.2.1),.int (beg T z.2.1+z.2.2.1)]) (λz:Nat×Sk=>D.tup [.int z.2.1,.tup [.int (beg T z.2.1),.int (beg T z.2.1+z.2.2.1)]]) (os.zip T) (λ_ _=>rfl) (λz _=>⟨[some (.sh (.int z.2.1)),some (.sh (.int (z.1:Int))),some (.sh (.int (beg T z.2.1))),some (.sh (.int (beg T z.2.1+z.2.2.1)))],by
  simp[List.range,List.range.loop,l4]⟩)
 have V:(os.zip T).map (·.2)=T:=by rw[ph];rw[I];exact bo _
 have Y:(os.zip T).map (λz:Nat×Sk=>z.2.1)=T.map (·.1):=by
  rw[<-congrArg (List.map λx:Sk=>x.1) V,ed];rfl
 have a:(os.zip T).map (λz:Nat×Sk=>D.tup [.int (beg T z.2.1),.int (beg T z.2.1+z.2.2.1)])=T.map λx=>D.tup [.int (beg T x.1),.int (beg T x.1+x.2.1)]:=by
  rw[<-congrArg (List.map λx:Sk=>D.tup [.int (beg T x.1),.int (beg T x.1+x.2.1)]) V,ed];rfl
 have Z:=zoz (λz:Nat×Sk=>z.2.1) (λz:Nat×Sk=>D.tup [.int (beg T z.2.1),.int (beg T z.2.1+z.2.2.1)]) (os.zip T) (by rw[Y];exact nd);rw[Y,a] at Z;have b:Few ((os.zip T).map (iT ∘ λz=>[z.2.1,(z.1:Int),beg T z.2.1,beg T z.2.1+z.2.2.1])).length:=few (by rw[ae,qz];lia);refine j4 (e':=[some (.sh (.lst ((os.zip T).map (iT ∘ λz=>[z.2.1,(z.1:Int),beg T z.2.1,beg T z.2.1+z.2.2.1]))))]) rfl ?_;show zhm [some (.sh (.lst ((os.zip T).map (iT ∘ λz=>[z.2.1,(z.1:Int),beg T z.2.1,beg T z.2.1+z.2.2.1]))))]=_;have d:qj fYes (fTup (bz (fVar 0) (bz (fTup (bz (fVar 2) (bz (fVar 3) (fNil)))) (fNil)))) 4 [] ((os.zip T).map (iT ∘ λz=>[z.2.1,(z.1:Int),beg T z.2.1,beg T z.2.1+z.2.2.1]))=_:=c;generalize ((os.zip T).map (iT ∘ λz=>[z.2.1,(z.1:Int),beg T z.2.1,beg T z.2.1+z.2.2.1]))=L at *;simp only[zhm,sRet,er,bz,fNil,fLst,rn,fiS,fVar,af,ac,ao,b,if_true,cy,d,Z,spnD]
def zvw(nd:(T.map (·.1)).Nodup)(I:x∈T):pj (spnD T) (.int x.1)=some (.tup [.int (beg T x.1),.int (beg T x.1+x.2.1)]) :=
 zk4 (λy:Sk=>y.1) (λy:Sk=>D.tup [.int (beg T y.1),.int (beg T y.1+y.2.1)]) T nd x I
def pov(T:g9)(x y:Sk)(d:Int):Int:=d*(beg T y.1-(beg T x.1+x.2.1))
def prw(T:g9)(r:g9)(k:Nat)(d:Int):g2:=if 0<pov T (r.getD k (0,0,0)) (r.getD (k+1) (0,0,0)) d then[.tup [.str "parted",.int (r.getD k (0,0,0)).1,.int (r.getD (k+1) (0,0,0)).1,.int (pov T (r.getD k (0,0,0)) (r.getD (k+1) (0,0,0)) d),.int (hrs r)]] else[]
def prB(T:g9)(r:g9)(I:List (Int×Nat)):g2:=(I.map λz=>prw T r z.2 z.1).flatten
def me(T:g9)(ts:h8):g2:=(ts.map λt=>prB T t.2 ((debts t.2).zipIdx 0)).flatten
def z1t(T r:g9)(k:Nat)(d:Int):(prw T r k d).length<=1:=by unfold prw;split <;> simp
theorem zqb(T r:g9):∀D:List (Int×Nat),(prB T r D).length<=D.length
 | []=>bo _
 | z::D=>by
   have:=z1t T r z.2 z.1;have:=zqb T r D;rw[show prB T r (z::D)=prw T r z.2 z.1++prB T r D from rfl,aj,aw]
   lia
theorem zzd(D:∀y∈T,gw y)(U:T.length<=14)(n:Int):0<=beg T n/\beg T n<=840:=by
 have h1:=tx (T.takeWhile λx=>!(x.1==n)) λx I=>D x ((lh _).subset I);have h2:=(lh (p:=λx:Sk=>!(x.1==n)) (l:=T)).length_le;unfold beg
 lia
theorem z6m(nd:(T.map (·.1)).Nodup)(f:∀y∈T,gw y)(hT:T.length<=14)(U:∀x∈t.2,x∈T)(E:t.2≠[])(F:t.2.length<=14)(I:g2)(W:I.length<=300)(v6 v7 v8 v9 v10:g5) :
  ∃a b c d V,zcb [A,B,some (.sh (spnD T)),some (.ow I),some (.sh (shD t)),some (.sh (slD t.2)),v6,v7,v8,v9,v10]=some (.nx,[A,B,some (.sh (spnD T)),some (.ow (I++prB T t.2 ((debts t.2).zipIdx 0))),some (.sh (shD t)),some (.sh (slD t.2)),a,b,c,d,V]):=by
 have G:(debts t.2).length=t.2.length-1:=by unfold debts;rw[zk2,md]
 have Z:=zlj t.2 (λx H=>f x (U x H)) F;obtain⟨e',h1,a,b,c,d,V,rfl⟩:=sj (ix:=[6,7]) (g:=zca) (λz:Int×Nat=>[D.int (z.2:Nat),D.int z.1]) (λp e=>∃a b c d V,e=[A,B,some (.sh (spnD T)),some (.ow (I++prB T t.2 p)),some (.sh (shD t)),some (.sh (slD t.2)),a,b,c,d,V]) ((debts t.2).zipIdx 0)
  [A,B,some (.sh (spnD T)),some (.ow I),some (.sh (shD t)),some (.sh (slD t.2)),v6,v7,v8,v9,v10] ⟨v6,v7,v8,v9,v10,by simp[prB]⟩ (λ_ _=>rfl) (by
   rintro p z q e J ⟨a,b,c,d,V,rfl⟩;obtain⟨hi,K⟩:=zvv J;have L:p.length+1<t.2.length:=by lia
   have i:z.2=p.length:=by rw[K]
   have N:=zqb T t.2 p;have P:Few ((I++prB T t.2 p).length+1):=few (by rw[aj];lia);have Q:prB T t.2 (p++[z])=prB T t.2 p++prw T t.2 z.2 z.1:=by simp[prB]
   rw[Q,<-b9];rw[i];generalize prB T t.2 p=acc2 at *;generalize I++acc2=M at *;obtain⟨x,ex⟩:∃x,x=t.2.getD p.length (0,0,0):=⟨_,rfl⟩;obtain⟨y,ey⟩:∃y,y=t.2.getD (p.length+1) (0,0,0):=⟨_,rfl⟩;have j:t.2[p.length]?=some x:=by rw[ex,aq,ak (by lia)];rfl
   have m:t.2[p.length+1]?=some y:=by rw[ey,aq,ak L];rfl
   have n:atI (t.2.map sD) (p.length:Int)=some (sD x):=kh sD j;have o:atI (t.2.map sD) ((p.length:Int)+1)=some (sD y):=kh (k:=p.length+1) sD m;have r:=zvw nd (U x (bc j));have s:=zvw nd (U y (bc m));have bx:=zzd f hT x.1;have bY:=zzd f hT y.1;have l:=f x (U x (bc j));unfold gw at l;have u:=qr x;have v:=qr y;have mm:dMul (.int z.1) (.int (beg T y.1-(beg T x.1+x.2.1)))=some (.int (pov T x y z.1)):=zq1 (l3 (by lia));have w:dIx (.tup [.int (beg T y.1),.int (beg T y.1+y.2.1)]) (.int 0)=some (.int (beg T y.1)):=rfl;have C:dIx (.tup [.int (beg T x.1),.int (beg T x.1+x.2.1)]) (.int 1)=some (.int (beg T x.1+x.2.1)):=rfl;have R:dIx (shD t) (.int 0)=some (.int (hrs t.2)):=rfl;unfold prw;rw[<-ex,<-ey];by_cases h:0<pov T x y z.1
   ·rw[if_pos h]
    refine⟨[A,B,some (.sh (spnD T)),some (.ow (M++[.tup [.str "parted",.int x.1,.int y.1,.int (pov T x y z.1),.int (hrs t.2)]])),some (.sh (shD t)),some (.sh (slD t.2)),some (.sh (.int (p.length:Nat))),some (.sh (.int z.1)),some (.sh (.int x.1)),some (.sh (.int y.1)),some (.sh (.int (pov T x y z.1)))],?_,_,_,_,_,_,rfl⟩;rw[show slD t.2=.lst (t.2.map sD) from rfl] at *;obtain⟨ST,eST,i3⟩:∃ST,shD t=.tup ST/\atI ST 0=some (.int (hrs t.2)):=⟨_,rfl,rfl⟩;rw[eST] at *;generalize pov T x y z.1=O at *;generalize spnD T=SP at *;generalize t.2.map sD=TL at *;generalize sD x=X at *;generalize sD y=Y at *;simp[zca,l4,i,-dIx,n,o,u,v,r,s,w,C,R,i3,mm,h,P]
   ·rw[if_neg h,cr]
    refine⟨[A,B,some (.sh (spnD T)),some (.ow M),some (.sh (shD t)),some (.sh (slD t.2)),some (.sh (.int (p.length:Nat))),some (.sh (.int z.1)),some (.sh (.int x.1)),some (.sh (.int y.1)),some (.sh (.int (pov T x y z.1)))],?_,_,_,_,_,_,rfl⟩;rw[show slD t.2=.lst (t.2.map sD) from rfl] at *;generalize pov T x y z.1=O at *;generalize spnD T=SP at *;generalize shD t=ST at *;generalize t.2.map sD=TL at *;generalize sD x=X at *;generalize sD y=Y at *;simp[zca,l4,i,-dIx,n,o,u,v,r,s,w,C,mm,h])
 refine⟨a,b,c,d,V,?_⟩;have S:iEn 0 [.lst ((debts t.2).map D.int)]=some (((debts t.2).zipIdx 0).map λz:Int×Nat=>D.tup [D.int (z.2:Nat),D.int z.1]):=by
  show some (mz 0 ((debts t.2).map D.int))=_;rw[xg]
 generalize (debts t.2).map D.int=DB at *;generalize (((debts t.2).zipIdx 0).map λz:Int×Nat=>D.tup [D.int (z.2:Nat),D.int z.1])=EN at *;have Z:zei [shD t,slD t.2]=some (.lst DB):=Z;simp only[zcb,mj,gz,bz,fNil,er,fVar,Z,S,h1,af,ah,ac,ao]
theorem zk9(T:g9):∀ts:h8,(me T ts).length<=(flat ts).length
 | []=>bo _
 | t::ts=>by
   have h1:=zk9 T ts;have h2:=zqb T t.2 ((debts t.2).zipIdx 0);have D:(debts t.2).length=t.2.length-1:=by unfold debts;rw[zk2,md]
   rw[List.length_zipIdx] at h2;rw[show me T (t::ts)=prB T t.2 ((debts t.2).zipIdx 0)++me T ts from rfl,show flat (t::ts)=t.2++flat ts from rfl,aj,aj]
   lia
theorem zje(nd:(T.map (·.1)).Nodup)(n:∀y∈T,gw y)(hT:T.length<=14)(U:∀t∈ts,∀x∈t.2,x∈T)(V:∀t∈ts,t.2≠[])(Y:∀t∈ts,t.2.length<=14)(l:(flat ts).length<=14) :
  zeg [.lst (ts.map shD),.lst (ts.map λt=>slD t.2),spnD T]=some (.lst (me T ts)):=by
 obtain⟨e',h1,f,h,a,b,c,d,I,rfl⟩:=sj (ix:=[4,5]) (g:=zcb) (λt:Tn=>[shD t,slD t.2]) (λp e=>∃f h a b c d I,e=[some (.sh (.lst (ts.map shD))),some (.sh (.lst (ts.map λt=>slD t.2))),some (.sh (spnD T)),some (.ow (me T p)),f,h,a,b,c,d,I]) ts
  [some (.sh (.lst (ts.map shD))),some (.sh (.lst (ts.map λt=>slD t.2))),some (.sh (spnD T)),some (.ow []),none,none,none,none,none,none,none] ⟨none,none,none,none,none,none,none,rfl⟩ (λ_ _=>rfl) (by
   rintro p t q e m ⟨f,h,a,b,c,d,I,rfl⟩;have i:t∈ts:=by rw[m];simp
   have z:(me T p).length<=14:=by
    have:=zk9 T p;have j:flat ts=flat p++flat (t::q):=by rw[m];simp[flat]
    rw[j,aj] at l
    lia
   obtain⟨o,r,s,u,k,h2⟩:=z6m (A:=some (.sh (.lst (ts.map shD)))) (B:=some (.sh (.lst (ts.map λt=>slD t.2)))) nd n hT (U t i) (V t i) (Y t i) (me T p) (by lia) a b c d I;have j:me T (p++[t])=me T p++prB T t.2 ((debts t.2).zipIdx 0):=by simp[me]
   refine⟨[some (.sh (.lst (ts.map shD))),some (.sh (.lst (ts.map λt=>slD t.2))),some (.sh (spnD T)),some (.ow (me T (p++[t]))),some (.sh (shD t)),some (.sh (slD t.2)),o,r,s,u,k],?_,_,_,_,_,_,_,_,rfl⟩;rw[j];exact h2)
 have v:ts.zip ts=ts.map λt=>(t,t):=by
  clear h1 U V Y l;induction ts with
  | nil=>rfl
  | cons t ts ih=>rw[ie,ih];rfl
 have w:iZp [.lst (ts.map shD),.lst (ts.map λt=>slD t.2)]=some (ts.map λt=>D.tup [shD t,slD t.2]):=by
  show some (zipD (ts.map shD) (ts.map λt=>slD t.2))=_;rw[zmy,v,ed];rfl
 refine j4 (e':=[some (.sh (.lst (ts.map shD))),some (.sh (.lst (ts.map λt=>slD t.2))),some (.sh (spnD T)),some (.sh (.lst (me T ts))),f,h,a,b,c,d,I]) rfl ?_;rw[show jw 11 [.lst (ts.map shD),.lst (ts.map λt=>slD t.2),spnD T]=[some (.sh (.lst (ts.map shD))),some (.sh (.lst (ts.map λt=>slD t.2))),some (.sh (spnD T)),none,none,none,none,none,none,none,none] from rfl];generalize (ts.map λt=>D.tup [shD t,slD t.2])=Z at *;generalize (ts.map λt=>slD t.2)=BL at *;generalize ts.map shD=SHL at *;generalize spnD T=PL at *;simp only[zgw,sSeq,sOwn,il,bz,fNil,cg,dy,if_true,mj,gz,fVar,w,h1,sRet,af,ah,ay,ax,ac,ao]
theorem zqc(ok:TurnsOk ss ts)(d:tj [ssL ss]=some (.lst (ts.map tnD)))(I:Whole ss os)(f:∀x∈ss.flatten,gw x)(nd:(ss.flatten.map (·.1)).Nodup)(r:ss.length<=900)(b:ss.flatten.length<=14) :
  zjc [ssL ss,.lst (iD os)]=some (.lst (trUp (posT (tk ss os)) ts ts.length++me (tk ss os) ts)):=by
 have e:os.length<=14:=by rw[I.len];exact b
 have g:=zm3 I (by lia) (by lia);have h:=y7 I (by lia) (by lia);have tl:(tk ss os).length<=14:=by rw[um];exact e
 have tn:=z1d I nd;have i:=zh5 (tk ss os) tn (by lia);have j:=zm5 ok (by lia) b;have D:∀t∈ts,∀x∈t.2,x∈tk ss os:=λt U x k=>(ym I).mem_iff.mpr (ok.perm.mem_iff.mp (fo.mpr ⟨t.2,cx.mpr ⟨t,U,rfl⟩,k⟩));have V:∀y∈tk ss os,gw y:=λy l=>f y (I.sk y l);have Y:∀t∈ts,t.2≠[]:=λt U=>(ok.good t U).ne;have Z:∀t∈ts,t.2.length<=14:=λt U=>b8 (ok.len1 t U) b;have fp:=zvs ok;have a:ts.length<=14:=by have:=ok.len;lia
 have m:=zjd tn D V Y Z a;have n:=znj (T:=tk ss os) (os:=os) tn (by lia) (by rw[um]);have o:=zje tn V tl D Y Z (by rw[fp.1];exact b);have c:=qu (te:=er sw (bz (fVar 0) fNil)) (base:=[]) tnD shD ts λt _=>⟨_,by simp[zoq];exact⟨rfl,rfl⟩⟩;have p:Few (ts.map tnD).length:=few (by rw[ae];lia);have s:=zni (posT (tk ss os)) a ts.length;have u:=zk9 (tk ss os) ts;have q:Few ((trUp (posT (tk ss os)) ts ts.length).length+(me (tk ss os) ts).length):=few (by lia);refine zw9 rfl ?_;rw[show jw 7 [ssL ss,.lst (iD os)]=[some (.sh (ssL ss)),some (.sh (.lst (iD os))),none,none,none,none,none] from rfl];generalize trUp (posT (tk ss os)) ts ts.length=TR at *;generalize me (tk ss os) ts=PA at *;generalize (mv 0 (os.zip (tk ss os))).map iT=PR at *;generalize plcD (tk ss os)=PC at *;generalize spnD (tk ss os)=SPN at *;generalize (tk ss os).map sD=TK at *;generalize ts.map tnD=TN at *;generalize ts.map shD=SHL at *;generalize (ts.map λt=>slD t.2)=BL at *;generalize iD os=OL at *;generalize ssL ss=SS at *;simp only[zl1,sSeq,sSet,er,bz,fNil,fVar,g,h,i,d,j,fLst,ju,fiS,p,if_true,cy,c,sRet,fCat,m,n,o,q,af,ah,ay,ax,ac,ao];exact⟨_,rfl⟩
theorem zvx(Y:SI n i s)(q:n<=5)(st:Stp k s d s') :
  (∃(a:Nat) (h l:Int),d.isPut=true/\1<=a/\a<=s.1.length/\s'.1=putS s.1 a (jf k,h,l))\/(d.isPut=false/\∃(b:Nat) (r p:g9),s.1[b-1]?=some r/\s'.1=s.1.set (b-1) p/\(p.map (·.1)).Sublist (r.map (·.1))):=by
 have l5:s.1.length<=5:=by rw[Y.len];exact q
 have e:∀y∈s.1,y.length<=14:=λy f=>b8 (eo f).length_le Y.few;obtain⟨D,U,st,_⟩:=st;cases d with
 | dry =>
   right;refine⟨rfl,?_⟩;obtain⟨ts,ok,_⟩:=zfo s.1 Y.good Y.few;have A:0<s.1.flatten.length:=by
    replace D:dryX s.1 k.length=none:=D;unfold dryX at D;split at D
    ·assumption
    ·cases D
   have tn:=zj2 ok Y.good Y.few (by lia);cases ts with
   | nil =>
     have:=ok.perm.length_eq;simp only[cy,List.flatten_nil,cg] at this
     lia
   | cons t ts =>
     obtain⟨a,b⟩:=t;have u:=(ok.good (a,b) (by simp)).ne;cases b with
     | nil=>exact absurd rfl u
     | cons x r =>
       obtain⟨tl,v,o,w,B,C,E,F⟩:=zvk ok Y.good Y.few;have g:=e _ (bc o);have g:tl.length+1<=14:=by simpa using g
       have sp:=zyc (num:=jf k) tn o w l5 (by lia);rw[st] at sp;obtain⟨e1,_⟩:ssL s'.1=ssL (s.1.set (a-1) tl)/\U=sD x:=by simpa using sp
       exact⟨a,x::tl,tl,o,zng e1,by rw[bg];exact List.sublist_cons_self _ _⟩
 | put a h l =>
   left;replace D:putX s.1 k.length a h l=none:=D;unfold putX at D;split at D
   ·cases D
   ·rename_i c
    obtain⟨I,rfl⟩:∃I:Nat,a=(I:Int):=⟨a.toNat,by lia⟩;have sp:=zrq (num:=jf k) (ss:=s.1) (a:=I) (h:=h) (l:=l) (by lia) (by lia) l5 (by
     rw[aq,ak (by lia)];have:=e _ (f7 (show I-1<s.1.length by lia));exact b8 this (by lia))
    rw[st] at sp;obtain⟨e1,_⟩:ssL s'.1=ssL (putS s.1 I (jf k,h,l))/\U=.int (jf k):=by simpa using sp
    exact⟨I,h,l,rfl,by lia,by lia,zng e1⟩
 | go a =>
   right;refine⟨rfl,?_⟩;replace D:goX s.1 k.length a=none:=D;unfold goX at D;split at D
   ·cases D
   ·rename_i c
    split at D
    ·cases D
    ·rename_i j
     obtain⟨I,rfl⟩:∃I:Nat,a=(I:Int):=⟨a.toNat,by lia⟩;have V:=zvp c;rw[fy] at V j;obtain⟨x,tl,et⟩:∃x tl,s.1.getD (I-1) []=x::tl:=by
      cases h:s.1.getD (I-1) [] with
      | nil=>rw[h] at j;exact absurd rfl j
      | cons x tl=>exact⟨x,tl,rfl⟩
     rw[et] at V;have g:=e _ (bc V);have g:tl.length+1<=14:=by simpa using g
     have sp:=z1q (num:=jf k) V (by lia) l5 (by lia);rw[st] at sp;obtain⟨e1,_⟩:ssL s'.1=ssL (s.1.set (I-1) tl)/\U=sD x:=by simpa using sp
     exact⟨I,x::tl,tl,V,zng e1,by rw[bg];exact List.sublist_cons_self _ _⟩
 | tell a m l =>
   right;refine⟨rfl,?_⟩;replace D:z1p s.1 k.length a m l=none:=D;unfold z1p at D;split at D
   ·cases D
   ·rename_i c
    split at D
    ·cases D
    ·rename_i j
     split at D
     ·cases D
     ·rename_i z
      obtain⟨I,rfl⟩:∃I:Nat,a=(I:Int):=⟨a.toNat,by lia⟩;have V:=zvp c;rw[fy] at V j z;obtain⟨Z,rfl⟩:∃Z:Nat,m=(Z:Int):=⟨m.toNat,by lia⟩;generalize s.1.getD (I-1) []=t at *;have f:t[Z-1]?=some (t.getD (Z-1) (0,0,0)):=by rw[aq,ak (by lia)];rfl
      generalize t.getD (Z-1) (0,0,0)=y at *;have sp:=zvr (num:=jf k) (l:=l) V f (by lia) (by lia) l5;rw[st] at sp;obtain⟨e1,_⟩:ssL s'.1=ssL (s.1.set (I-1) (t.set (Z-1) (y.1,y.2.1,l)))/\U=.int y.2.2:=by simpa using sp
      refine⟨I,t,_,V,zng e1,?_⟩;have:(t.set (Z-1) (y.1,y.2.1,l)).map (·.1)=t.map (·.1):=by
       rw[i7,show y.1=(t.map (·.1))[Z-1]'(by rw[ae];exact(am.mp f).1) by rw[kt,(am.mp f).2]];exact List.set_getElem_self _
      rw[this];exact kf _
def z1u{r D:g9}(h:ss[i]?=some r)(I:(D.map (·.1)).Sublist (r.map (·.1))):((ss.set i D).flatten.map (·.1)).Sublist (ss.flatten.map (·.1)):=by
 induction ss generalizing i with
 | nil=>cases h
 | cons a ss ih =>
   cases i with
   | zero =>
     cases h;rw[ax,cf,cf,bi,bi];exact I.append (kf _)
   | succ i =>
     rw[ay,cf,cf,bi,bi];exact(kf _).append (ih h)
theorem zvy(k:ik)(d:Deed):jf (k++[d])=jf k+(if d.isPut=true then 1 else 0):=by
 unfold jf;rw[f9,aj];cases h:d.isPut with
 | true=>simp[h];lia
 | false=>simp[h]
theorem HI.nd_all{n:Nat}{k:ik}{p:i0}{s:Hs}(hi:HI n k p s):∀(i:Nat) (t:Hs),(p++[s])[i]?=some t->(t.1.flatten.map (·.1)).Nodup/\∀x∈t.1.flatten,x.1<jf (k.take i)
 | 0,t,h=>by
   rw[hi.st0] at h;cases h;have:(newS n).1.flatten=[]:=by simp[newS]
   rw[this];exact⟨List.nodup_nil,λx D=>by cases D⟩
 | i+1,t',h=>by
   have g:=(am.mp h).1;rw[aj,dg,hi.kp] at g;have Y:i<k.length:=by lia
   have j:i<(p++[s]).length:=by rw[aj,dg,hi.kp];lia
   have I:(p++[s])[i]?=some (p++[s])[i]:=ak _;have hd:k[i]?=some k[i]:=ak Y;have st:=hi.tr i _ _ _ hd I h;obtain⟨Z,U⟩:=HI.nd_all hi i _ I;have m:=zvx (hi.all i _ I) hi.n5 st;have o:k.take (i+1)=k.take i++[k[i]]:=jl Y;generalize (p++[s])[i]=t at *;rw[o,zvy];generalize k[i]=d at *;rcases m with⟨a,hh,l,V,v,w,e⟩ | ⟨V,b,r,r',hr,e,sub⟩
   ·rw[V,if_pos rfl,e]
    have c:=zo7 (ss:=t.1) (a:=a) (x:=(jf (k.take i),hh,l)) (by lia);refine⟨(c.map (·.1)).nodup_iff.mpr ?_,λx D=>?_⟩
    ·rw[bg,cq]
     refine⟨λq=>?_,Z⟩;obtain⟨x,D,ex⟩:=cx.mp q;have:=U x D;dsimp only at ex
     lia
    ·rcases b7.mp (c.mem_iff.mp D) with z | z
     ·rw[z];dsimp only;lia
     ·have:=U x z;lia
   ·rw[V,if_neg (by decide),e,Int.add_zero]
    have f:=z1u hr sub;refine⟨Z.sublist f,λx D=>?_⟩;have:x.1∈t.1.flatten.map (·.1):=f.subset (cx.mpr ⟨x,D,rfl⟩);obtain⟨y,u,A⟩:=cx.mp this;have:=U y u
    lia
def HI.nd(hi:HI n k p s):(s.1.flatten.map (·.1)).Nodup:=(hi.nd_all k.length s (by rw[<-hi.kp];simp)).1
def HI.stk(hi:HI n k p s):Stk 14 s.1:=⟨hi.l5,hi.at.few,hi.at.good,hi.nd⟩
theorem zsy(hi:HI n k p s)(ok:TurnsOk s.1 ts)(V:Whole s.1 os) :
  ze [hA k (p++[s])] [.lst (iD os)]=some (.tup [.int (jx 0 (tk s.1 os)-jx 0 (flat ts)),.lst ((tpN (posT (tk s.1 os)) (flat ts) (flat ts).length).map iT),.lst (trUp (posT (tk s.1 os)) ts ts.length++me (tk s.1 os) ts)]):=by
 have U:=hi.at;have l5:=hi.l5;have Y:=U.few;have I:=z6j ok U.good Y (by lia);have b:os.length<=14:=by rw[V.len];exact Y
 have c:=zis V U.good (by lia) (by lia);have Z:=zm4 ok I U.good (by lia) Y;have a:=zk5 ok I V hi.stk;rw[zvi ok,show(ts.map (·.2)).flatten=flat ts from rfl] at Z a;have d:=zqc ok I V U.good hi.nd (by lia) Y;unfold ze runQ;rw[if_pos ⟨rfl,rfl⟩,show ml 4 [hA k (p++[s])] [.lst (iD os)]=[some (.ro kH (hP k (p++[s]))),some (.sh (.lst (iD os))),none,none] from rfl];have e:([D.int (jx 0 (tk s.1 os)-jx 0 (flat ts)),.lst ((tpN (posT (tk s.1 os)) (flat ts) (flat ts).length).map iT),.lst (trUp (posT (tk s.1 os)) ts ts.length++me (tk s.1 os) ts)]:g2).length<=64:=Nat.le_of_ble_eq_true rfl;have f:=znf (k:=k) (p:=p) (s:=s);generalize (tpN (posT (tk s.1 os)) (flat ts) (flat ts).length).map iT=TP at *;generalize trUp (posT (tk s.1 os)) ts ts.length++me (tk s.1 os) ts=WM at *;generalize jx 0 (tk s.1 os)=c1 at *;generalize jx 0 (flat ts)=c2 at *;generalize iD os=OL at *;generalize ssL s.1=SS at *;simp[zeh,fK0r,cQ0,z4w,f,c,Z,a,d,dSub]
abbrev Rn:=Bool×Int×Int×Int×Int
inductive Adds (N:Int):List Rn->Int->Prop
 | nil:Adds N [] 0
 | cons {r:Rn} {l:List Rn} {v V:Int}:N*r.2.2.2.1=v*r.2.2.2.2->Adds N l V->Adds N (r::l) (v+V)
end LB
namespace SQ
open PySem L2 LB
def znk:FS:=sSeq (sSet 7 (fIxV 1 (fBin h9 (fC (.int 1)) (fVar 6)))) (sSeq (sSet 8 (fBin h9 (fC (.int 1)) (fBin dMod (fBin dDiv (fVar 7) (fC (.int 8))) (fC (.int 60))))) (sSeq (sSet 9 (fBin dMod (fBin dDiv (fVar 7) (fC (.int 480))) (fC (.int 101)))) (sSeq (sIf (fTst (fBin dEq (fBin dMod (fBin dDiv (fIxV 1 (fC (.int 0))) (fC (.int 12))) (fC (.int 3))) (fC (.int 1)))) (sSeq (sSet 8 (fBin h9 (fC (.int 1)) (fBin dMod (fBin dDiv (fVar 7) (fC (.int 8))) (fC (.int 3))))) (sSet 9 (fBin dMod (fBin dDiv (fVar 7) (fC (.int 480))) (fC (.int 4))))) (sNil)) (sIf (fTst (fBin dNe (fBin dMod (fVar 7) (fC (.int 8))) (fC (.int 5)))) (sSeq (sSet 5 (fBin h9 (fVar 5) (fC (.int 1)))) (sSeq (sIf (fTst (fBin dNe (fK (.ins false "House" lz) 3 (o5 xo [3] (bz (fBin h9 (fVar 6) (fC (.int 1))) (bz (fVar 8) (bz (fVar 9) (fNil)))))) (fVar 5))) (sRet (fC (.bl false))) (sNil)) (jo (wz 4 (fVar 6) (fTup (bz (fVar 5) (bz (fVar 8) (bz (fVar 9) (fNil))))))))) (sNil)))))
def u4:FS:=sSeq (sSet 14 (fFrz false (fBin dIx (fIxV 4 (fBin dSub (fIxV 10 (fVar 6)) (fC (.int 1)))) (fC (.int 0))))) (sSeq (sSet 15 (fFrz false (fBin dIx (fIxV 4 (fBin dSub (fVar 13) (fC (.int 1)))) (fC (.int 0))))) (sIf (fTst (fBin dLt (fBin tz (fVar 11) (fVar 13)) (fBin tz (fVar 11) (fIxV 10 (fVar 6))))) (jo (lp 12 (fTup (bz (fIxV 14 (fC (.int 0))) (bz (fIxV 15 (fC (.int 0))) (bz (fBin dSub (fBin dMul (fIxV 14 (fC (.int 2))) (fIxV 15 (fC (.int 1)))) (fBin dMul (fIxV 15 (fC (.int 2))) (fIxV 14 (fC (.int 1))))) (fNil))))))) (sNil)))
def yh:FS:=sFor 13 (fiS (fLst (fSl (fVar 10) (fO1 (fBin h9 (fVar 6) (fC (.int 1)))) (fO0)))) (u4)
def z41:FS:=sSeq (sSet 1 (er yz (bz (fVar 0) (bz (fC (.int 8)) (fNil))))) (sSeq (sSet 2 (er zgr (bz (fIxV 1 (fC (.int 0))) (fNil)))) (sSeq (zm 3 (x8 "House" za (bz (fVar 2) (fNil)))) (sSeq (uj 4 (ut (gz iR1 (bz (fVar 2) (fNil))) [] (il (fNil)))) (sSeq (sSet 5 (fC (.int 0))) (sSeq (sFor 6 (gz iR1 (bz (fVar 2) (fNil))) (znk)) (sSeq (sSet 10 (fK (.ins false "House" lz) 3 (ko y0 [3] (fNil)))) (sSeq (sIf (fNot (fTst (fFrz false (er zdf (bz (fVar 10) (bz (fVar 4) (fNil))))))) (sRet (fC (.bl false))) (sNil)) (sSeq (sSet 11 (fLst (oz false (gz ze6 (bz (fVar 4) (bz (fBin h9 (fBin dMul (fIxV 1 (fC (.int 6))) (fC (.int 2147483647))) (fIxV 1 (fC (.int 7)))) (fNil))))))) (sSeq (sOwn 12 (il (fNil))) (sSeq (sFor 6 (gz iR1 (bz (jk 10) (fNil))) (yh)) (sSeq (sSet 16 (er bSum (bz (fLst (ju (fiV 12) [] fYes (fIxV 0 (fC (.int 2))))) (fNil)))) (sSeq (sIf (fTst (fFrz false (fBin dNe (fVar 16) (fBin dSub (er xl (bz (er xp (bz (fVar 4) (bz (fVar 11) (fNil)))) (fNil))) (er xl (bz (er xp (bz (fVar 4) (bz (fVar 10) (fNil)))) (fNil))))))) (sRet (fC (.bl false))) (sNil)) (sSeq (sSet 17 (fK (.ins false "House" lz) 3 (ko ze [3] (bz (fLst (gz qd (bz (fVar 11) (fNil)))) (fNil))))) (sSeq (sIf (fOr (fNot (fTst (fIsi "tuple" (fVar 17)))) (fOr (fTst (fBin dNe (jk 17) (fC (.int 3)))) (fNot (fTst (fFrz false (er zcx (bz (fIxV 17 (fC (.int 1))) (bz (fVar 12) (fNil))))))))) (sRet (fC (.bl false))) (sNil)) (sSeq (sIf (fTst (fBin dLt (er vo (bz (fLst (fCat (fLst (ju (fiV 12) [] fYes (fIxV 0 (fC (.int 2))))) (fLst (il (bz (fC (.int 0)) (fNil)))))) (fNil))) (fC (.int 0)))) (sRet (fC (.bl false))) (sNil)) (sRet (vz (er xr (bz (fIxV 17 (fC (.int 0))) (fNil))) (fBin dEq (fIxV 17 (fC (.int 0))) (fVar 16)))))))))))))))))))
def z42:g2->g3:=runD 18 1 z41
end SQ
namespace SQ
open PySem L2 LB PyProof.Rows
def top(i:Nat):Stmt:=PySem.Challenge.pw_rotstacks_k37_whole_no_sack_on_another.main.body.getD i (.Pass ⟨0,0,0,0⟩)
def mth(j:Nat):Stmt:=match top 72 with | .ClassDef _ _ _ b _ _ _ _ _ _ _=>b.getD j (.Pass ⟨0,0,0,0⟩) | _=>.Pass ⟨0,0,0,0⟩
local macro_rules | `(tactic| walk_at "g") => `(tactic| first | exact gl_d (by kernel_rfl) | exact gl_c (by kernel_rfl) | exact gl_p (by kernel_rfl))
local macro_rules | `(tactic| exists $t:term) => `(tactic| as_aux_lemma => exact $t)
local macro_rules | `(tactic| walk_at "b") => `(tactic| exact ⟨by walk_at "g", by assumption⟩)
def ok_all{P:Program}{w:World}{K:gu}{mg:Str->fg}{C:Addr}(T2:Def K mg (top 2) "sack_number" ["sack"])(T3:Def K mg (top 3) "sack_hours" ["sack"])(T4:Def K mg (top 4) "sack_loss" ["sack"])(T5:Def K mg (top 5) "sack_share" ["sack"])(T6:Def K mg (top 6) "sacks_in_all" ["stacks"])(T9:Def K mg (top 9) "with_stack" ["stacks", "at", "stack"])(a7:Def K mg (top 12) "share_gap" ["one", "other"])(a8:Def K mg (top 13) "share_sign" ["one", "other"])(a9:Def K mg (top 14) "single_block" ["sack"])(ba:Def K mg (top 15) "joined_block" ["upper", "lower"])(bb:Def K mg (top 16) "block_share" ["block"])(bd:Def K mg (top 17) "has_greater_share" ["upper", "lower"])(be:Def K mg (top 18) "stack_blocks" ["stack"])(bk:Def K mg (top 32) "turn_share" ["turn"])(bl:Def K mg (top 33) "place_of_turn" ["turns", "turn"])(bm:Def K mg (top 34) "block_turns" ["stacks"])(bp:Def K mg (top 35) "turn_sacks" ["stacks", "turns"])(br:Def K mg (top 36) "told_order" ["stacks"])(R:Def K mg (top 37) "check_known" ["stacks", "at"])(bs:Def K mg (top 38) "check_whole" ["stacks", "order"])(bt:Def K mg (top 39) "check_order" ["stacks", "order"])(bu:Def K mg (top 40) "taken_sacks" ["stacks", "order"])(bx:Def K mg (top 41) "sack_places" ["sacks"])(b0:Def K mg (top 43) "order_plan" ["stacks", "order"])(b1:Def K mg (top 44) "order_cost" ["stacks", "order"])(b2:Def K mg (top 45) "least_cost" ["stacks"])(b3:Def K mg (top 46) "turned_pairs" ["stacks", "order"])(b4:Def K mg (top 50) "block_debts" ["share", "sacks"])(b5:Def K mg (top 51) "turned_hours" ["first", "second", "places"])(ca:Def K mg (top 52) "turned_reasons" ["shares", "blocks", "places"])(cc:Def K mg (top 53) "plan_spans" ["plan"])(cd:Def K mg (top 54) "parted_reasons" ["shares", "blocks", "spans"])(ch:Def K mg (top 55) "why_more" ["stacks", "order"])(ck:Def K mg (top 62) "check_count" ["many"])(cl:Def K mg (top 63) "check_hours" ["hours"])(cm:Def K mg (top 64) "check_loss" ["loss"])(cn:Def K mg (top 65) "check_room" ["stacks"])(co:Def K mg (top 69) "check_deeds" ["deeds"])(cp:Def K mg (top 70) "next_number" ["deeds"])(o:Mef K C (mth 0) "__init__" "House.__init__" ["self", "many"])(p:Mef K C (mth 1) "piles" "House.piles" ["self"])(q:Mef K C (mth 2) "spans" "House.spans" ["self"])(s:Mef K C (mth 3) "keep" "House.keep" ["self", "deed", "piles", "spans"])(u:Mef K C (mth 4) "put" "House.put" ["self", "at", "hours", "loss"])(v:Mef K C (mth 12) "order" "House.order" ["self"])(x:Mef K C (mth 16) "against" "House.against" ["self", "order"])(ct:Def K mg (top 74) "_law_whole" ["_law_found"])(cu:Def K mg (top 75) "_law_at" ["_law_script", "_law_k"])(cv:Def K mg (top 76) "_law_draws" ["_law_script", "_law_many_here"])(c0:Def K mg (top 77) "_law_other" ["_law_stacks", "_law_figure"])(c1:Def K mg (top 78) "_law_taken" ["_law_stacks", "_law_order"])(da:Def K mg (top 79) "_law_cost" ["_law_sacks"])(dd:Def K mg (top 80) "_law_is_order" ["_law_found", "_law_stacks"])(dj:Def K mg (top 81) "_law_same_row" ["_law_found", "_law_due"])(dk:Def K mg (top 82) "_law_same_rows" ["_law_found", "_law_due"])(dn:Def K mg (top 83) "_law_many" ["_law_header"])(y:Cl K "House" C)(cs:Cls K C)(mC:mg "House" = some (.ref C))(kC:PySem.W.makesIn K C=true)(pC:PySem.W.keepIn K (.ref C)=true)(z:PySem.W.findIn K (.ref C) "kept" = some none)(k:PySem.W.findIn K (.ref C) "states" = some none)(h:Exc K mg "BadCount")(i:Exc K mg "BadHours")(j:Exc K mg "BadLoss")(d:Exc K mg "DeedsFull")(e:Exc K mg "HouseFull")(c:Exc K mg "UnknownStack")(V:∃t,mg "MOST_DEEDS" = some (.int 60 t))(Y:∃t,mg "MOST_HOURS" = some (.int 60 t))(Z:∃t,mg "MOST_LOSS" = some (.int 100 t))(I:∃t,mg "MOST_STACKS" = some (.int 5 t))(D:∃t,mg "MOST_WAITING" = some (.int 14 t))(a4:mg "bool" = none)(a5:mg "dict" = none)(A:mg "enumerate" = none)(dp:mg "int" = none)(n:mg "isinstance" = none)(dr:mg "len" = none)(a6:mg "list" = none)(ds:mg "min" = none)(S:mg "range" = none)(dt:mg "str" = none)(dv:mg "sum" = none)(T:mg "tuple" = none)(dx:mg "zip" = none):∀base f fd,Fun K "law" "law" (top 84) f fd->FnOk P w K mg base CX0 9 f fd ["_law_script"] (dSp K z42):=by
 intro base;have b:Atr K "House" "kept":=⟨C,cs,z,y⟩;have U:Atr K "House" "states":=⟨C,cs,k,y⟩;have l:Cal P w K mg base CX0 "sack_number" 1 (dSp K my):=by exists jm T2 ["sack"] λr a t=>e9 (im (gc dw a))
 have M:Cal P w K mg base CX0 "sack_hours" 1 (dSp K p9):=by exists jm T3 ["sack"] λr a t=>e9 (im (gc dw a))
 have c4:Cal P w K mg base CX0 "sack_loss" 1 (dSp K xm):=by exists jm T4 ["sack"] λr a t=>e9 (im (gc dw a))
 have c5:Cal P w K mg base CX0 "sack_share" 2 (dSp K ze8):=by exists jm T5 ["sack"] λr a t=>e9 (im (lx (cw (f8 M r (cw (cb a) dm)) (cw (f8 c4 r (cw (cb a) dm)) dm))))
 have c6:Cal P w K mg base CX0 "sacks_in_all" 1 (dSp K zfl):=by exists jm T6 ["stacks"] λr a t=>e9 (im (zyu (cw (j8 (zpj a (kq (cb a)) (λ_ _ _ _ _ _ _ a=>lb a))) dm)))
 have c9:Cal P w K mg base CX0 "with_stack" 1 (dSp K ze9):=by exists jm T9 ["stacks", "at", "stack"] λr a t=>e9 (im (j8 (yg (j8 (yg (j8 (vw (cb a) yl (ve (lf (cb a) dw)))) (j8 (lc (cw (cb a) dm))))) (j8 (vw (cb a) (ve (cb a)) yl)))))
 have B:Cal P w K mg base CX0 "share_gap" 1 (dSp K t6):=by exists jm a7 ["one", "other"] λr a t=>e9 (im (lf (oh (gc dw a) (gc dw a)) (oh (gc dw a) (gc dw a))))
 have X:Cal P w K mg base CX0 "share_sign" 2 (dSp K tf):=by exists jm a8 ["one", "other", "gap"] λr a t=>eh (iu t (f8 B r (cw (cb a) (cw (cb a) dm)))) (eh (jy (o0 (cb a) dw) (e9 (im dw)) jz) (eh (jy (n8 (cb a) dw) (e9 (im (ztx dw))) jz) (e9 (im dw))))
 have d0:Cal P w K mg base CX0 "single_block" 2 (dSp K zdu):=by exists jm a9 ["sack"] λr a t=>e9 (im (lx (cw dw (cw (f8 M r (cw (cb a) dm)) (cw (f8 c4 r (cw (cb a) dm)) dm)))))
 have d1:Cal P w K mg base CX0 "joined_block" 1 (dSp K zdv):=by exists jm ba ["upper", "lower"] λr a t=>e9 (im (lx (cw (kr (gc dw a) (gc dw a)) (cw (kr (gc dw a) (gc dw a)) (cw (kr (gc dw a) (gc dw a)) dm)))))
 have aa:Cal P w K mg base CX0 "block_share" 1 (dSp K y9):=by exists jm bb ["block"] λr a t=>e9 (im (lx (cw (gc dw a) (cw (gc dw a) dm))))
 have d2:Cal P w K mg base CX0 "has_greater_share" 3 (dSp K tp):=by exists jm bd ["upper", "lower"] λr a t=>e9 (im (z5o (f8 X r (cw (f8 aa r (cw (cb a) dm)) (cw (f8 aa r (cw (cb a) dm)) dm))) dw))
 have d3:Cal P w K mg base CX0 "stack_blocks" 4 (dSp K zfe):=by exists jm be ["stack", "blocks", "sack", "block"] λr a t=>eh (l6 (t.psF (lc dm))) (eh (lw (kq (cb a)) t.pg (eh (iu t (f8 d0 r (cw (cb a) dm))) (eh (zqo (dt_w (z8 (o0 (lb a) dw) (zl9 (o6 (og (f8 d2 r (cw (gc (ztx dw) a) (cw (cb a) dm)))))))) (e9 (iu t (f8 d1 r (cw (z3p a) (cw (cb a) dm)))))) (e9 (kn (pc (cb a) a)))))) (e9 (im (cb a))))
 have N:Cal P w K mg base CX0 "turn_share" 1 (dSp K sw):=by exists jm bk ["turn"] λr a t=>e9 (im (lx (cw (gc dw a) (cw (gc dw a) dm))))
 have d4:Cal P w K mg base CX0 "place_of_turn" 3 (dSp K zev):=by exists jm bl ["turns", "turn", "place"] λr a t=>eh (iu t dw) (eh (zqo (dt_w (z8 (n8 (cb a) (lb a)) (zl9 (zz9 (f8 X r (cw (f8 N r (cw (gc (cb a) a) dm)) (cw (f8 N r (cw (cb a) dm)) dm))) dw)))) (e9 (wv t dw))) (e9 (im (cb a))))
 have ab:Cal P w K mg base CX0 "block_turns" 5 (dSp K tj):=by exists jm bm ["stacks", "turns", "at", "stack", "many", "hours", "loss", "turn"] λr a t=>eh (l6 (t.psF (lc dm))) (eh (vd (zwz (cw (cb a) dm)) (j9 t (j9 t p6)) (e9 (zpl (kq (f8 d3 r (cw (cb a) dm))) (j9 t (j9 t (j9 t p6))) (eh (iu t (lx (cw (cb a) (cw (cb a) (cw (cb a) (cw (cb a) dm)))))) (e9 (kn (zuc (zw5 d4 r (z0q (z5z (cw (cb a) dm)) a)) (cb a) a))))))) (e9 (im (cb a))))
 have d8:Cal P w K mg base CX0 "turn_sacks" 1 (dSp K zhf):=by exists jm bp ["stacks", "turns", "taken", "sacks", "at", "many", "hours", "loss", "begin"] λr a t=>eh (l6 (xb a t (kq (cb a)) (λ_ _ _ _ _ _ _ a=>dw))) (eh (l6 (t.psF (lc dm))) (eh (zpl (kq (cb a)) (j9 t (j9 t (j9 t (j9 t p6)))) (eh (iu t (gc (lf (cb a) dw) a)) (eh (zjx (lf (cb a) dw) (kr (cb a) (cb a)) a) (e9 (kn (pc (j8 (vw (gc (lf (cb a) dw) a) (ve (cb a)) (ve (kr (cb a) (cb a))))) a)))))) (e9 (im (cb a)))))
 have O:Cal P w K mg base CX0 "told_order" 6 (fSp K xq):=by exists z4h br ["stacks", "order", "at", "many", "hours", "loss"] λr a t=>eh (l6 (t.psF (lc dm))) (eh (zpl (kq (f8 ab r (cw (cb a) dm))) (j9 t (j9 t (j9 t (j9 t p6)))) (e9 (kn (zuh (z3v (lc (cw (cb a) dm)) (cb a)) a)))) (e9 (zt6 a)))
 have ea:Cal P w K mg base CX0 "check_known" 1 (dSp K zge):=by exists jm R ["stacks", "at"] λr a t=>e9 (jy (dt_w (pk (n8 (cb a) dw) (r8 (o0 (cb a) (lb a))))) (e9 zmf) jz)
 have ag:Cal P w K mg base (CXr P w) "check_known" 1 (qSp K zd0 zd1):=by exists vm R ["stacks", "at"] λr a t=>e9 (jy (dt_w (pk (n8 (cb a) dw) (r8 (o0 (cb a) (lb a))))) (e9 (xh c z4e)) jz)
 have eb:Cal P w K mg base CX0 "check_whole" 1 (dSp K zgg):=by exists jm bs ["stacks", "order", "left", "at"] λr a t=>eh (l6 (xb a t (kq (cb a)) (λ_ _ _ _ _ _ _ a=>lb a))) (eh (lw (kq (cb a)) t.pg (eh (jy (zp (gc (lf (cb a) dw) a) dw) (e9 zmf) jz) (e9 (zw3 (lf (cb a) dw) dw a)))) (e9 (jy (o0 (zuj a) dw) (e9 zmf) jz)))
 have ec:Cal P w K mg base CX0 "check_order" 2 (dSp K zgi):=by exists jm bt ["stacks", "order", "at"] λr a t=>eh (lw (kq (cb a)) t.pg (e9 (kn (f8 ea r (cw (cb a) (cw (cb a) dm)))))) (e9 (kn (f8 eb r (cw (cb a) (cw (cb a) dm)))))
 have m:Cal P w K mg base CX0 "taken_sacks" 3 (dSp K vi):=by exists jm bu ["stacks", "order", "taken", "sacks", "at"] λr a t=>eh (kn (f8 ec r (cw (cb a) (cw (cb a) dm)))) (eh (l6 (xb a t (kq (cb a)) (λ_ _ _ _ _ _ _ a=>dw))) (eh (l6 (t.psF (lc dm))) (eh (lw (kq (cb a)) t.pg (eh (kn (pc (pq (gc (lf (cb a) dw) a) (gc (lf (cb a) dw) a)) a)) (e9 (zw2 (lf (cb a) dw) dw a)))) (e9 (im (cb a))))))
 have ai:Cal P w K mg base CX0 "sack_places" 2 (dSp K zej):=by exists jm bx ["sacks"] λr a t=>e9 (im (zuq (cw (j8 (zqw ["place", "sack"] a (zmi (cw (cb a) dm)) (λ_ _ _ _ _ t=>j9 t (j9 t p6)) (λ_ _ _ _ _ _ _ a=>lx (cw (f8 l r (cw (cb a) dm)) (cw (cb a) dm))))) dm)))
 have ee:Cal P w K mg base CX0 "order_plan" 4 (dSp K zg8):=by exists jm b0 ["stacks", "order", "plan", "hour", "at", "sack", "dry"] λr a t=>eh (l6 (t.psF (lc dm))) (eh (iu t dw) (eh (vd (zyy (cw (cb a) (cw (f8 m r (cw (cb a) (cw (cb a) dm))) dm))) (j9 t (j9 t p6)) (eh (iu t (kr (cb a) (f8 M r (cw (cb a) dm)))) (eh (kn (pc (lx (cw (f8 l r (cw (cb a) dm)) (cw (cb a) (cw (cb a) (cw (cb a) dm))))) a)) (e9 (iu t (cb a)))))) (e9 (im (cb a)))))
 have al:Cal P w K mg base CX0 "order_cost" 4 (dSp K ze7):=by exists jm b1 ["stacks", "order", "cost", "hour", "sack"] λr a t=>eh (iu t dw) (eh (iu t dw) (eh (lw (kq (f8 m r (cw (cb a) (cw (cb a) dm)))) t.pg (eh (wv t (f8 M r (cw (cb a) dm))) (e9 (wv t (oh (f8 c4 r (cw (cb a) dm)) (cb a)))))) (e9 (im (cb a)))))
 have ef:Cal P w K mg base CX0 "least_cost" 7 (dSp K zhd):=by exists jm b2 ["stacks"] λr a t=>e9 (im (f8 al r (cw (cb a) (cw (j8 (zma O r (cw (cb a) dm))) dm))))
 have eg:Cal P w K mg base CX0 "turned_pairs" 7 (dSp K zfj):=by exists jm b3 ["stacks", "order", "places", "told", "pairs", "place", "ahead", "other", "amount"] λr a t=>eh (iu t (f8 ai r (cw (f8 m r (cw (cb a) (cw (cb a) dm))) dm))) (eh (iu t (f8 m r (cw (cb a) (cw (j8 (zma O r (cw (cb a) dm))) dm)))) (eh (l6 (t.psF (lc dm))) (eh (vd (zmi (cw (cb a) dm)) (j9 t (j9 t p6)) (e9 (lw (kq (j8 (vw (cb a) (ve (kr (cb a) dw)) yl))) t.pg (e9 (jy (n8 (wu r (cb a) (f8 l r (cw (cb a) dm))) (wu r (cb a) (f8 l r (cw (cb a) dm)))) (eh (iu t (f8 B r (cw (f8 c5 r (cw (cb a) dm)) (cw (f8 c5 r (cw (cb a) dm)) dm)))) (e9 (kn (pc (lx (cw (f8 l r (cw (cb a) dm)) (cw (f8 l r (cw (cb a) dm)) (cw (cb a) dm)))) a)))) jz))))) (e9 (im (cb a))))))
 have ei:Cal P w K mg base CX0 "block_debts" 2 (dSp K zei):=by exists jm b4 ["share", "sacks", "debts", "hours", "loss", "sack"] λr a t=>eh (l6 (t.psF (lc dm))) (eh (iu t dw) (eh (iu t dw) (eh (lw (kq (j8 (vw (cb a) yl (ve (ztx dw))))) t.pg (eh (wv t (f8 M r (cw (cb a) dm))) (eh (wv t (f8 c4 r (cw (cb a) dm))) (e9 (kn (pc (f8 B r (cw (cb a) (cw (lx (cw (cb a) (cw (cb a) dm))) dm))) a)))))) (e9 (im (cb a))))))
 have ej:Cal P w K mg base CX0 "turned_hours" 2 (dSp K zfw):=by exists jm b5 ["first", "second", "places", "total", "one", "two"] λr a t=>eh (iu t dw) (eh (lw (kq (cb a)) t.pg (e9 (lw (kq (cb a)) t.pg (e9 (jy (n8 (wu r (cb a) (f8 l r (cw (cb a) dm))) (wu r (cb a) (f8 l r (cw (cb a) dm)))) (e9 (wv t (oh (f8 M r (cw (cb a) dm)) (f8 M r (cw (cb a) dm))))) jz))))) (e9 (im (cb a))))
 have ek:Cal P w K mg base CX0 "turned_reasons" 3 (dSp K zef):=by exists jm ca ["shares", "blocks", "places", "reasons", "turn", "first", "later", "second", "over", "under"] λr a t=>eh (l6 (t.psF (lc dm))) (eh (vd (zmi (cw (cb a) dm)) (j9 t (j9 t p6)) (e9 (lw (zt0 (cw (kr (cb a) dw) (cw (lb a) dm))) t.pg (eh (iu t (gc (cb a) a)) (eh (iu t (oh (f8 B r (cw (gc (cb a) a) (cw (gc (cb a) a) dm))) (f8 ej r (cw (cb a) (cw (cb a) (cw (cb a) dm)))))) (e9 (jy (o0 (cb a) dw) (eh (iu t (oh (pq (gc (cb a) a) dw) (pq (gc (cb a) a) dw))) (e9 (kn (pc (lx (cw z9 (cw (f8 l r (cw (gc dw a) dm)) (cw (f8 l r (cw (gc dw a) dm)) (cw (cb a) (cw (cb a) dm)))))) a)))) jz))))))) (e9 (im (cb a))))
 have el:Cal P w K mg base CX0 "plan_spans" 1 (dSp K zhn):=by exists jm cc ["plan"] λr a t=>e9 (im (zuq (cw (j8 (zqw ["number", "at", "begun", "dry"] a (z50 (kq (cb a))) (λ_ _ _ _ _ t=>j9 t (j9 t (j9 t (j9 t p6)))) (λ_ _ _ _ _ _ _ a=>lx (cw (cb a) (cw (lx (cw (cb a) (cw (cb a) dm))) dm))))) dm)))
 have en:Cal P w K mg base CX0 "parted_reasons" 3 (dSp K zeg):=by exists jm cd ["shares", "blocks", "spans", "reasons", "share", "sacks", "place", "debt", "one", "two", "over"] λr a t=>eh (l6 (t.psF (lc dm))) (eh (vd (zyy (cw (cb a) (cw (cb a) dm))) (j9 t (j9 t p6)) (e9 (vd (zmi (cw (f8 ei r (cw (cb a) (cw (cb a) dm))) dm)) (j9 t (j9 t p6)) (eh (iu t (f8 l r (cw (gc (cb a) a) dm))) (eh (iu t (f8 l r (cw (gc (kr (cb a) dw) a) dm))) (eh (iu t (oh (cb a) (lf (pq (wu r (cb a) (cb a)) dw) (pq (wu r (cb a) (cb a)) dw)))) (e9 (jy (o0 (cb a) dw) (e9 (kn (pc (lx (cw z9 (cw (cb a) (cw (cb a) (cw (cb a) (cw (gc dw a) dm)))))) a))) jz)))))))) (e9 (im (cb a))))
 have ep:Cal P w K mg base CX0 "why_more" 6 (dSp K zjc):=by exists jm ch ["stacks", "order", "plan", "places", "turns", "blocks", "shares"] λr a t=>eh (iu t (f8 ee r (cw (cb a) (cw (cb a) dm)))) (eh (iu t (f8 ai r (cw (f8 m r (cw (cb a) (cw (cb a) dm))) dm))) (eh (iu t (f8 ab r (cw (cb a) dm))) (eh (iu t (f8 d8 r (cw (cb a) (cw (cb a) dm)))) (eh (zt8 (xb a t (kq (cb a)) (λ_ _ _ _ _ _ _ a=>f8 N r (cw (cb a) dm)))) (e9 (im (j8 (yg (f8 ek r (cw (cb a) (cw (cb a) (cw (cb a) dm)))) (f8 en r (cw (cb a) (cw (cb a) (cw (f8 el r (cw (cb a) dm)) dm))))))))))))
 have an:Cal P w K mg base (CXr P w) "check_count" 1 (qSp K zd2 zd3):=by exists vm ck ["many"] λr a t=>e9 (jy (dt_w (pk (n8 (cb a) dw) (r8 (o0 (cb a) (qo I))))) (e9 (xh h (yi (o9 va (o9 (yk (qo I)) (o9 va yj)))))) jz)
 have ap:Cal P w K mg base (CXr P w) "check_hours" 1 (qSp K zd4 zd5):=by exists vm cl ["hours"] λr a t=>e9 (jy (dt_w (pk (n8 (cb a) dw) (r8 (o0 (cb a) (qo Y))))) (e9 (xh i (yi (o9 va (o9 (yk (qo Y)) (o9 va yj)))))) jz)
 have ar:Cal P w K mg base (CXr P w) "check_loss" 1 (qSp K zel zem):=by exists vm cm ["loss"] λr a t=>e9 (jy (dt_w (pk (n8 (cb a) dw) (r8 (o0 (cb a) (qo Z))))) (e9 (xh j (yi (o9 va (o9 (yk (qo Z)) yj))))) jz)
 have a0:Cal P w K mg base (CXr P w) "check_room" 2 (qSp K zeo xn):=by exists vm cn ["stacks"] λr a t=>e9 (jy (zz9 (f8 c6 r (cw (cb a) dm)) (qo D)) (e9 (xh e (yi (o9 (yk (qo D)) (o9 va yj))))) jz)
 have a1:Cal P w K mg base (CXr P w) "check_deeds" 1 (qSp K zd7 xt):=by exists vm co ["deeds"] λr a t=>e9 (jy (zz9 (lb a) (qo V)) (e9 (xh d (yi (o9 (yk (qo V)) (o9 va yj))))) jz)
 have es:Cal P w K mg base CX0 "next_number" 1 (dSp K zep):=by exists jm cp ["deeds"] λr a t=>e9 (im (kr dw (zyt (cw (j8 (zt3 a (kq (cb a)) (λ_ _ _ _ _ _ _ a=>zp (gc dw a) z9) (λ_ _ _ _ _ _ _ a=>cb a))) dm))))
 have E:KCal P w K mg base "House" 2 (lSp K za zdq):=by exists z58 y mC kC pC o ["self", "many"] λr a t=>eh (wc (kn (xi an r (o7 (cw (cb a) dm)))) (wy (wx an r (o7 (cw (cb a) dm))))) (eh (zq7 b a (lc dm)) (e9 (zq7 U a (lc (cw (lx (cw (j8 (zpj a (qw (cw (cb a) dm)) (λ_ _ _ _ _ _ _ a=>j8 (lc dm)))) (cw (j8 (lc dm)) dm))) dm)))))
 have g:MCal P w K mg base "House" "piles" 1 (qSp K t9 zlk):=by exists zk y cs p ["self"] λr a t=>e9 (im (pq (zuv (zj0 U a) (zy4 zy3)) dw))
 have F:MCal P w K mg base "House" "spans" 1 (qSp K zd8 zll):=by exists zk y cs q ["self"] λr a t=>e9 (im (pq (zuv (zj0 U a) (zy4 zy3)) dw))
 have G:MCal P w K mg base "House" "keep" 1 (lSp K yx znd):=by exists z4i y cs s ["self", "deed", "piles", "spans"] λr a t=>eh (kn (zkr (zj0 b a) (cb a))) (e9 (kn (zkr (zj0 U a) (lx (cw (cb a) (cw (cb a) dm))))))
 have H:MCal P w K mg base "House" "put" 3 (lSp K xo zhl):=by exists z4i y cs u ["self", "at", "hours", "loss", "piles", "number", "stack"] λr a t=>eh (iu t (yu g r a)) (eh (wc (kn (xi ag r (o7 (cw (cb a) (cw (cb a) dm))))) (wy (wx ag r (o7 (cw (cb a) (cw (cb a) dm)))))) (eh (wc (kn (xi ap r (o7 (cw (cb a) dm)))) (wy (wx ap r (o7 (cw (cb a) dm))))) (eh (wc (kn (xi ar r (o7 (cw (cb a) dm)))) (wy (wx ar r (o7 (cw (cb a) dm))))) (eh (wc (kn (xi a0 r (o7 (cw (cb a) dm)))) (wy (wx a0 r (o7 (cw (cb a) dm))))) (eh (wc (kn (wq (λ_ _=>xi a1 r (o7 (cw (zmv b a) dm))))) (wy (z4g (λ_ _=>wx a1 r (o7 (cw (zmv b a) dm)))))) (eh (iu t (wq (λ_ _=>f8 es r (cw (zmv b a) dm)))) (eh (iu t (j8 (yg (j8 (lc (cw (lx (cw (cb a) (cw (cb a) (cw (cb a) dm)))) dm))) (gc (lf (cb a) dw) a)))) (eh (kn (zol G r (cw (lx (cw z9 (cw (cb a) (cw (cb a) (cw (cb a) dm))))) (cw (f8 c9 r (cw (cb a) (cw (cb a) (cw (cb a) dm)))) (cw (yu F r a) dm))) a)) (e9 (im (cb a)))))))))))
 have J:MCal P w K mg base "House" "order" 7 (qSp K y0 zlm):=by exists zk y cs v ["self"] λr a t=>e9 (im (j8 (zma O r (cw (yu g r a) dm))))
 have L:MCal P w K mg base "House" "against" 8 (qSp K ze zjt):=by exists zk y cs x ["self", "order", "piles", "more"] λr a t=>eh (iu t (yu g r a)) (eh (iu t (lf (f8 al r (cw (cb a) (cw (cb a) dm))) (f8 ef r (cw (cb a) dm)))) (e9 (im (lx (cw (cb a) (cw (f8 eg r (cw (cb a) (cw (cb a) dm))) (cw (f8 ep r (cw (cb a) (cw (cb a) dm))) dm)))))))
 have Q:Cal P w K mg base CX0 "_law_whole" 1 (dSp K xr):=by exists jm ct ["_law_found"] λr a t=>e9 (im (zys (rq z3u (cb a)) (zyr (z3g (rq z0j (cb a))))))
 have et:Cal P w K mg base CX0 "_law_at" 1 (dSp K yt):=by exists jm cu ["_law_script", "_law_k"] λr a t=>eh (jy (n8 (cb a) (lb a)) (e9 (im (gc (cb a) a))) jz) (e9 (im dw))
 have eu:Cal P w K mg base CX0 "_law_draws" 2 (dSp K yz):=by exists jm cv ["_law_script", "_law_many_here", "_law_made", "_law_state", "_law_k", "_law_cell"] λr a t=>eh (l6 (t.psF (lc dm))) (eh (iu t dw) (eh (lw (qw (cw (cb a) dm)) t.pg (eh (iu t (f8 et r (cw (cb a) (cw (cb a) dm)))) (eh (jy (zp (p4 (lb a) dw) dw) (eh (iu t (p4 (kr (kr (kr (oh (cb a) dw) (cb a)) (cb a)) dw) dw)) (e9 (iu t (p4 (oh (kr (cb a) (cb a)) dw) dw)))) jz) (e9 (kn (pc (cb a) a)))))) (e9 (im (cb a)))))
 have ev:Cal P w K mg base CX0 "_law_other" 1 (fSp K ze6):=by exists z4h c0 ["_law_stacks", "_law_figure", "_law_left", "_law_made", "_law_k", "_law_some", "_law_place"] λr a t=>eh (l6 (t.psF (zpj a (kq (cb a)) (λ_ _ _ _ _ _ _ a=>lb a)))) (eh (l6 (t.psF (lc dm))) (eh (lw (qw (cw (zuj a) dm)) t.pg (eh (zt8 (zsh a t (z5y (qw (cw (lb a) dm))) (λ_ _ _ _ _ _ _ a=>o0 (gc (cb a) a) dw) (λ_ _ _ _ _ _ _ a=>cb a))) (eh (iu t (gc (p4 (cb a) (lb a)) a)) (eh (iu t (wd (cb a) (lb a))) (eh (zjx (cb a) (lf (gc (cb a) a) dw) a) (e9 (kn (pc (kr (cb a) dw) a)))))))) (e9 (zt6 a))))
 have a2:Cal P w K mg base CX0 "_law_taken" 1 (dSp K xp):=by exists jm c1 ["_law_stacks", "_law_order", "_law_taken_here", "_law_made", "_law_at_here"] λr a t=>eh (l6 (xb a t (kq (cb a)) (λ_ _ _ _ _ _ _ a=>dw))) (eh (l6 (t.psF (lc dm))) (eh (lw (kq (cb a)) t.pg (eh (kn (pc (pq (gc (lf (cb a) dw) a) (gc (lf (cb a) dw) a)) a)) (e9 (zjx (lf (cb a) dw) (kr (gc (lf (cb a) dw) a) dw) a)))) (e9 (im (cb a)))))
 have a3:Cal P w K mg base CX0 "_law_cost" 1 (dSp K xl):=by exists jm da ["_law_sacks", "_law_hour", "_law_total", "_law_sack"] λr a t=>eh (iu t dw) (eh (iu t dw) (eh (lw (kq (cb a)) t.pg (eh (iu t (kr (cb a) (gc dw a))) (e9 (iu t (kr (cb a) (oh (gc dw a) (cb a))))))) (e9 (im (cb a)))))
 have ew:Cal P w K mg base CX0 "_law_is_order" 2 (dSp K zdf):=by exists jm dd ["_law_found", "_law_stacks", "_law_taken_here", "_law_at_here", "_law_k"] λr a t=>eh (jy (o6 (og (rq zua (cb a)))) (e9 (im mw)) jz) (eh (l6 (xb a t (kq (cb a)) (λ_ _ _ _ _ _ _ a=>dw))) (eh (lw (kq (cb a)) t.pg (eh (jy (dt_w (pk (o6 (og (f8 Q r (cw (cb a) dm)))) (pk (n8 (cb a) dw) (r8 (o0 (cb a) (lb a)))))) (e9 (im mw)) jz) (e9 (zjx (lf (cb a) dw) (kr (gc (lf (cb a) dw) a) dw) a)))) (eh (lw (qw (cw (lb a) dm)) t.pg (e9 (jy (tw (gc (cb a) a) (zyt (cw (gc (cb a) a) dm))) (e9 (im mw)) jz))) (e9 (im mw)))))
 have ex:Cal P w K mg base CX0 "_law_same_row" 2 (dSp K zet):=by exists jm dj ["_law_found", "_law_due", "_law_k"] λr a t=>eh (jy (dt_w (pk (o6 (og (rq zqq (cb a)))) (r8 (tw (lb a) (lb a))))) (e9 (im mw)) jz) (eh (lw (qw (cw (lb a) dm)) t.pg (eh (jy (dt_w (z8 (og (rq zt9 (gc (cb a) a))) (zl9 (o6 (og (rq zt9 (gc (cb a) a))))))) (e9 (im mw)) jz) (eh (jy (dt_w (z8 (o6 (og (rq zt9 (gc (cb a) a)))) (zl9 (o6 (og (f8 Q r (cw (gc (cb a) a) dm))))))) (e9 (im mw)) jz) (e9 (jy (tw (gc (cb a) a) (gc (cb a) a)) (e9 (im mw)) jz))))) (e9 (im mw)))
 have ey:Cal P w K mg base CX0 "_law_same_rows" 3 (dSp K zcx):=by exists jm dk ["_law_found", "_law_due", "_law_k"] λr a t=>eh (jy (dt_w (pk (o6 (og (rq zua (cb a)))) (r8 (tw (lb a) (lb a))))) (e9 (im mw)) jz) (eh (lw (qw (cw (lb a) dm)) t.pg (e9 (jy (o6 (og (f8 ex r (cw (gc (cb a) a) (cw (gc (cb a) a) dm))))) (e9 (im mw)) jz))) (e9 (im mw)))
 have ez:Cal P w K mg base CX0 "_law_many" 1 (dSp K zgr):=by exists jm dn ["_law_header"] λr a t=>e9 (im (pq (j8 (lc (cw dw (cw dw (cw dw (cw dw (cw dw (cw dw (cw dw (cw dw (cw dw (cw dw (cw dw (cw dw dm)))))))))))))) (p4 (cb a) dw)))
 exact z59 ["_law_script", "_law_draws_here", "_law_many_here", "_law_house", "_law_piles", "_law_number", "_law_k", "_law_cell", "_law_hours", "_law_loss", "_law_told", "_law_turns", "_law_due", "_law_at_here", "_law_one", "_law_two", "_law_more", "_law_found"] λr a t=>eh (iu t (f8 eu r (cw (cb a) (cw dw dm)))) (eh (iu t (f8 ez r (cw (gc dw a) dm))) (eh (zxg t (zxh E r (cw (cb a) dm))) (eh (z0g (zwq a t (qw (cw (cb a) dm)) (λ_ _ _ _ _ _ _ a=>lc dm))) (eh (iu t dw) (eh (lw (qw (cw (cb a) dm)) t.pg (eh (iu t (gc (kr dw (cb a)) a)) (eh (iu t (kr dw (p4 (wd (cb a) dw) dw))) (eh (iu t (p4 (wd (cb a) dw) dw)) (eh (jy (zp (p4 (wd (gc dw a) dw) dw) dw) (eh (iu t (kr dw (p4 (wd (cb a) dw) dw))) (e9 (iu t (p4 (wd (cb a) dw) dw)))) jz) (e9 (jy (tw (p4 (cb a) dw) dw) (eh (iu t (kr (cb a) dw)) (eh (jy (tw (zol H r (cw (kr (cb a) dw) (cw (cb a) (cw (cb a) dm))) a) (cb a)) (e9 (im mw)) jz) (e9 (kn (zse (cb a) (λ_ _=>lx (cw (cb a) (cw (cb a) (cw (cb a) dm)))) a))))) jz))))))) (eh (iu t (yu J r a)) (eh (jy (o6 (og (wq (λ_ _=>f8 ew r (cw (cb a) (cw (cb a) dm)))))) (e9 (im mw)) jz) (eh (iu t (j8 (z0z (λ_ _=>zma ev r (cw (cb a) (cw (kr (oh (gc dw a) dw) (gc dw a)) dm)))))) (eh (l6 (t.psF (lc dm))) (eh (lw (qw (cw (lb a) dm)) t.pg (e9 (lw (kq (j8 (vw (cb a) (ve (kr (cb a) dw)) yl))) t.pg (eh (iu t (wq (λ_ _=>pq (gc (lf (gc (cb a) a) dw) a) dw))) (eh (iu t (wq (λ_ _=>pq (gc (lf (cb a) dw) a) dw))) (e9 (jy (n8 (zqz (cb a) (cb a)) (zqz (cb a) (gc (cb a) a))) (e9 (kn (pc (lx (cw (gc dw a) (cw (gc dw a) (cw (lf (oh (gc dw a) (gc dw a)) (oh (gc dw a) (gc dw a))) dm)))) a))) jz))))))) (eh (iu t (zyu (cw (j8 (zqv a (zy0 a) (λ_ _ _ _ _ _ _ a=>gc dw a))) dm))) (eh (jy (z00 (λ_ _=>tw (cb a) (lf (f8 a3 r (cw (f8 a2 r (cw (cb a) (cw (cb a) dm))) dm)) (f8 a3 r (cw (f8 a2 r (cw (cb a) (cw (cb a) dm))) dm))))) (e9 (im mw)) jz) (eh (iu t (zuu L r (cw (j8 (z0d (cw (cb a) dm))) dm) a)) (eh (jy (dt_w (pk (o6 (og (rq zqq (cb a)))) (pk (tw (lb a) dw) (r8 (o6 (og (wq (λ_ _=>f8 ey r (cw (gc dw a) (cw (cb a) dm)))))))))) (e9 (im mw)) jz) (eh (jy (n8 (z0s (cw (j8 (yg (j8 (zqv a (zy0 a) (λ_ _ _ _ _ _ _ a=>gc dw a))) (j8 (lc (cw dw dm))))) dm)) dw) (e9 (im mw)) jz) (e9 (im (zys (f8 Q r (cw (gc dw a) dm)) (zyr (z5p (gc dw a) (cb a)))))))))))))))))))))
end SQ
namespace SQ
open PySem L2 LB
abbrev hdS(ss:h7)(a:Nat):Sk:=nj ss a 0
variable{ss:h7}{os:f0}
theorem zze(D:Whole ss os)(h1:∀s∈ss,s.length<=1):os.Nodup:=by
 rw[List.nodup_iff_count];intro a;by_cases I:a∈os
 ·have:=D.lo a I
  have U:ss[a-1]?=some ss[a-1]:=ak (by lia);have h2:=D.cnt (a-1) _ U;rw[show a-1+1=a by lia] at h2;rw[h2];exact h1 _ (bc U)
 ·rw[qa I];exact dy 1
theorem zzf:∀ {os:f0},os.Nodup->tk ss os=os.map (hdS ss):=by
 intro os nd;unfold tk;apply List.ext_getElem
 ·simp
 ·intro i h1 h2
  simp only[ae,gg] at h1;simp only[kt,List.getElem_range];have e:os.getD i 0=os[i]:=by rw[aq,ak h1];rfl
  rw[e,qa];intro I;obtain⟨j,U,D⟩:=ma.mp I;rw[dz] at U;rw[List.getElem_take] at D;have:=(ku nd).mp D
  lia
def zqd{α β:Type}[BEq α][LawfulBEq α][BEq β][LawfulBEq β](f:α->β):∀(l:List α) (a:α),a∈l->(∀b∈l,f b=f a->b=a)->(l.map f).idxOf (f a)=l.idxOf a
 | [],a,h,_=>absurd h List.not_mem_nil
 | b::l,a,h,inj=>by
   rw[bg,q9,q9];by_cases e:b=a
   ·subst e;simp
   ·have D:f b≠f a:=λq=>e (inj b bj q)
    rw[show(f b==f a)=false by simpa using D,show(b==a)=false by simpa using e];simp only[cond_false,dc,if_false];rw[zqd f l a ((b7.mp h).resolve_left λq=>e q.symm) λc I=>inj c (au _ I)]
variable{a:Nat}
def zvz(nd:os.Nodup)(D:((tk ss os).map (·.1)).Nodup)(I:a∈os):posT (tk ss os) (hdS ss a).1=(os.idxOf a:Nat):=by
 unfold posT;rw[zzf nd,ed] at *;congr 1;refine zqd (λb=>(hdS ss b).1) os a I λb U e=>?_;obtain⟨i,hi,rfl⟩:=ma.mp I;obtain⟨j,V,rfl⟩:=ma.mp U;have:=(ku (i:=j) (j:=i) (h₀:=by simpa using V) (h₁:=by simpa using hi) D).mp (by simpa using e);subst this;rfl
theorem z1v{ts:h8}(ok:TurnsOk ss ts)(h1:∀s∈ss,s.length<=1):(flat ts).Pairwise λa b=>0<=gapS a b:=by
 have Y:∀t∈ts,∃x,t.2=[x]:=λt D=>by
  obtain⟨j,k⟩:=ok.lo t D;have d:ss[t.1-1]?=some ss[t.1-1]:=ak (by lia);have f:=ok.part _ _ d;have g:t.2∈ofS ts (t.1-1):=by
   unfold ofS;exact cx.mpr ⟨t,fj.mpr ⟨D,by simp;lia⟩,rfl⟩
  have Z:=(eo g).length_le;rw[f] at Z;have:=h1 _ (bc d);have c:=(ok.good t D).ne;cases e:t.2 with
  | nil=>exact absurd e c
  | cons x r=>cases r with
    | nil=>exact⟨x,rfl⟩
    | cons y r=>rw[e] at Z;simp at Z;lia
 unfold flat;rw[List.pairwise_flatten];refine⟨λr i=>?_,?_⟩
 ·obtain⟨t,D,rfl⟩:=cx.mp i
  obtain⟨x,V⟩:=Y t D;rw[V];exact List.pairwise_singleton _ _
 ·rw[n6]
  refine ok.srt.imp_of_mem λ{a b} ha hb' hab x V y hy=>?_;obtain⟨l,I⟩:=Y a ha;obtain⟨m,U⟩:=Y b hb';rw[I] at V;rw[U] at hy;cases cj.mp V;cases cj.mp hy;unfold bef gt blk at hab;rw[I,U] at hab;unfold gapS;simp[lss,hrs] at hab;rcases hab with h | ⟨h,_⟩ <;> lia
def zv0(pos:Int->Int):∀ {T:g9},T.Pairwise (λa b=>0<=gapS a b)->∀r∈oy pos T,0<=r3 r
 | [],_,r,hr=>by simp[oy] at hr
 | x::T,h,r,hr=>by
   rw[d9] at h;rw[oy] at hr;rcases de.mp hr with hr | hr
   ·unfold prow at hr
    obtain⟨y,D,rfl⟩:=cx.mp hr;exact h.1 y (fj.mp D).1
   ·exact zv0 pos h.2 r hr
abbrev EV(A B C:g5)(K:ik)(p:i0)(s:Hs)(m:Int)(v6 v7 v8 v9:g5):DE0:=[A,B,C,some (.ag kH none (hP K (p++[s]))),some (.o2 (dsO s.1)),some (.sh (.int m)),v6,v7,v8,v9,none,none,none,none,none,none,none,none]
noncomputable def tl:FS:=sIf (fTst (fBin dNe (fBin dMod (fVar 7) (fC (.int 8))) (fC (.int 5)))) (sSeq (sSet 5 (fBin h9 (fVar 5) (fC (.int 1)))) (sSeq (sIf (fTst (fBin dNe (fK (.ins false "House" lz) 3 (o5 xo [3] (bz (fBin h9 (fVar 6) (fC (.int 1))) (bz (fVar 8) (bz (fVar 9) (fNil)))))) (fVar 5))) (sRet (fC (.bl false))) (sNil)) (jo (wz 4 (fVar 6) (fTup (bz (fVar 5) (bz (fVar 8) (bz (fVar 9) (fNil))))))))) (sNil)
def ones(i:Nat)(ss:h7):Prop:=(∀j t,ss[j]?=some t->t.length<=1/\(i<=j->t=[]))/\ss.flatten.length<=i
variable{A B C:g5}{n:Nat}
theorem zv1{i:Nat}{K:ik}{p:i0}{s:Hs}{m c hh ll:Int}(hi:HI n K p s)(v:i<n)(J:K.length<=i)(Y:m+1=jf K)(D:ones i s.1)(e:1<=hh/\hh<=60)(f:0<=ll/\ll<=100) :
  ∃U p' s' g,HI n U p' s'/\U.length<=i+1/\g+1=jf U/\ones (i+1) s'.1/\tl (EV A B C K p s m (some (.sh (.int (i:Int)))) (some (.sh (.int c))) (some (.sh (.int hh))) (some (.sh (.int ll))))=some (.nx,EV A B C U p' s' g (some (.sh (.int (i:Int)))) (some (.sh (.int c))) (some (.sh (.int hh))) (some (.sh (.int ll)))):=by
 have k:dMod (.int c) (.int 8)=some (.int (c % 8)):=vc (by decide);by_cases o:c % 8=5
 ·refine⟨K,p,s,m,hi,by lia,Y,⟨λj t h=>⟨(D.1 j t h).1,λl=>(D.1 j t h).2 (by lia)⟩,by have:=D.2;lia⟩,?_⟩
  have Z:decide (c % 8=5)=true:=decide_eq_true o;simp only[tl,sIf,fTst,fBin,fVar,fC,k,dNe,Z,sNil,af,ah,ac,ao,km,dc,if_false]
 ·have Z:decide (c % 8=5)=false:=decide_eq_false o
  have q:=hi.at;have l5:=hi.l5;have sl:=q.len;have L:=hi.n5;have kp:=hi.kp;have b:s.1[i]?=some []:=by
   have h:s.1[i]?=some s.1[i]:=ak (by lia);rw[h,(D.1 i _ h).2 (bo i)]
  have gd:s.1.getD i []=[]:=by rw[aq,b];rfl
  have V:putX s.1 K.length ((i+1:Nat):Int) hh ll=none:=by
   have:=D.2;unfold putX;rw[if_neg (by lia),if_neg (by lia),if_neg (by lia),if_pos (by lia),if_pos (by lia)]
  have w:=(z4x (p:=p) V l5 (by lia)).2;have sp:=zrq (num:=jf K) (h:=hh) (l:=ll) (a:=i+1) (ss:=s.1) (by lia) (by lia) l5 (by rw[show i+1-1=i by lia,gd];exact dy _);have y:=z1r K;have z:gw (jf K,hh,ll):=⟨y.1,by show jf K<=60;lia,e.1,e.2,f.1,f.2⟩;have I:putS s.1 (i+1) (jf K,hh,ll)=s.1.set i [(jf K,hh,ll)]:=by
   unfold putS;rw[show i+1-1=i by lia,gd]
  have E:SI n (K.length+1) (putS s.1 (i+1) (jf K,hh,ll),s.2):=by
   rw[I];exact q.swap b (by have:=D.2;show s.1.flatten.length+1<=14+0;lia) λx V M=>by
    cases cj.mp V;exact z
  have st:Stp K s (.put ((i+1:Nat):Int) hh ll) (putS s.1 (i+1) (jf K,hh,ll),s.2):=⟨V,_,sp,rfl⟩;have d:=hi.push (by lia) E st;have N:=zvo (ss:=s.1) (a:=i+1) (x:=(jf K,hh,ll)) (by lia);refine⟨_,_,_,jf K,d,by simp;lia,?_,⟨λj t h=>?_,by have:=D.2;show(putS s.1 (i+1) (jf K,hh,ll)).flatten.length<=_;lia⟩,?_⟩
  ·unfold jf
   rw[f9,show[Deed.put ((i+1:Nat):Int) hh ll].filter Deed.isPut=[Deed.put ((i+1:Nat):Int) hh ll] from rfl];simp
   lia
  ·have h:(s.1.set i [(jf K,hh,ll)])[j]?=some t:=by rw[<-I];exact h
   rw[ir] at h;split at h
   ·split at h
    ·cases h
     exact⟨bo 1,λ_=>by lia⟩
    ·cases h
   ·exact⟨(D.1 j t h).1,λl=>(D.1 j t h).2 (by lia)⟩
  ·have r:∀v5:g5,fK kH 3 (o5 xo [3] (bz (fBin h9 (fVar 6) (fC (.int 1))) (bz (fVar 8) (bz (fVar 9) fNil)))) [A,B,C,some (.ag kH none (hP K (p++[s]))),some (.o2 (dsO s.1)),v5,some (.sh (.int (i:Int))),some (.sh (.int c)),some (.sh (.int hh)),some (.sh (.int ll)),none,none,none,none,none,none,none,none]=some (.int (jf K),[A,B,C,some (.ag kH none (hP (K++[.put ((i+1:Nat):Int) hh ll]) (p++[s]++[(putS s.1 (i+1) (jf K,hh,ll),s.2)]))),some (.o2 (dsO s.1)),v5,some (.sh (.int (i:Int))),some (.sh (.int c)),some (.sh (.int hh)),some (.sh (.int ll)),none,none,none,none,none,none,none,none]):=λv5=>by
    rw[x0 (ps:=hP K (p++[s])) (l:=none) rfl];exact zvn (ps:=hP K (p++[s])) (l:=none) (ds:=[.int ((i+1:Nat):Int),.int hh,.int ll]) rfl rfl w
   have F:ixN (dsO s.1).length (i:Int)=some i:=qm (by lia) (by unfold dsO;rw[ae];lia) |>.trans (by congr 1);have G:(dsO s.1)[i]?=some []:=by unfold dsO;rw[az,b];rfl
   have u:(dsO s.1).set i [.tup [.int (jf K),.int hh,.int ll]]=dsO (putS s.1 (i+1) (jf K,hh,ll)):=by
    rw[I];unfold dsO;rw[i7];rfl
   have H:Few (0+1):=few (by decide);unfold EV;dsimp only;rw[<-u,<-Y];rw[<-Y] at r u;generalize dsO s.1=SL at *;generalize hP (K++[Deed.put ((i+1:Nat):Int) hh ll]) (p++[s]++[(putS s.1 (i+1) (m+1,hh,ll),s.2)])=HP' at *;unfold tl;rw[show(AK.ins false "House" lz)=kH from rfl];simp only[sIf,sSeq,sSet,jo,fTst,fBin,fVar,fC,k,dNe,h9,Z,sNil,r,wz,app2,capt,fTup,bz,fNil,F,G,H,af,ah,ax,ay,bg,cy,cg,aw,jh,ac,ao,km,Bool.not_false,decide_true,dc,if_false,if_true,show 0+1+1+1<=64 by decide]
def b0:znk=sSeq (sSet 7 (fIxV 1 (fBin h9 (fC (.int 1)) (fVar 6)))) (sSeq (sSet 8 (fBin h9 (fC (.int 1)) (fBin dMod (fBin dDiv (fVar 7) (fC (.int 8))) (fC (.int 60))))) (sSeq (sSet 9 (fBin dMod (fBin dDiv (fVar 7) (fC (.int 480))) (fC (.int 101)))) (sSeq (sIf (fTst (fBin dEq (fBin dMod (fBin dDiv (fIxV 1 (fC (.int 0))) (fC (.int 12))) (fC (.int 3))) (fC (.int 1)))) (sSeq (sSet 8 (fBin h9 (fC (.int 1)) (fBin dMod (fBin dDiv (fVar 7) (fC (.int 8))) (fC (.int 3))))) (sSet 9 (fBin dMod (fBin dDiv (fVar 7) (fC (.int 480))) (fC (.int 4))))) (sNil)) tl))):=rfl
theorem puts{cs:f5}(o:cs.length=8)(q:n<=5) :
  ∃K p s m v6 v7 v8 v9,forL 6 znk (rngD 0 n) (EV A (some (.sh (.lst (cs.map D.int)))) C [] [] (newS n) 0 none none none none)=some (.nx,EV A (some (.sh (.lst (cs.map D.int)))) C K p s m v6 v7 v8 v9)/\HI n K p s/\ones n s.1:=by
 obtain⟨e',h1,K,p,s,m,v6,v7,v8,v9,hi,l,r,V,rfl⟩:=qv (i:=6) (g:=znk) (λi e=>∃K p s m v6 v7 v8 v9,HI n K p s/\K.length<=i/\m+1=jf K/\ones i s.1/\e=EV A (some (.sh (.lst (cs.map D.int)))) C K p s m v6 v7 v8 v9)
  (rngD 0 n) (EV A (some (.sh (.lst (cs.map D.int)))) C [] [] (newS n) 0 none none none none) ⟨[],[],newS n,0,none,none,none,none,HI.new q,bo 0,rfl,⟨λj t h=>by
    have:t=[]:=(List.mem_replicate.mp (bc h)).2;subst this;exact⟨dy 1,λ_=>rfl⟩,by simp[newS]⟩,rfl⟩ (by
    rintro i d e u ⟨K,p,s,m,v6,v7,v8,v9,hi,l,r,V,rfl⟩;obtain⟨rfl,Y⟩:=qp u;rw[i9];have F:atI (cs.map D.int) (1+(i:Int))=some (.int cs[1+i]):=by
     rw[show(1:Int)+(i:Int)=((1+i:Nat):Int) by lia];exact kh D.int (ak (by lia))
    have G:atI (cs.map D.int) 0=some (.int cs[0]):=kh (k:=0) D.int (by simp[o]);generalize cs[1+i]=c at *;generalize cs[0]=c0 at *;have H:dDiv (.int c) (.int 8)=some (.int (c / 8)):=zml (by decide) (by decide);have I:dDiv (.int c) (.int 480)=some (.int (c / 480)):=zml (by decide) (by decide);have Z:dDiv (.int c0) (.int 12)=some (.int (c0 / 12)):=zml (by decide) (by decide);have a:dMod (.int (c / 8)) (.int 60)=some (.int (c / 8 % 60)):=vc (by decide);have J:dMod (.int (c / 8)) (.int 3)=some (.int (c / 8 % 3)):=vc (by decide);have L:dMod (.int (c0 / 12)) (.int 3)=some (.int (c0 / 12 % 3)):=vc (by decide);have U:dMod (.int (c / 480)) (.int 101)=some (.int (c / 480 % 101)):=vc (by decide);have M:dMod (.int (c / 480)) (.int 4)=some (.int (c / 480 % 4)):=vc (by decide);by_cases N:c0 / 12 % 3=1
    ·obtain⟨b,p',s',f,v,w,x,y,z⟩:=zv1 (A:=A) (B:=some (.sh (.lst (cs.map D.int)))) (C:=C) (c:=c) (hh:=1+c / 8 % 3) (ll:=c / 480 % 4) hi Y l r V (by lia) (by lia)
     refine⟨EV A (some (.sh (.lst (cs.map D.int)))) C b p' s' f (some (.sh (.int (i:Int)))) (some (.sh (.int c))) (some (.sh (.int (1+c / 8 % 3)))) (some (.sh (.int (c / 480 % 4)))),?_,b,p',s',f,_,_,_,_,v,w,x,y,rfl⟩;have E:decide (c0 / 12 % 3=1)=true:=decide_eq_true N;rw[b0,<-z];unfold EV;generalize cs.map D.int=CS at *;generalize hP K (p++[s])=HP at *;generalize dsO s.1=SL at *;simp only[sSeq,sSet,sIf,fTst,fBin,fVar,fIxV,ixSl,fC,h9,dEq,F,G,H,I,Z,a,J,L,U,M,E,af,ah,ax,ay,ac,ao,if_true]
    ·obtain⟨b,p',s',f,v,w,x,y,z⟩:=zv1 (A:=A) (B:=some (.sh (.lst (cs.map D.int)))) (C:=C) (c:=c) (hh:=1+c / 8 % 60) (ll:=c / 480 % 101) hi Y l r V (by lia) (by lia)
     refine⟨EV A (some (.sh (.lst (cs.map D.int)))) C b p' s' f (some (.sh (.int (i:Int)))) (some (.sh (.int c))) (some (.sh (.int (1+c / 8 % 60)))) (some (.sh (.int (c / 480 % 101)))),?_,b,p',s',f,_,_,_,_,v,w,x,y,rfl⟩;have E:decide (c0 / 12 % 3=1)=false:=decide_eq_false N;rw[b0,<-z];unfold EV;generalize cs.map D.int=CS at *;generalize hP K (p++[s])=HP at *;generalize dsO s.1=SL at *;simp only[sSeq,sSet,sIf,sNil,fTst,fBin,fVar,fIxV,ixSl,fC,h9,dEq,F,G,H,I,Z,a,J,L,U,M,E,af,ah,ax,ay,ac,ao,dc,if_false])
 rw[pd] at l V;exact⟨K,p,s,m,v6,v7,v8,v9,h1,hi,V⟩
def ints_of(l:f5):ints? (l.map D.int)=some l:=by
 induction l with
 | nil=>rfl
 | cons a l ih=>rw[bg,ints?,ih];rfl
def zrt(I:a∈os):tz (.lst (iD os)) (.int (a:Int))=some (.int (os.idxOf a:Nat)):=by
 have e:iD os=(os.map λa:Nat=>(a:Int)).map D.int:=by unfold iD;rw[ed];rfl
 unfold tz;rw[e];dsimp only;rw[ints_of,ac,if_pos (cx.mpr ⟨a,I,rfl⟩),zqd (λa:Nat=>(a:Int)) os a I λb _ h=>by exact_mod_cast h]
theorem z1w(I:Whole ss os)(U:a∈os):1<=a/\∃r,ss[a-1]?=some (hdS ss a::r):=by
 have h1:=I.lo a U;have D:ss[a-1]?=some ss[a-1]:=ak (by lia);have h2:=I.cnt (a-1) _ D;rw[show a-1+1=a by lia] at h2;have V:=List.count_pos_iff.mpr U;refine⟨h1.1,?_⟩;have e:hdS ss a=(ss[a-1]).getD 0 (0,0,0):=by
  unfold hdS nj;rw[aq (l:=ss),D];rfl
 rw[e,D];cases q:ss[a-1] with
 | nil=>rw[q] at h2;simp at h2;lia
 | cons x r=>exact⟨r,rfl⟩
abbrev EW(A B C H:g5)(ss:h7)(v5 v6 v7 v8 v9 v10 v11 v12 v13 v14 v15 v16 v17:g5):DE0:=[A,B,C,H,some (.o2 (dsO ss)),v5,v6,v7,v8,v9,v10,v11,v12,v13,v14,v15,v16,v17]
def zv2{H:g5}{v5 v6 v7 v8 v9 v10 v11 v12 v13 v14 v15 v16 v17:g5}(I:Whole ss os)(U:a∈os){g:FE}(V:g (frz false (EW A B C H ss v5 v6 v7 v8 v9 v10 v11 v12 v13 v14 v15 v16 v17))=some (.int (a:Int),frz false (EW A B C H ss v5 v6 v7 v8 v9 v10 v11 v12 v13 v14 v15 v16 v17))) :
  fFrz false (fBin dIx (fIxV 4 (fBin dSub g (fC (.int 1)))) (fC (.int 0))) (EW A B C H ss v5 v6 v7 v8 v9 v10 v11 v12 v13 v14 v15 v16 v17)=some (sD (hdS ss a),EW A B C H ss v5 v6 v7 v8 v9 v10 v11 v12 v13 v14 v15 v16 v17):=by
 obtain⟨Y,r,Z⟩:=z1w I U;have D:(frz false (EW A B C H ss v5 v6 v7 v8 v9 v10 v11 v12 v13 v14 v15 v16 v17))[4]?=some (some (.sh (ssL ss))):=wf rfl;have b:=zo Z Y;have k0:atI ((hdS ss a::r).map sD) 0=some (sD (hdS ss a)):=at_0;have c:noL (sD (hdS ss a))=true:=rfl;unfold fFrz;generalize frz false (EW A B C H ss v5 v6 v7 v8 v9 v10 v11 v12 v13 v14 v15 v16 v17)=E at *;unfold ssL at D;simp only[fBin,fIxV,D,V,fC,dSub,ixSl,b,dIx,k0,c,ac,ao,if_true]
variable{T:f0}
theorem z43{H:g5}{v5 v7 v8 v9 v13 v14 v15 v16 v17:g5}(hT:Whole ss T)(S:Whole ss os)(Z:∀a∈T,a∈os)(nd:os.Nodup)(j:((tk ss os).map (·.1)).Nodup)(K:∀x∈ss.flatten,gw x){k:Nat}(s:k<T.length)(q:f0)(L:∀a∈q,a∈T)(W:q.length<=100)(U:g2)(ha:U.length<=1000) :
  ∃Y V I,forL 13 u4 (iD q) (EW A B C H ss v5 (some (.sh (.int (k:Int)))) v7 v8 v9 (some (.sh (.lst (iD T)))) (some (.sh (.lst (iD os)))) (some (.ow U)) v13 v14 v15 v16 v17) =
   some (.nx,EW A B C H ss v5 (some (.sh (.int (k:Int)))) v7 v8 v9 (some (.sh (.lst (iD T)))) (some (.sh (.lst (iD os)))) (some (.ow (U++(prow (posT (tk ss os)) (hdS ss T[k]) (q.map (hdS ss))).map iT))) Y V I v16 v17):=by
 obtain⟨e',h1,Y,V,I,rfl⟩:=nr (i:=13) (g:=u4) (λa:Nat=>D.int (a:Int)) (λp e=>∃Y V I,e=EW A B C H ss v5 (some (.sh (.int (k:Int)))) v7 v8 v9 (some (.sh (.lst (iD T)))) (some (.sh (.lst (iD os)))) (some (.ow (U++(prow (posT (tk ss os)) (hdS ss T[k]) (p.map (hdS ss))).map iT))) Y V I v16 v17) q
  (EW A B C H ss v5 (some (.sh (.int (k:Int)))) v7 v8 v9 (some (.sh (.lst (iD T)))) (some (.sh (.lst (iD os)))) (some (.ow U)) v13 v14 v15 v16 v17) ⟨v13,v14,v15,by simp[prow]⟩ (by
    rintro p a r e l ⟨Y,V,I,rfl⟩;have c:a∈T:=L a (by rw[l];simp);have d:T[k]∈T:=f7 s;have h:atI (iD T) (k:Int)=some (.int (T[k]:Int)):=kh (λa:Nat=>D.int (a:Int)) (ak s);have t:=zv2 (A:=A) (B:=B) (C:=C) (H:=H) (v5:=v5) (v6:=some (.sh (.int (k:Int)))) (v7:=v7) (v8:=v8) (v9:=v9) (v10:=some (.sh (.lst (iD T)))) (v11:=some (.sh (.lst (iD os)))) (v12:=some (.ow (U++(prow (posT (tk ss os)) (hdS ss T[k]) (p.map (hdS ss))).map iT))) (v13:=some (.sh (.int (a:Int)))) (v14:=V) (v15:=I) (v16:=v16) (v17:=v17) hT d (g:=fIxV 10 (fVar 6)) (by
     have m:(frz false (EW A B C H ss v5 (some (.sh (.int (k:Int)))) v7 v8 v9 (some (.sh (.lst (iD T)))) (some (.sh (.lst (iD os)))) (some (.ow (U++(prow (posT (tk ss os)) (hdS ss T[k]) (p.map (hdS ss))).map iT))) (some (.sh (.int (a:Int)))) V I v16 v17))[10]?=some (some (.sh (.lst (iD T)))):=pz rfl;have N:(frz false (EW A B C H ss v5 (some (.sh (.int (k:Int)))) v7 v8 v9 (some (.sh (.lst (iD T)))) (some (.sh (.lst (iD os)))) (some (.ow (U++(prow (posT (tk ss os)) (hdS ss T[k]) (p.map (hdS ss))).map iT))) (some (.sh (.int (a:Int)))) V I v16 v17))[6]?=some (some (.sh (.int (k:Int)))):=pz rfl;simp only[fIxV,fVar,m,N,ixSl,h,ac,ao])
    have u:=λf=>zv2 (A:=A) (B:=B) (C:=C) (H:=H) (v5:=v5) (v6:=some (.sh (.int (k:Int)))) (v7:=v7) (v8:=v8) (v9:=v9) (v10:=some (.sh (.lst (iD T)))) (v11:=some (.sh (.lst (iD os)))) (v12:=some (.ow (U++(prow (posT (tk ss os)) (hdS ss T[k]) (p.map (hdS ss))).map iT))) (v13:=some (.sh (.int (a:Int)))) (v14:=f) (v15:=I) (v16:=v16) (v17:=v17) hT c (g:=fVar 13) (by
     have n:(frz false (EW A B C H ss v5 (some (.sh (.int (k:Int)))) v7 v8 v9 (some (.sh (.lst (iD T)))) (some (.sh (.lst (iD os)))) (some (.ow (U++(prow (posT (tk ss os)) (hdS ss T[k]) (p.map (hdS ss))).map iT))) (some (.sh (.int (a:Int)))) f I v16 v17))[13]?=some (some (.sh (.int (a:Int)))):=pz rfl;simp only[fVar,n])
    have v:=zrt (Z _ d);have w:=zrt (Z _ c);have p1:=zvz nd j (Z _ d);have p2:=zvz nd j (Z _ c);have E:∀b∈T,gw (hdS ss b):=λb O=>by
     obtain⟨_,r,P⟩:=z1w hT O;exact K _ (fo.mpr ⟨_,bc P,bj⟩)
    have Q:=E _ d;have R:=E _ c;rw[bi,List.map_singleton,zo0,p1,p2,bi,<-b9];have pl:=zm7 (posT (tk ss os)) (hdS ss T[k]) (p.map (hdS ss));have F:Few ((U++(prow (posT (tk ss os)) (hdS ss T[k]) (p.map (hdS ss))).map iT).length+1):=few (by
     rw[aj,ae];rw[ae] at pl;have:=congrArg List.length l;simp at this
     lia)
    generalize U++(prow (posT (tk ss os)) (hdS ss T[k]) (p.map (hdS ss))).map iT=M at *;generalize hdS ss T[k]=x at *;generalize hdS ss a=y at *;unfold gw at Q R;have G:dMul (.int x.2.2) (.int y.2.1)=some (.int (x.2.2*y.2.1)):=om (l3 (by lia));have J:dMul (.int y.2.2) (.int x.2.1)=some (.int (y.2.2*x.2.1)):=om (l3 (by lia));have X:∀z:Sk,sD z=.tup [.int z.1,.int z.2.1,.int z.2.2]:=λ_=>rfl;rw[X x,X y] at *;generalize iD T=TD at *;generalize iD os=OD at *;by_cases hc:os.idxOf a<os.idxOf T[k]
    ·have o:decide (((os.idxOf a:Nat):Int)<((os.idxOf T[k]:Nat):Int))=true:=decide_eq_true (by lia)
     rw[if_pos (by lia)];refine⟨EW A B C H ss v5 (some (.sh (.int (k:Int)))) v7 v8 v9 (some (.sh (.lst TD))) (some (.sh (.lst OD))) (some (.ow (M++[.tup [.int x.1,.int y.1,.int (gapS x y)]]))) (some (.sh (.int (a:Int)))) (some (.sh (.tup [.int x.1,.int x.2.1,.int x.2.2]))) (some (.sh (.tup [.int y.1,.int y.2.1,.int y.2.2]))) v16 v17,?_,_,_,_,rfl⟩;show u4 (EW A B C H ss v5 (some (.sh (.int (k:Int)))) v7 v8 v9 (some (.sh (.lst TD))) (some (.sh (.lst OD))) (some (.ow M)) (some (.sh (.int (a:Int)))) V I v16 v17)=_;unfold EW at *;unfold gapS;generalize dsO ss=SL at *;simp only[u4,sSeq,sSet,sIf,sNil,jo,fTst,fBin,fVar,fIxV,ixSl,fC,fTup,bz,fNil,lp,rh,t,u,v,w,h,o,G,J,dLt,dSub,z0x,ug,uf,F,aw,cg,show(0+1+1+1<=64)=True by simp,af,ah,ax,ay,ac,ao,if_true,if_false,dc]
    ·have o:decide (((os.idxOf a:Nat):Int)<((os.idxOf T[k]:Nat):Int))=false:=decide_eq_false (by lia)
     rw[if_neg (by lia)];refine⟨EW A B C H ss v5 (some (.sh (.int (k:Int)))) v7 v8 v9 (some (.sh (.lst TD))) (some (.sh (.lst OD))) (some (.ow (M++[]))) (some (.sh (.int (a:Int)))) (some (.sh (.tup [.int x.1,.int x.2.1,.int x.2.2]))) (some (.sh (.tup [.int y.1,.int y.2.1,.int y.2.2]))) v16 v17,?_,_,_,_,rfl⟩;show u4 (EW A B C H ss v5 (some (.sh (.int (k:Int)))) v7 v8 v9 (some (.sh (.lst TD))) (some (.sh (.lst OD))) (some (.ow M)) (some (.sh (.int (a:Int)))) V I v16 v17)=_;rw[cr];unfold EW at *;generalize dsO ss=SL at *;simp only[u4,sSeq,sSet,sIf,sNil,jo,fTst,fBin,fVar,fIxV,ixSl,fC,fTup,bz,fNil,lp,rh,t,u,v,w,h,o,G,J,dLt,dSub,z0x,ug,uf,F,aw,cg,show(0+1+1+1<=64)=True by simp,af,ah,ax,ay,ac,ao,if_true,if_false,dc])
 exact⟨Y,V,I,h1⟩
theorem zye{H:g5}{v5 v6 v7 v8 v9 v13 v14 v15 v16 v17:g5}(hT:Whole ss T)(l:Whole ss os)(Y:∀a∈T,a∈os)(nd:os.Nodup)(Z:((tk ss os).map (·.1)).Nodup)(m:∀x∈ss.flatten,gw x)(n:T.length<=14) :
  ∃V D I U,forL 6 yh (rngD 0 T.length) (EW A B C H ss v5 v6 v7 v8 v9 (some (.sh (.lst (iD T)))) (some (.sh (.lst (iD os)))) (some (.ow [])) v13 v14 v15 v16 v17) =
   some (.nx,EW A B C H ss v5 V v7 v8 v9 (some (.sh (.lst (iD T)))) (some (.sh (.lst (iD os)))) (some (.ow ((tpN (posT (tk ss os)) (T.map (hdS ss)) T.length).map iT))) D I U v16 v17):=by
 obtain⟨e',h1,V,D,I,U,rfl⟩:=qv (i:=6) (g:=yh) (λi e=>∃V D I U,e=EW A B C H ss v5 V v7 v8 v9 (some (.sh (.lst (iD T)))) (some (.sh (.lst (iD os)))) (some (.ow ((tpN (posT (tk ss os)) (T.map (hdS ss)) i).map iT))) D I U v16 v17)
  (rngD 0 T.length) (EW A B C H ss v5 v6 v7 v8 v9 (some (.sh (.lst (iD T)))) (some (.sh (.lst (iD os)))) (some (.ow [])) v13 v14 v15 v16 v17) ⟨v6,v13,v14,v15,rfl⟩ (by
    rintro i d e b ⟨V,D,I,U,rfl⟩;obtain⟨rfl,o⟩:=qp b;rw[i9];have tl:=zm9 (posT (tk ss os)) (T.map (hdS ss)) i;have tl:(tpN (posT (tk ss os)) (T.map (hdS ss)) i).length<=196:=b8 tl (by rw[ae];exact ub (show i<=14 by lia) n);obtain⟨c,f,h,h2⟩:=z43 (A:=A) (B:=B) (C:=C) (H:=H) (v5:=v5) (v7:=v7) (v8:=v8) (v9:=v9) (v13:=D) (v14:=I) (v15:=U) (v16:=v16) (v17:=v17) hT l Y nd Z m (k:=i) (by lia) (T.drop (i+1)) (λa p=>List.mem_of_mem_drop p) (by rw[d5];lia) ((tpN (posT (tk ss os)) (T.map (hdS ss)) i).map iT) (by rw[ae];lia);have j:=znb (iD T) (i+1) (by unfold iD;rw[ae];lia);have q:(iD T).drop (i+1)=iD (T.drop (i+1)):=by unfold iD;rw[xy]
    rw[q] at j;have r:tpN (posT (tk ss os)) (T.map (hdS ss)) (i+1)=tpN (posT (tk ss os)) (T.map (hdS ss)) i++prow (posT (tk ss os)) (hdS ss (T[i]'(by lia))) ((T.drop (i+1)).map (hdS ss)):=by
     rw[zm8,xy,aq,az,ak (by lia)];rfl
    rw[r,bi];refine⟨EW A B C H ss v5 (some (.sh (.int (i:Int)))) v7 v8 v9 (some (.sh (.lst (iD T)))) (some (.sh (.lst (iD os)))) (some (.ow ((tpN (posT (tk ss os)) (T.map (hdS ss)) i).map iT++(prow (posT (tk ss os)) (hdS ss (T[i]'(by lia))) ((T.drop (i+1)).map (hdS ss))).map iT))) c f h v16 v17,?_,_,_,_,_,rfl⟩;rw[<-h2];show yh (EW A B C H ss v5 (some (.sh (.int (i:Int)))) v7 v8 v9 (some (.sh (.lst (iD T)))) (some (.sh (.lst (iD os)))) (some (.ow ((tpN (posT (tk ss os)) (T.map (hdS ss)) i).map iT))) D I U v16 v17)=_;unfold EW;simp only[yh,sFor,fiS,fLst,fSl,fO1,fO0,fBin,fVar,fC,h9,af,ah,ac,ao];rw[show((i:Int)+1)=((i+1:Nat):Int) by lia,j])
 rw[pd] at h1;exact⟨V,D,I,U,h1⟩
def frz_ow{e:DE0}{j:Nat}{ds:g2}(h:e[j]?=some (some (.ow ds))):(frz false e)[j]?=some (some (.sh (.lst ds))):=by
 unfold frz;rw[az,h];rfl
def noLs_i(os:f0):noLs (iD os)=true:=by
 induction os with
 | nil=>rfl
 | cons a r ih=>show noLs (D.int (a:Int)::iD r)=true;unfold noLs;rw[ih];rfl
def zru:∀ds:g2,uu (il fNil) [] ds=some (ds.map λ_=>([]:g2))
 | []=>rfl
 | d::ds=>by
   unfold uu;simp[il,fNil,zru ds]
theorem good(ns:f5)(hn:ns.length<=63):z42 [.lst (ns.map D.int)]=some (.bl true):=by
 obtain⟨cs,c,hd⟩:=zxl ns 8 (by lia);have hd:yz [.lst (ns.map D.int),.int 8]=some (.lst (cs.map D.int)):=hd;have a0:atI (cs.map D.int) 0=some (.int cs[0]):=kh (k:=0) D.int (by simp[c]);have a6:atI (cs.map D.int) 6=some (.int cs[6]):=kh (k:=6) D.int (by simp[c]);have a7:atI (cs.map D.int) 7=some (.int cs[7]):=kh (k:=7) D.int (by simp[c]);obtain⟨n,v,hm⟩:=z1s cs[0];obtain⟨A,eA⟩:∃A:g5,A=some (.sh (.lst (ns.map D.int))):=⟨_,rfl⟩;obtain⟨C,eC⟩:∃A:g5,A=some (.sh (.int n)):=⟨_,rfl⟩;have mk:=z1n (n:=n) v (F:=bz (fVar 2) fNil) (e:=[A,some (.sh (.lst (cs.map D.int))),C,none,none,none,none,none,none,none,none,none,none,none,none,none,none,none]) (by rw[eC];rfl);obtain⟨K,p,s,m,v6,v7,v8,v9,h1,O,ho⟩:=puts (A:=A) (C:=C) c v;have g:=oo n (by lia);have hf:Few (rngD 0 n).length:=few (by rw[pd];lia);have c0:=zru (rngD 0 n);have S:(rngD 0 n).map (λ_=>([]:g2))=dsO (newS n).1:=by
  unfold dsO newS;rw[List.map_const',pd,List.map_replicate,cy]
 rw[S] at c0;have w:=O.at;have l5:=O.l5;have b:=w.few;have one:∀t∈s.1,t.length<=1:=λt ht=>by
  obtain⟨j,hj⟩:=List.mem_iff_getElem?.mp ht;exact(ho.1 j t hj).1
 obtain⟨ts,ok,T⟩:=zfo s.1 w.good b;have W:=zgo ok T b;have X:(gm ts).length<=14:=by rw[ok.whole.len];exact b
 obtain⟨os,Z,aa⟩:=zox s.1 (by lia) (by lia) (cs[6]*(2147483647:Int)+cs[7]);have ab:os.length<=14:=by rw[Z.len];exact b
 have ai:=zze Z one;have al:=zze ok.whole one;have o:=z1d Z O.nd;have an:∀a∈gm ts,a∈os:=λa ha=>by
  obtain⟨l1,r,g⟩:=z1w ok.whole ha;have h2:=Z.cnt (a-1) _ g;rw[show a-1+1=a by lia,aw] at h2;exact List.count_pos_iff.mp (by lia)
 have oq:=z6i (m:=y0) (e:=EV A (some (.sh (.lst (cs.map D.int)))) C K p s m v6 v7 v8 v9) (i:=3) (l:=none) (k:=K) (p:=p++[s]) rfl;rw[zyb W] at oq;have io:=zqa ok.whole (by lia);have t1:=zjp ok.whole (by lia) (by lia);have c1:=zk0 (tk s.1 (gm ts)) λx z=>w.good x (ok.whole.sk x z);have q:=zzf (ss:=s.1) al;have ap:tk s.1 (gm ts)=flat ts:=zvi ok;rw[ap] at q t1 c1;have t2:=zjp Z (by lia) (by lia);have c2:=zk0 (tk s.1 os) λx z=>w.good x (Z.sk x z);have ag:=zsy O ok Z;have pm:(flat ts).Perm (tk s.1 os):=ok.perm.trans (ym Z).symm;have ar:((flat ts).map (·.1)).Nodup:=(pm.map (·.1)).nodup_iff.mpr o;have cm:=zvg pm o;have fl:(flat ts).length<=14:=by rw[pm.length_eq,um];exact ab
 have G:(flat ts).length=(gm ts).length:=by rw[q,ae]
 obtain⟨Y,I,U,V,h2⟩:=zye (A:=A) (B:=some (.sh (.lst (cs.map D.int)))) (C:=C) (H:=some (.ag kH none (hP K (p++[s])))) (v5:=some (.sh (.int m))) (v6:=v6) (v7:=v7) (v8:=v8) (v9:=v9) (v13:=none) (v14:=none) (v15:=none) (v16:=none) (v17:=none) ok.whole Z an ai o w.good X;rw[<-q,<-G,zi] at h2;rw[zi] at ag;have hR:=zo3 (posT (tk s.1 os)) (flat ts);have J:=zo4 (posT (tk s.1 os)) ar;have a1:=zv0 (posT (tk s.1 os)) (z1v ok one);have bd:(oy (posT (tk s.1 os)) (flat ts)).length<=196:=b8 (zvh (posT (tk s.1 os)) (flat ts)) (ub fl fl);rw[<-cm] at hR;generalize be:oy (posT (tk s.1 os)) (flat ts)=R at *;have sr:=zoo (λr:f5=>r) R (by lia) λr g=>by
  obtain⟨x,z,y,hy,a2,rfl⟩:=J r g;exact Nat.le_of_ble_eq_true rfl
 have L:=qu (te:=fIxV 0 (fC (.int 2))) (base:=[]) iT (λr:f5=>D.int (r3 r)) R λr g=>by
  obtain⟨x,z,y,hy,a2,rfl⟩:=J r g;exact⟨[some (.sh (iT [x.1,y.1,gapS x y]))],rfl⟩
 have a3:Few (R.map iT).length:=few (by rw[ae];lia);have bs:=zu3 r3 R;rw[hR] at bs;generalize P:jx 0 (tk s.1 os)-jx 0 (flat ts)=mo at *;have bm:∃M:Int,vo [.lst (R.map (λr=>D.int (r3 r))++[.int 0])]=some (.int M)/\¬M<0:=by
  obtain⟨M,P⟩:=zn8 (ns:=R.map r3++[0]) (by simp);have mm:=(zpn P).1;refine⟨M,?_,?_⟩
  ·rw[show R.map (λr=>D.int (r3 r))++[.int 0]=(R.map r3++[0]).map D.int by simp]
   unfold vo;dsimp only;rw[ints_of,ac,P];rfl
  ·rcases de.mp mm with h | h
   ·obtain⟨r,g,rfl⟩:=cx.mp h
    have:=a1 r g
    lia
   ·cases cj.mp h
    lia
 obtain⟨M,bm,a4⟩:=bm;have dM:decide (M<0)=false:=decide_eq_false a4;have fw:Few (((R.map λr=>D.int (r3 r)).length)+(0+1)):=few (by rw[ae];lia);obtain⟨Q,hQ,q3,q0,q1⟩:∃Q,D.tup [.int mo,.lst (R.map iT),.lst (trUp (posT (tk s.1 os)) ts ts.length++me (tk s.1 os) ts)]=.tup Q/\(Q.length:Int)=3/\atI Q 0=some (.int mo)/\atI Q 1=some (.lst (R.map iT)):=⟨_,rfl,rfl,rfl,rfl⟩;rw[hQ] at ag;have wm:=zmx mo;have lT:((iD (gm ts)).length:Int)=((flat ts).length:Int):=by unfold iD;rw[ae,G]
 have a5:=oo (flat ts).length (by lia);have mf:dMul (.int cs[6]) (.int 2147483647)=some (.int (cs[6]*2147483647)):=zq1 (l3 (by decide));have f1:∀Y v11 v12 v13 v14 v15 v16 v17,fFrz false (er zdf (bz (fVar 10) (bz (fVar 4) fNil))) (EW A (some (.sh (.lst (cs.map D.int)))) C (some (.ag kH none (hP K (p++[s])))) s.1 (some (.sh (.int m))) Y v7 v8 v9 (some (.sh (.lst (iD (gm ts))))) v11 v12 v13 v14 v15 v16 v17)=some (.bl true,EW A (some (.sh (.lst (cs.map D.int)))) C (some (.ag kH none (hP K (p++[s])))) s.1 (some (.sh (.int m))) Y v7 v8 v9 (some (.sh (.lst (iD (gm ts))))) v11 v12 v13 v14 v15 v16 v17):=λY v11 v12 v13 v14 v15 v16 v17=>by
  have N:=wf (e:=EW A (some (.sh (.lst (cs.map D.int)))) C (some (.ag kH none (hP K (p++[s])))) s.1 (some (.sh (.int m))) Y v7 v8 v9 (some (.sh (.lst (iD (gm ts))))) v11 v12 v13 v14 v15 v16 v17) (j:=4) (ss:=s.1) rfl;have u:=pz (e:=EW A (some (.sh (.lst (cs.map D.int)))) C (some (.ag kH none (hP K (p++[s])))) s.1 (some (.sh (.int m))) Y v7 v8 v9 (some (.sh (.lst (iD (gm ts))))) v11 v12 v13 v14 v15 v16 v17) (j:=10) (d:=.lst (iD (gm ts))) rfl;unfold fFrz;simp only[er,bz,fVar,fNil,N,u,io,ac,ao,noL,if_true]
 have f2:∀v12 v13 v14 v15 v16 v17,oz false (gz ze6 (bz (fVar 4) (bz (fBin h9 (fBin dMul (fIxV 1 (fC (.int 6))) (fC (.int 2147483647))) (fIxV 1 (fC (.int 7)))) fNil))) (EW A (some (.sh (.lst (cs.map D.int)))) C (some (.ag kH none (hP K (p++[s])))) s.1 (some (.sh (.int m))) v6 v7 v8 v9 (some (.sh (.lst (iD (gm ts))))) none v12 v13 v14 v15 v16 v17)=some (iD os,EW A (some (.sh (.lst (cs.map D.int)))) C (some (.ag kH none (hP K (p++[s])))) s.1 (some (.sh (.int m))) v6 v7 v8 v9 (some (.sh (.lst (iD (gm ts))))) none v12 v13 v14 v15 v16 v17):=λv12 v13 v14 v15 v16 v17=>by
  have N:=wf (e:=EW A (some (.sh (.lst (cs.map D.int)))) C (some (.ag kH none (hP K (p++[s])))) s.1 (some (.sh (.int m))) v6 v7 v8 v9 (some (.sh (.lst (iD (gm ts))))) none v12 v13 v14 v15 v16 v17) (j:=4) (ss:=s.1) rfl;have g1:=pz (e:=EW A (some (.sh (.lst (cs.map D.int)))) C (some (.ag kH none (hP K (p++[s])))) s.1 (some (.sh (.int m))) v6 v7 v8 v9 (some (.sh (.lst (iD (gm ts))))) none v12 v13 v14 v15 v16 v17) (j:=1) (d:=.lst (cs.map D.int)) rfl;unfold oz;simp only[gz,bz,fVar,fNil,fBin,fIxV,ixSl,fC,h9,N,g1,a6,a7,mf,aa,noLs_i,ac,ao,if_true]
 have f3:∀Y I U V,fFrz false (fBin dNe (fVar 16) (fBin dSub (er xl (bz (er xp (bz (fVar 4) (bz (fVar 11) fNil))) fNil)) (er xl (bz (er xp (bz (fVar 4) (bz (fVar 10) fNil))) fNil)))) (EW A (some (.sh (.lst (cs.map D.int)))) C (some (.ag kH none (hP K (p++[s])))) s.1 (some (.sh (.int m))) Y v7 v8 v9 (some (.sh (.lst (iD (gm ts))))) (some (.sh (.lst (iD os)))) (some (.ow (R.map iT))) I U V (some (.sh (.int mo))) none)=some (.bl false,EW A (some (.sh (.lst (cs.map D.int)))) C (some (.ag kH none (hP K (p++[s])))) s.1 (some (.sh (.int m))) Y v7 v8 v9 (some (.sh (.lst (iD (gm ts))))) (some (.sh (.lst (iD os)))) (some (.ow (R.map iT))) I U V (some (.sh (.int mo))) none):=λY I U V=>by
  obtain⟨E,hE⟩:∃E,E=EW A (some (.sh (.lst (cs.map D.int)))) C (some (.ag kH none (hP K (p++[s])))) s.1 (some (.sh (.int m))) Y v7 v8 v9 (some (.sh (.lst (iD (gm ts))))) (some (.sh (.lst (iD os)))) (some (.ow (R.map iT))) I U V (some (.sh (.int mo))) none:=⟨_,rfl⟩;rw[<-hE];have N:=wf (e:=E) (j:=4) (ss:=s.1) (by rw[hE];rfl);have u:=pz (e:=E) (j:=10) (d:=.lst (iD (gm ts))) (by rw[hE];rfl);have a8:=pz (e:=E) (j:=11) (d:=.lst (iD os)) (by rw[hE];rfl);have a9:=pz (e:=E) (j:=16) (d:=.int mo) (by rw[hE];rfl);unfold fFrz;simp only[fBin,er,bz,fVar,fNil,N,u,a8,a9,t1,t2,c1,c2,dSub,P,dNe,decide_true,km,noL,ac,ao,if_true]
 have f4:∀Y I U V,fFrz false (er zcx (bz (fIxV 17 (fC (.int 1))) (bz (fVar 12) fNil))) (EW A (some (.sh (.lst (cs.map D.int)))) C (some (.ag kH none (hP K (p++[s])))) s.1 (some (.sh (.int m))) Y v7 v8 v9 (some (.sh (.lst (iD (gm ts))))) (some (.sh (.lst (iD os)))) (some (.ow (R.map iT))) I U V (some (.sh (.int mo))) (some (.sh (.tup Q))))=some (.bl true,EW A (some (.sh (.lst (cs.map D.int)))) C (some (.ag kH none (hP K (p++[s])))) s.1 (some (.sh (.int m))) Y v7 v8 v9 (some (.sh (.lst (iD (gm ts))))) (some (.sh (.lst (iD os)))) (some (.ow (R.map iT))) I U V (some (.sh (.int mo))) (some (.sh (.tup Q)))):=λY I U V=>by
  obtain⟨E,hE⟩:∃E,E=EW A (some (.sh (.lst (cs.map D.int)))) C (some (.ag kH none (hP K (p++[s])))) s.1 (some (.sh (.int m))) Y v7 v8 v9 (some (.sh (.lst (iD (gm ts))))) (some (.sh (.lst (iD os)))) (some (.ow (R.map iT))) I U V (some (.sh (.int mo))) (some (.sh (.tup Q))):=⟨_,rfl⟩;rw[<-hE];have ba:=frz_ow (e:=E) (j:=12) (ds:=R.map iT) (by rw[hE];rfl);have bb:=pz (e:=E) (j:=17) (d:=.tup Q) (by rw[hE];rfl);unfold fFrz;simp only[er,bz,fVar,fNil,fIxV,ixSl,fC,ba,bb,q1,sr,noL,ac,ao,if_true]
 have gq:=λY I U V=>zrp (m:=ze) (F:=bz (fLst (gz qd (bz (fVar 11) fNil))) fNil) (e:=EW A (some (.sh (.lst (cs.map D.int)))) C (some (.ag kH none (hP K (p++[s])))) s.1 (some (.sh (.int m))) Y v7 v8 v9 (some (.sh (.lst (iD (gm ts))))) (some (.sh (.lst (iD os)))) (some (.ow (R.map iT))) I U V (some (.sh (.int mo))) none) (i:=3) (l:=none) (ps:=hP K (p++[s])) rfl (r:=([.lst (iD os)],EW A (some (.sh (.lst (cs.map D.int)))) C (some (.ag kH none (hP K (p++[s])))) s.1 (some (.sh (.int m))) Y v7 v8 v9 (some (.sh (.lst (iD (gm ts))))) (some (.sh (.lst (iD os)))) (some (.ow (R.map iT))) I U V (some (.sh (.int mo))) none)) rfl rfl;simp only[show[((kH,hP K (p++[s])):Ag)]=[hA K (p++[s])] from rfl,ag,ao] at gq;have fk:∀(f:FE) Y I U V,fK kH 3 f (EW A (some (.sh (.lst (cs.map D.int)))) C (some (.ag kH none (hP K (p++[s])))) s.1 (some (.sh (.int m))) Y v7 v8 v9 (some (.sh (.lst (iD (gm ts))))) (some (.sh (.lst (iD os)))) (some (.ow (R.map iT))) I U V (some (.sh (.int mo))) none)=f (EW A (some (.sh (.lst (cs.map D.int)))) C (some (.ag kH none (hP K (p++[s])))) s.1 (some (.sh (.int m))) Y v7 v8 v9 (some (.sh (.lst (iD (gm ts))))) (some (.sh (.lst (iD os)))) (some (.ow (R.map iT))) I U V (some (.sh (.int mo))) none):=λf Y I U V=>x0 (l:=none) (ps:=hP K (p++[s])) rfl;refine j4 (e':=EW A (some (.sh (.lst (cs.map D.int)))) C (some (.ag kH none (hP K (p++[s])))) s.1 (some (.sh (.int m))) Y v7 v8 v9 (some (.sh (.lst (iD (gm ts))))) (some (.sh (.lst (iD os)))) (some (.ow (R.map iT))) I U V (some (.sh (.int mo))) (some (.sh (.tup Q)))) rfl ?_;rw[show jw 18 [D.lst (ns.map D.int)]=[some (.sh (.lst (ns.map D.int))),none,none,none,none,none,none,none,none,none,none,none,none,none,none,none,none,none] from rfl];unfold EW at *;unfold EV at *;rw[jh] at h1;subst eA eC;unfold z41;rw[show(AK.ins false "House" lz)=kH from rfl];generalize R.map (λr=>D.int (r3 r))=R3 at *;generalize R.map iT=RT at *;generalize iD (gm ts)=OL at *;generalize iD os=OS at *;generalize hP K (p++[s])=HP at *;generalize hP [] [newS n]=HP0 at *;generalize dsO (newS n).1=SL0 at *;generalize dsO s.1=SL at *;generalize (flat ts).length=tl at *;generalize ns.map D.int=NS at *;generalize cs.map D.int=CS at *;generalize rngD 0 n=RN at *;generalize rngD 0 tl=RT2 at *;simp only[sSeq,sSet,sOwn,uj,zm,ut,er,gz,bz,fVar,fC,fNil,af,ah,ay,ax,cy,ac,ao,hd,fIxV,ixSl,a0,hm,mk,g,hf,c0,sFor,h1,oq,sIf,fNot,fTst,f1,f2,f3,f4,h2,km,Bool.not_false,dc,if_false,if_true,sNil,fLst,il,cg,dy,jk,lT,a5,ju,fiV,a3,L,bs,fk,gq,fIsi,isiT,tyD,beq_self_eq_true,Bool.true_or,fOr,fBin,dNe,q3,decide_true,fCat,fw,bm,dLt,dM,aw,sRet,vz,q0,wm,dEq,show(0+1<=64)=True by simp]
end SQ
end
open PySem PySem.W PyProof.Rows
open L2 (us1 us2 us3 us4 us5)
theorem PySem.Challenge.cw_rotstacks_k37_whole_no_sack_on_another_holds : PySem.Challenge.rw_rotstacks_k37_whole_no_sack_on_another.Holds := by
 refine headO ?_
 k_fill
 refine L2.walkD (k:=9) (s:="_law_script") (l:=PySem.Challenge.rw_rotstacks_k37_whole_no_sack_on_another) ⟨rfl,by decide,by decide⟩ rfl rfl (λw h Y=>PySem.W.kIn_of Y) ?F;case F =>
  intro w mg fa h KX G hmg;refine' L2.law_mk KX G hmg ?a ?l ?c ?k ?b (SQ.ok_all _ _ _ _ _ _ _ _ _ _ _ _ _ _ _ _ _ _ _ _ _ _ _ _ _ _ _ _ _ _ _ _ _ _ _ _ _ _ _ _ _ _ _ _ _ _ _ _ _ _ _ _ _ _ _ _ ?hhC _ _ _ _ _ _ _ _ _ _ _ _ _ _ _ _ _ _ _ _ _ _ _ _ _ _ _ _ _ _) SQ.good
  (case a=>k_is)
  (case l=>k_is)
  (case c=>k_is)
  (case k=>k_is)
  (case b=>exact λv=>rfl)
  (case hhC=>unfold L2.Cl;k_is)
  all_goals first | (refine' L2.def_mk (by assumption) (by assumption) ?a ?l ?c ?k ?b;(case a=>k_is);(case l=>k_is);(case c=>k_is);(case k=>k_is);(case b=>first | exact us1 λ_=>rfl | exact us2 λ_ _=>rfl | exact us3 λ_ _ _=>rfl | exact us4 λ_ _ _ _=>rfl | exact us5 λ_ _ _ _ _=>rfl)) | (refine' L2.mef_mk ?a ?l ?c ?k ?i ?b;(case a=>k_is);(case l=>k_is);(case c=>k_is);(case k=>k_is);(case i=>k_is);(case b=>first | exact us1 λ_=>rfl | exact us2 λ_ _=>rfl | exact us3 λ_ _ _=>rfl | exact us4 λ_ _ _ _=>rfl | exact us5 λ_ _ _ _ _=>rfl)) | exact⟨by k_is,by k_is,by k_is,by k_is⟩ | exact PySem.W.mg_none_of KX G (by k_is) | exact ki KX G (by k_is) | (refine' L2.exc_mk KX G ?a ?b (by decide +kernel);(case a=>k_is);(case b=>k_exc)) | (refine' L2.con_mk KX G ?a;(case a=>k_is)) | k_is

