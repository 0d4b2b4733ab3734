import PyProof.Rows.All
import Wide.All
import OpenK.AllK
import Wide.FinOn
import Lean
import PyProof.EqAt
import PyProof.EqKinds
import PyProof.TupleCall
import PyProof.Draws
import PyProof.ZipIter
import PyProof.EnumMake
import PyProof.AttrMissHeap
import KE.KDictOf
import PyProof.Rows.SeqMore2
import PyProof.Rows.SortWalk
import KE.KTryMore
import PyProof.RulesAs
import PyProof.NsDelKeeps
import KE.KIsAll
import PyProof.ExcArgs
import PySem.Challenge.RW_rotstacks_k14_least_of_all
set_option Elab.async false
set_option linter.all false
set_option maxRecDepth 100000
set_option compiler.extract_closed false
set_option bootstrap.genMatcherCode false
local macro_rules | `(command|@[simp] def $i:declId $s:optDeclSig $v:declVal)=>`(command|@[simp] noncomputable def $i:declId $s:optDeclSig $v:declVal)
local macro_rules | `(command|def $i:declId $s:optDeclSig $v:declVal)=>`(command|noncomputable def $i:declId $s:optDeclSig $v:declVal)
set_option maxHeartbeats 0
def ab:=@Option.bind_some
def ac:=@List.length_map
def ae:=@List.getD_eq_getElem?_getD
def af:=@List.getElem?_cons_succ
def ah:=@List.getElem?_cons_zero
def ai:=@List.getElem?_eq_getElem
def aj:=@List.length_append
def ak:=@List.mem_cons_of_mem
def am:=@List.getElem?_eq_some_iff
def aq:=@Option.map_some
def au:=@List.mem_cons_self
def av:=@List.length_cons
def aw:=@List.set_cons_zero
def ay:=@List.set_cons_succ
def az:=@Option.some.inj
def a0:=@List.size_toArray
def ba:=@Nat.lt_of_lt_of_le
def bc:=@PySem.Heap.get?_push_of_some
def bg:=@Nat.le_refl
def bh:=@Nat.le_trans
def bi:=@List.mem_map
def bj:=@PySem.Heap.lt_size
def bn:=@List.mem_append_right
def bo:=@List.map_cons
def bq:=@List.mem_of_getElem?
def bu:=@Bool.false_ne_true
def bv:=@List.getElem?_map
def bx:=@List.flatten_cons
def bz:=@Nat.ne_of_lt
def b6:=@List.lookup_cons
def b7:=@List.map_append
def b8:=@List.mem_cons
def b9:=@List.append_assoc
def ca:=@List.append_nil
def cb:=@PySem.Heap.get?_push_size
def ce:=@List.getElem?_append_left
def cf:=@List.sublist_flatten_of_mem
def cg:=@List.mem_flatten
def cq:=@Bool.false_eq_true
def cr:=@List.length_singleton
def cu:=@List.getElem?_eq_none
def cv:=@Option.bind_eq_some_iff
def cw:=@List.length_nil
def cx:=@List.mem_range
def db:=@List.mem_append_left
def de:=@List.mem_singleton
def df:=@PySem.W.kia_one
def dh:=@List.mem_append
def di:=@List.map_nil
def dm:=@List.map_map
def dn:=@List.length_take
def dq:=@PySem.mem_of_lookup
def du:=@List.singleton_append
def dw:=@List.sum_cons
def dy:=@PySem.F.plainAttrs_list
def dz:=@Nat.lt_succ_self
def d3:=@List.getElem?_set_ne
def d4:=@PyProof.Rows.callWith_type1
def d5:=@List.map_eq_nil_iff
def d6:=@List.length_flatten
def d7:=@List.flatten_append
def d8:=@List.length_set
def ee:=@Int.mul_le_mul_of_nonneg_right
def eg:=@Int.zero_add
def eh:=@Nat.zero_le
def eo:=@List.map_congr_left
def e7:=@List.getElem?_set_self
def e8:=@List.filter_eq_nil_iff
def e9:=@List.cons_append
def fc:=@List.pairwise_cons
def ff:=@List.length_replicate
def fg:=@List.drop_eq_getElem_cons
def fj:=@List.range_succ
def fm:=@List.count_cons_self
def fo:=@Int.toNat_natCast
def fq:=@Int.mul_add
def ft:=@Array.length_toList
def fu:=@List.not_mem_nil
def fx:=@Int.mul_comm
def fy:=@List.nodup_cons
def fz:=@List.mem_filter
def f8:=@Nat.lt_irrefl
def f9:=@Int.mul_assoc
def gc:=@Nat.lt_succ_of_lt
def gf:=@List.ext_getElem?
def gh:=@List.getElem?_append_right
def gi:=@Int.add_mul
def gl:=@Nat.succ_pos
def gm:=@List.all_eq_true
def gp:=@List.replicate_succ
def gq:=@List.length_pos_iff
def gy:=@List.sum_eq_zero_iff_forall_eq_nat
def gz:=@List.filter_append
def g6:=@Int.le_refl
def g8:=@Option.map_eq_some_iff
def g9:=@List.take_of_length_le
def h9:=@List.length_range
def ia:=@List.count_append
def ie:=@List.takeWhile_append_dropWhile
def ig:=@List.getElem_mem
def ii:=@List.drop_length
def ij:=@Bool.and_eq_true
def im:=@List.take_append_of_le_length
def io:=@List.pairwise_append
def ir:=@List.getElem?_range
def iu:=@Nat.zero_add
def iz:=@List.map_singleton
def i3:=@List.count_reverse
def i4:=@Int.le_of_mul_le_mul_right
def i6:=@Nat.add_mul_mod_self_left
def i8:=@List.reverse_cons
def i9:=@List.pairwise_map
def ja:=@List.getElem?_set
def jf:=@Nat.le_of_not_lt
def jg:=@List.take_length
def jh:=@List.filter_cons_of_pos
def ji:=@List.filter_cons_of_neg
def jm:=@List.of_mem_zip
def jo:=@List.count_cons
def jp:=@Bool.eq_iff_iff
def ju:=@List.take_append_drop
def jv:=@List.eq_nil_or_concat
def jw:=@List.count_cons_of_ne
def jx:=@List.concat_eq_append
def j1:=@Nat.sub_succ_lt_self
def j2:=@Nat.pow_le_pow_right
def j3:=@Nat.add_mul_div_left
def j4:=@List.take_left
def j5:=@List.reverse_reverse
def j6:=@List.mem_of_mem_take
def j7:=@Int.mul_nonneg
def kb:=@List.getD_cons_zero
def kc:=@List.filterMap_cons
def kg:=@PySem.W.mg_of
def kh:=@List.cons.inj
def ki:=@Int.add_assoc
def kj:=@Int.mul_right_comm
def kl:=@Int.emod_lt_of_pos
def kw:=@PySem.W.kitx_list
def kx:=@Nat.succ.inj
def ky:=@Nat.ne_of_gt
def kz:=@Nat.lt_of_succ_le
def k3:=@Nat.le_of_lt
def k4:=@Bool.not_eq_true'
def li:=@List.eraseIdxIfInBounds_toArray
def lr:=@Nat.succ_le_succ
def lv:=@Nat.mod_eq_of_lt
def lw:=@Nat.div_eq_of_lt
def lx:=@List.perm_middle
def ly:=@List.mem_reverse
def lz:=@List.map_snd_zip
def l0:=@List.length_drop
def mh:=@List.eq_nil_of_length_eq_zero
def mj:=@List.count_eq_zero_of_not_mem
def ml:=@Int.mul_le_mul_of_nonneg_left
def my:=@Nat.mod_add_div
def mz:=@Nat.le_antisymm
def m4:=@List.nil_append
def m6:=@Int.emod_nonneg
def nz:=@List.getElem?_concat_length
def oy:=@Nat.mod_lt
def oz:=@List.take_succ
def o0:=@List.nodup_iff_pairwise_ne
def qx:=@PySem.F.type_list_append
def qy:=@PySem.F.slot_list_append
def qz:=@List.map_take
def t4:=@List.getElem?_replicate
def t5:=@List.eraseIdx_cons_succ
abbrev bt:=List PySem.Str
abbrev b0:=List PySem.Value
abbrev b2:=Option PySem.Value
abbrev b4:=List PySem.Addr
abbrev b5:=List Nat
abbrev cc:=List Int
abbrev cd:=List PySem.Env
abbrev ci:=List PySem.Expr
abbrev cm:=Option PySem.Str
abbrev da:=Option Int
abbrev dc:=PySem.W.Frag
abbrev dt:=List (PySem.Addr×PySem.Obj)
abbrev eb:=Array PySem.Value
namespace PySem.W.Fast
def tw13184622150755146257:=0
def tw12228147544654841872:=0
def tw3301900299095288138:=0
def tw14726039395708169042:=0
def tw8750706357444734042:=0
def tw11695338289939695011:=0
def tw11281214088086372846:=0
def tw18082950596058812086:=0
def tw14375272207224854766:=0
def tw11276991364880623187:=0
def tw15974327944981590682:=0
def tw5276463441047106903:=0
def tw15359102603107413231:=0
def tw8733693490319877307:=0
def tw12791392028554949626:=0
def tw13615431965992697423:=0
def tw8140187065305788796:=0
def tw7753557234431668989:=0
def tw10843531812203080730:=0
def tw16359311613717473350:=0
def tw13039843896363346800:=0
def tw6276198620921834515:=0
def tw17806559798037380195:=0
def tw7550565278720862832:=0
def tw189144516369473838:=0
def tw3198611166169939942:=0
def tw1818741713449625889:=0
def tw8864141805567143515:=0
def tw11514965064213606460:=0
def tw14434645473729482494:=0
def tw8591202846033229865:=0
def tw1100227391971026961:=0
def tw2824953636588753854:=0
def tw7203798550950037231:=0
def tw8860451591181354368:=0
def tw7027161504191823226:=0
def tw5346366755811755404:=0
def tw13034153179754800167:=0
def tw1791896970342499120:=0
def tw8132564728747547695:=0
def tw9274248297696571190:=0
def tw4730779231596670380:=0
def tw12753231255117558486:=0
def tw4895425382642465790:=0
def tw13720367999651837026:=0
def tw3430228630206576119:=0
def tw14584273011410283914:=0
def tw12978444730273849538:=0
def tw587545333870980003:=0
def tw16784015904583153738:=0
def tw113418834073767240:=0
def tw5967039926259306271:=0
def tw15594794917597159775:=0
def tw12269178056795562494:=0
def tw17134667622271701769:=0
def tw13617027138147984029:=0
def tw15146276678955778912:=0
def tw15509039178638469261:=0
def tw11462230743417447401:=0
def tw15974428737142519235:=0
end PySem.W.Fast
open_top headO for PySem.Challenge.rw_rotstacks_k14_least_of_all
noncomputable section
namespace L2
open PySem PySem.Spec PyProof.Rows
abbrev Key:=Sum Int Str
def zt2:Key->Value->Bool
 | .inl k,v=>Value.isInt k v | .inr x,v=>Value.isStrOf x v
def keyH(w:World):Key->Int
 | .inl k=>hashInt k | .inr x=>hashStr w x
def nr:∀ {k:Key} {v:Value},zt2 k v=true->(∃i t,k=Sum.inl i/\v=Value.int i t)\/(∃x t,k=Sum.inr x/\v=Value.str x t)
 | .inl i,v,h=>by
   obtain⟨t,e⟩:=Value.isInt_shape (k:=i) (v:=v) h;exact .inl ⟨i,t,rfl,e⟩
 | .inr x,v,h=>by
   obtain⟨t,e⟩:=Value.isStrOf_shape (x:=x) (v:=v) h;exact .inr ⟨x,t,rfl,e⟩
def zt3(a b:Int):decide ((Sum.inl a:Key)=Sum.inl b)=(a==b):=by
 by_cases e:a=b
 ·subst e;simp
 ·have h:¬(Sum.inl a:Key)=Sum.inl b:=λq=>e (Sum.inl.inj q)
  rw[decide_eq_false h];exact(beq_eq_false_iff_ne.mpr e).symm
def zt4(a b:Str):decide ((Sum.inr a:Key)=Sum.inr b)=decide (a=b):=by
 by_cases e:a=b
 ·subst e;simp
 ·have h:¬(Sum.inr a:Key)=Sum.inr b:=λq=>e (Sum.inr.inj q)
  rw[decide_eq_false h,decide_eq_false e]
def zt5(a:Int)(b:Str):decide ((Sum.inl a:Key)=Sum.inr b)=false:=decide_eq_false (λq=>nomatch q)
def zt6(a:Str)(b:Int):decide ((Sum.inr a:Key)=Sum.inl b)=false:=decide_eq_false (λq=>nomatch q)
def zmq(prog:Program)(w:World):PySem.KeyKind prog w Key where
 is:=zt2
 hash:=keyH w
 inj:=λv a b I D=>by
  rcases nr I with⟨i,t,rfl,rfl⟩ | ⟨x,t,rfl,rfl⟩
  ·rcases nr D with⟨j,u,rfl,e⟩ | ⟨y,u,rfl,e⟩
   ·injection e with e1 _;rw[e1]
   ·exact nomatch e
  ·rcases nr D with⟨j,u,rfl,e⟩ | ⟨y,u,rfl,e⟩
   ·exact nomatch e
   ·injection e with e1 _;rw[e1]
 byValue:=λk v h=>by
  rcases nr h with⟨i,t,rfl,rfl⟩ | ⟨x,t,rfl,rfl⟩ <;> rfl
 pyHash:=λz h=>by
  rcases nr z with⟨i,t,rfl,rfl⟩ | ⟨x,t,rfl,rfl⟩
  ·exact wpAny_pyHash_int h
  ·exact wpAny_pyHash_str h
 eqBool:=λJ z h=>by
  rcases nr J with⟨i,t,rfl,rfl⟩ | ⟨x,t,rfl,rfl⟩
  ·rcases nr z with⟨j,u,rfl,rfl⟩ | ⟨y,u,rfl,rfl⟩
   ·rw[zt3] at h;exact wpAny_eqBool_int h
   ·rw[zt5] at h;exact SeqAt.EqAt.int_str i t y u _ _ _ _ h
  ·rcases nr z with⟨j,u,rfl,rfl⟩ | ⟨y,u,rfl,rfl⟩
   ·rw[zt6] at h;exact SeqAt.EqAt.str_int x t j u _ _ _ _ h
   ·rw[zt4] at h;exact wpAny_eqBool_str h
 «strs»:=λk x t v h=>by
  rcases nr h with⟨i,u,rfl,e⟩ | ⟨y,u,rfl,e⟩
  ·exact nomatch e
  ·injection e with e1 _
   subst e1;cases v <;> rfl
inductive V where
 |non |bl (b:Bool) |int (i:Int) |str (x:Str) |byt (b:Array UInt8) |flt (b:UInt64) |ref (a:Addr) |ty (n:String)
 deriving DecidableEq
abbrev ed:=List V
def RelV:V->Value->Prop
 | .non,u=>u=Value.none | .bl b,u=>u=Value.bool b | .int i,u=>∃t,u=Value.int i t
 | .str x,u=>∃t,u=Value.str x t | .byt b,u=>∃t,u=Value.bytes b t | .flt b,u=>∃t,u=Value.float b t | .ref a,u=>u=Value.ref a | .ty n,u=>u=Value.type n
abbrev Vals:ed->b0->Prop:=Paired RelV
def Vals.length{xs:ed}{us:b0}(r:Vals xs us):xs.length=us.length:=Paired.length r
def Vals.get:∀ {xs:ed} {us:b0} {i:Nat} {x:V},Vals xs us->xs[i]?=some x->∃u,us[i]?=some u/\RelV x u
 |_,_,_,_,.nil,e=>by simp at e |_,_,0,_,.cons r _,e=>by simp at e;subst e;exact⟨_,rfl,r⟩ |_,_,i+1,x,.cons _ t,e=>by
   obtain⟨u,h1,h2⟩:=Vals.get (i:=i) (x:=x) t (by simpa using e);exact⟨u,by simpa using h1,h2⟩
def Vals.set{x:V}{u:Value}(r:RelV x u):∀ {xs:ed} {us:b0} (i:Nat),Vals xs us->Vals (xs.set i x) (us.set i u)
 |_,_,_,.nil=>.nil |_,_,0,.cons _ t=>.cons r t |_,_,i+1,.cons q t=>.cons q (Vals.set r i t)
variable{xs ys:ed}{us:b0}
def Vals.append{z:b0}(h:Vals xs us)(s:Vals ys z):Vals (xs++ys) (us++z):=by
 induction h with
 |nil=>exact s |cons r _ q=>exact .cons r q
def Vals.take:∀ {xs:ed} {us:b0} (n:Nat),Vals xs us->Vals (xs.take n) (us.take n)
 |_,_,0,_=>.nil |_,_,_+1,.nil=>.nil |_,_,n+1,.cons r t=>.cons r (Vals.take n t)
def Vals.drop:∀ {xs:ed} {us:b0} (n:Nat),Vals xs us->Vals (xs.drop n) (us.drop n)
 |_,_,0,r=>r |_,_,_+1,.nil=>.nil |_,_,n+1,.cons _ t=>Vals.drop n t
def RelO:Option V->b2->Prop
 |some v,some u=>RelV v u |none,none=>True |_,_=>False
def KV{κ:Type}:List (κ×V)->List (κ×Value)->Prop:=Paired λ(p:κ×V) (q:κ×Value)=>p.1=q.1/\RelV p.2 q.2
def kV:Key->V
 | .inl i=>.int i
 | .inr x=>.str x
inductive HO where
 |lst (xs:ed)
 |tup (xs:ed)
 |dK (kvs:List (Key×V)) |dT (kvs:List (List Key×V))
 |set (S:Int->Bool) (n:Nat)
 |ins (C dx:Addr) (fs:List (Str×V))
 |own (x:Addr)
 |xd (fs:List (Str×V))
 |met (f x:Addr)
 |rng (lo hi:Int)
 |frz (o:Obj) (u:HO)
 |tbl (ps:eb)
 |ext (φ:Heap->Prop)
abbrev Hp:=Addr->Option HO
def upd(H:Hp)(a:Addr)(o:HO):Hp:=λb=>if b=a then some o else H b
variable{H:Hp}{a:Addr}{o:HO}
def km:upd H a o a=some o:=by unfold upd;rw[if_pos rfl]
variable{b:Addr}
def ic(h:b≠a):upd H a o b=H b:=by unfold upd;rw[if_neg h]
def lh(h:H a=some o)(h':H b=none):a≠b:=by
 intro e;subst e;rw[h] at h';cases h'
section
variable (P:Program) (w:World)
def ObjOk(H:Hp)(h:Heap)(a:Addr):HO->Prop
 | .lst xs=>xs.length<=sizeLine/\∃(its:b0) (n:Nat),Vals xs its/\h.get? a=some { cls:=.type "list",data:=.seq its.toArray n } | .tup xs=>xs.length<=sizeLine/\∃its:b0,Vals xs its/\IsTup h a its.toArray | .dK kvs=>kvs.length<=sizeLine/\(a==sysModules)=false/\∃vs,KV kvs vs/\h.DictOf (zmq P w) a vs | .dT kvs=>kvs.length<=sizeLine/\(a==sysModules)=false/\∃xs:List (List Key×Addr×Value),
    Paired (λ(p:List Key×V) (q:List Key×Addr×Value)=>p.1=q.1/\H q.2.1=some (.tup (p.1.map kV))/\RelV p.2 q.2.2) kvs xs /\
    ∃o es z,h.get? a=some o/\o.ExactDict/\o.data=.dict es z/\es.toList=xs.map (entryOfKey (tupleKind (zmq P w)))/\(xs.map (·.1)).Nodup
 | .set S n=>h.SetOf (intKind P w) a S n | .ins C dx fs=>H dx=some (.own a)/\fs.length<=1000/\dx≠a/\h.get? a=some (PySem.W.instObj C dx) /\
    ∃mA,h.Ns1 dx mA/\(∀f,RelO (fs.lookup f) (mA f))/\PySem.Within mA (fs.map (·.1))
 | .own _=>∃o,h.get? a=some o | .xd fs=>∃mA,h.Ns1 a mA/\∀f,RelO (fs.lookup f) (mA f) | .rng lo hi=>∃t u v,h.get? a=some { cls:=.type "range",data:=.fields #[.int lo t,.int hi u,.int 1 v] } | .frz o u=>h.get? a=some o/\ObjOk H h a u | .tbl ps=>h.get? a=some { cls:=.none,data:=.fields ps } | .met f x=>h.get? a=some (PySem.W.methodObj (.ref f) (.ref x)) | .ext φ=>φ h/\(∃o,h.get? a=some o)/\∀h1 h2:Heap,φ h1->(∀o,h1.get? a=some o->h2.get? a=some o)->φ h2
def HOk(H:Hp)(h:Heap):Prop:=∀a o,H a=some o->ObjOk P w H h a o
end
variable{P:Program}{w:World}{h:Heap}
def ObjOk.lt(x:ObjOk P w H h a o):a<h.objs.size:=by
 cases o with
 |lst xs=>obtain⟨_,_,_,_,e⟩:=x;exact bj e |tup xs=>obtain⟨_,_,_,p⟩:=x;exact p.lt |dK kvs=>obtain⟨_,_,_,_,o,_,_,e,_⟩:=x;exact bj e |dT kvs=>obtain⟨_,_,_,_,o,_,_,e,_⟩:=x;exact bj e |set S n=>obtain⟨o,_,_,_,e,_⟩:=x;exact bj e |ins C dx fs=>obtain⟨_,_,_,e,_⟩:=x;exact bj e |own y=>obtain⟨_,e⟩:=x;exact bj e |xd fs=>obtain⟨_,⟨_,_,_,e,_⟩,_⟩:=x;exact bj e |rng lo hi=>obtain⟨_,_,_,e⟩:=x;exact bj e |frz ob u=>obtain⟨e,_⟩:=x;exact bj e |tbl ps=>exact bj (show h.get? a=some _ from x) |met f y=>exact bj (show h.get? a=some _ from x) |ext φ=>obtain⟨_,⟨_,e⟩,_⟩:=x;exact bj e
variable{α:Type}
def Paired.mapP{β:Type}{F G:α->β->Prop}{z:List α}{D:List β}(h:Paired F z D)(f:∀a b,F a b->G a b):Paired G z D:=by
 induction h with
 |nil=>exact .nil |cons r _ q=>exact .cons (f _ _ r) q
variable{H':Hp}{h':Heap}
def ObjOk.stay(x:ObjOk P w H h a o)(k:∀b u,(b=a\/H b=some (.own a))->h.get? b=some u->h'.get? b=some u)(J:∀b,H b=some (.own a)->H' b=some (.own a))(L:∀b xs,H b=some (.tup xs)->H' b=some (.tup xs)):ObjOk P w H' h' a o:=by
 induction o with
 |lst xs=>obtain⟨z,its,n,r,e⟩:=x;exact⟨z,its,n,r,k _ _ (.inl rfl) e⟩ |tup xs=>obtain⟨z,its,r,D,e,c⟩:=x;exact⟨z,its,r,D,k _ _ (.inl rfl) e,c⟩ |dK kvs=>obtain⟨z,y,vs,r,D,es,I,e,c⟩:=x;exact⟨z,y,vs,r,D,es,I,k _ _ (.inl rfl) e,c⟩ |dT kvs =>
   obtain⟨z,y,xs,r,D,es,I,e,c⟩:=x;exact⟨z,y,xs,Paired.mapP r λp q z=>⟨z.1,L _ _ z.2.1,z.2.2⟩,D,es,I,k _ _ (.inl rfl) e,c⟩
 |set S n=>obtain⟨D,es,I,t,e,c⟩:=x;exact⟨D,es,I,t,k _ _ (.inl rfl) e,c⟩ |ins C dx fs =>
   obtain⟨d,z,R,e,mA,⟨od,es,I,U,c⟩,r⟩:=x;exact⟨J _ d,z,R,k _ _ (.inl rfl) e,mA,⟨od,es,I,k _ _ (.inr d) U,c⟩,r⟩
 |own y=>obtain⟨D,e⟩:=x;exact⟨D,k _ _ (.inl rfl) e⟩ |xd fs=>obtain⟨mA,⟨od,es,I,e,c⟩,r⟩:=x;exact⟨mA,⟨od,es,I,k _ _ (.inl rfl) e,c⟩,r⟩ |rng lo hi=>obtain⟨t,u,v,e⟩:=x;exact⟨t,u,v,k _ _ (.inl rfl) e⟩ |frz D u ih=>obtain⟨e,q⟩:=x;exact⟨k _ _ (.inl rfl) e,ih q⟩ |tbl ps =>
   have e:h.get? a=some { cls:=.none,data:=.fields ps }:=x;show h'.get? a=some { cls:=.none,data:=.fields ps };exact k a _ (.inl rfl) e
 |met f y =>
   have e:h.get? a=some (PySem.W.methodObj (.ref f) (.ref y)):=x;show h'.get? a=some (PySem.W.methodObj (.ref f) (.ref y));exact k a _ (.inl rfl) e
 |ext φ=>obtain⟨p,⟨o,e⟩,st⟩:=x;exact⟨st _ _ p λo q=>k _ _ (.inl rfl) q,⟨o,k _ _ (.inl rfl) e⟩,st⟩
def HOk.lt(x:HOk P w H h)(e:H a=some o):a<h.objs.size:=(x a o e).lt
def HOk.fresh(x:HOk P w H h)(e:h.objs.size<=a):H a=none:=by
 cases q:H a with
 |none=>rfl |some u=>exact absurd (ba (x.lt q) e) (f8 _)
def HOk.kept(x:HOk P w H h)(k:∀b u,h.get? b=some u->h'.get? b=some u):HOk P w H h':=λa o e =>
 (x a o e).stay (λb u _ q=>k b u q) (λ_ q=>q) λ_ _ q=>q
def HOk.laid(x:HOk P w H h)(k:∀b u,h.get? b=some u->h'.get? b=some u)(J:h.objs.size<=a)(z:ObjOk P w (upd H a o) h' a o):HOk P w (upd H a o) h':=λb u e=>by
 have D:=x.fresh J;by_cases I:b=a
 ·subst I;rw[km] at e;cases e;exact z
 ·rw[ic I] at e
  exact(x b u e).stay (λc v _ q=>k c v q) (λc q=>by rw[ic (lh q D)];exact q) λc xs q=>by rw[ic (lh q D)];exact q
def Rd(H:Hp)(a:Addr)(u:HO):Prop:=H a=some u\/∃o,H a=some (.frz o u)
variable{u:Value}
def Rd.ok{u:HO}(r:Rd H a u)(x:HOk P w H h):ObjOk P w H h a u:=by
 rcases r with r | ⟨o,r⟩
 ·exact x a u r
 ·obtain⟨_,q⟩:=x a _ r
  exact q
def Mut:Option HO->Prop
 |some (.lst _)=>True |some (.dK _)=>True |some (.dT _)=>True |some (.set _ _)=>True |some (.ins _ _ _)=>True |some (.ext _)=>True |_=>False
variable{x e:Addr}{o':HO}
def HOk.write(ok:HOk P w H h)(L:Mut (H x))(V:e=x\/H e=some (.own x))(k:∀b u,b≠e->h.get? b=some u->h'.get? b=some u)(S:∃u,h'.get? e=some u)(U:ObjOk P w (upd H x o') h' x o'):HOk P w (upd H x o') h':=λb u q=>by
 have I:∀c y,H c=some (.own y)->c≠x:=λc y r z=>by subst z;rw[r] at L;exact L
 have J:∀c xs,H c=some (.tup xs)->c≠x:=λc xs r z=>by subst z;rw[r] at L;exact L
 by_cases R:b=x
 ·subst R;rw[km] at q;cases q;exact U
 ·rw[ic R] at q
  by_cases D:b=e
  ·have Y:H b=some (.own x):=by
    rcases V with z |z
    ·exact absurd (D.trans z) R
    ·rw[D];exact z
   rw[q] at Y;cases Y;obtain⟨v,Z⟩:=S;exact⟨v,by rw[D];exact Z⟩
  ·refine(ok b u q).stay (λc v hc r=>k c v ?_ r) (λc r=>by rw[ic (I c b r)];exact r) λc xs r=>by rw[ic (J c xs r)];exact r
   rcases hc with rfl |hc
   ·exact D
   ·rintro rfl
    rcases V with z |z
    ·exact I c b hc z
    ·rw[hc] at z;cases z;exact R rfl
structure Un (fs ex:b4) (H H':Hp) (h h':Heap):Prop where
 keep:∀b o,h.get? b=some o->H b=none->b∉fs->b∉ex->h'.get? b=some o
 slot:∀b o,h.get? b=some o->H b=none->b∈fs->b∉ex->∃sl,h'.get? b=some { o with slots:=sl }
 free:∀b o,h.get? b=some o->H b=none->b∉ex->H' b=none
 there:∀b o,h.get? b=some o->b∉ex->∃o',h'.get? b=some o'
 tups:∀b xs,H b=some (.tup xs)->H' b=some (.tup xs)
 frzs:∀b o u,H b=some (.frz o u)->H' b=some (.frz o u)
 tbls:∀b ps,H b=some (.tbl ps)->∃more,H' b=some (.tbl (ps++more))
variable{fs ex:b4}{H1:Hp}{h1:Heap}
def Un.any(u:Un fs ex H H1 h h1){z:Obj}(q:h.get? b=some z)(n:H b=none)(D:b∉ex):∃J,h1.get? b=some { z with slots:=J }:=by
 by_cases I:b∈fs
 ·exact u.slot b z q n I D
 ·exact⟨z.slots,u.keep b z q n I D⟩
def Un.kept(k:∀b u,h.get? b=some u->h'.get? b=some u):Un fs ex H H h h' :=
 ⟨λb z q _ _ _=>k b z q,λb z q _ _ _=>⟨z.slots,k b z q⟩,λ_ _ _ n _=>n,λb z q _=>⟨z,k b z q⟩,λ_ _ q=>q,λ_ _ _ q=>q,λ_ ps q=>⟨#[],by rw[q];simp⟩⟩
def Un.refl:Un fs ex H H h h:=Un.kept λ_ _ q=>q
def Un.laid(k:∀b u,h.get? b=some u->h'.get? b=some u)(D:h.objs.size<=a)(z:H a=none):Un fs ex H (upd H a o) h h' where
 keep:=λb u q _ _ _=>k b u q
 slot:=λb u q _ _ _=>⟨u.slots,k b u q⟩
 free:=λb u q n _=>by rw[ic (bz (ba (bj q) D))];exact n
 there:=λb u q _=>⟨u,k b u q⟩
 tups:=λb xs q=>by rw[ic (lh q z)];exact q
 frzs:=λb u xs q=>by rw[ic (lh q z)];exact q
 tbls:=λb ps q=>⟨#[],by rw[ic (lh q z),q];simp⟩
def Un.write(I:Mut (H x))(U:e=x\/H e=some (.own x))(k:∀b u,b≠e->h.get? b=some u->h'.get? b=some u)(J:∃u,h'.get? e=some u):Un fs ex H (upd H x o) h h':=by
 have R:∀b,H b=none->b≠x:=λb n z=>by subst z;rw[n] at I;exact I
 have S:∀b,H b=none->b≠e:=λb n z=>by
  subst z;rcases U with r |r
  ·exact R b n r
  ·rw[n] at r;cases r
 have L:∀b u,H b=some u->¬Mut (some u)->b≠x:=λb u q nm z=>by subst z;rw[q] at I;exact nm I
 refine⟨λb u q n _ _=>k b u (S b n) q,λb u q n _ _=>⟨u.slots,k b u (S b n) q⟩,λb u q n _=>by rw[ic (R b n)];exact n,λb u q _=>?_,
  λb xs q=>by rw[ic (L b _ q λz=>z)];exact q,λb u xs q=>by rw[ic (L b _ q λz=>z)];exact q,λb ps q=>⟨#[],by rw[ic (L b _ q λz=>z),q];simp⟩⟩
 by_cases D:b=e
 ·subst D;exact J
 ·exact⟨u,k b u D q⟩
def trk(h:Heap)(H:Hp):b4:=(List.range h.objs.size).filter λa=>(H a).isSome
def hidT(h:Heap)(H:Hp):Heap:=PySem.W.hideAll h (trk h H)
def zmr(h:Heap)(H:Hp):(hidT h H).objs.size=h.objs.size:=PySem.W.hideAll_size _ _
variable{o:Obj}
def zo1(e:h.get? b=some o)(n:H b=none):(hidT h H).get? b=some o :=
 PySem.W.hideAll_get _ e λz=>by
  have q:(H b).isSome=true:=(fz.mp z).2;rw[n] at q;simp at q
def zrh(e:(hidT h H).get? b=some o):h.get? b=some o/\H b=none:=by
 have e':h.get? b=some o:=PySem.W.of_hideAll (trk h H) e;refine⟨e',?_⟩;cases q:H b with
 |none=>rfl |some x =>
   have D:b∈trk h H:=fz.mpr ⟨cx.mpr (bj e'),by simp[q]⟩;have z:(hidT h H).get? b=none:=PySem.W.hideAll_none (trk h H) D;rw[z] at e;cases e
structure Mod (K:dc) (mg:Str->b2) (base:Heap):Prop where
 kin:K.In base
 glob:base.Ns mainGlobals mg
 blt:∃mb,base.Ns builtinsNs mb/\∀x:Str,x ≠ "__name__"->mb x=bootBuiltins x
 nolimit:base.NoLimit
structure Cx where
 prog:Program
 w:World
 K:dc
 mg:Str->b2
 base:Heap
 A:Around
 N:bt
 s₀:Shared
 H₀:Hp
 env:Env
 outer:cd
 stack:cd
 ex:b4
 fn:Str->Bool
 calm:Bool
 pn:dt
 xe:Value->Shared->Prop
def frs(l:cd):b4:=l.filterMap (·.frame)
protected abbrev Cx.fs(X:Cx):b4:=frs X.outer
def Vis(sc:Scope)(x:Str):Prop:=sc.names.lookup x=some .local\/sc.names.lookup x=some .cell\/sc.names.lookup x=some .free
def Loc(sc:Scope)(x:Str):Prop:=sc.names.lookup x=some .local\/sc.names.lookup x=some .cell
def Look(env:Env)(h:Heap)(m:Str->b2)(x:Str)(u:Value):Prop :=
 (env.kindOf x=some .local/\m x=some u)\/((env.kindOf x=some .cell\/env.kindOf x=some .free)/\∃c,env.cells.lookup x=some c/\h.IsCell c (some u))
structure Cx.Ok (X:Cx):Prop where
 mod:Mod X.K X.mg X.base
 kind:X.env.scope.kind=.function
 glob:X.env.globals=mainGlobals
 blt:X.env.builtins=builtinsNs
 above:X.s₀.heap.objs.size<=X.env.locals
 inj:∀x y c,X.env.cells.lookup x=some c->X.env.cells.lookup y=some c->x=y
 has:∀x,(X.env.kindOf x=some .cell\/X.env.kindOf x=some .free)->∃c,X.env.cells.lookup x=some c
 cab:∀x c,X.fn x=true->X.env.cells.lookup x=some c->X.s₀.heap.objs.size<=c
 hd:X.calm=true->X.A.handled=none
 frames:X.A.frames=some X.stack
 stk:X.stack=X.outer\/(X.stack=X.env::X.outer/\X.env.frame=some X.env.locals)
 exf:∀b∈X.ex,b≠X.env.locals/\∀x c,X.env.cells.lookup x=some c->c≠b
 bs:∀b o,X.base.get? b=some o->X.s₀.heap.get? b=some o/\X.H₀ b=none
 bsz:X.base.objs.size<=X.s₀.heap.objs.size
 noex:∀b o,X.base.get? b=some o->b∉X.ex
 exfs:∀b∈X.ex,b∉X.fs
 funs:X.s₀.heap.FunFrames X.base X.outer
 frf:∀b∈X.fs,X.H₀ b=none
structure Inv (X:Cx) (pins:dt) (σ:List (Option V)) (H:Hp) (s:Shared):Prop where
 ok:X.Ok
 os:s.os=X.s₀.os
 bare:AllBare s.gens
 base:Un X.fs X.ex X.H₀ H X.s₀.heap s.heap
 loc:∃m,s.heap.Ns X.env.locals m/\∀(i:Nat) (x:Str) (v:V),X.N[i]?=some x->σ[i]?=some (some v)->Vis X.env.scope x->∃u,RelV v u/\Look X.env s.heap m x u
 cell:∀x c,X.env.cells.lookup x=some c->∃v,s.heap.IsCell c v
 free:H X.env.locals=none
 freeC:∀x c,X.env.cells.lookup x=some c->H c=none
 pin:∀p∈X.pn++pins,s.heap.get? p.1=some p.2/\H p.1=none/\p.1≠X.env.locals/\p.1∉X.fs/\∀v,p.2.data≠.cell v
 hok:HOk X.prog X.w H s.heap
 len:σ.length=X.N.length
variable{X:Cx}
def Cx.Ok.nofr(ok:X.Ok)(e:X.base.get? b=some o):b∉X.fs:=λz=>by
 have:=(ok.funs.mem z).1;rw[e] at this;cases this
variable{pins:dt}{σ:List (Option V)}{s:Shared}
def Inv.bs(I:Inv X pins σ H s):∀b o,X.base.get? b=some o->s.heap.get? b=some o/\H b=none:=λb o e =>
 ⟨I.base.keep b o (I.ok.bs b o e).1 (I.ok.bs b o e).2 (I.ok.nofr e) (I.ok.noex b o e),I.base.free b o (I.ok.bs b o e).1 (I.ok.bs b o e).2 (I.ok.noex b o e)⟩
def Inv.bk(I:Inv X pins σ H s):∀b o,X.base.get? b=some o->s.heap.get? b=some o:=λb o e=>(I.bs b o e).1
def Inv.mod(I:Inv X pins σ H s):Mod X.K X.mg X.base:=I.ok.mod
def Inv.kIn(I:Inv X pins σ H s):X.K.In s.heap:=I.ok.mod.kin.keeps I.bk
def Inv.lt(I:Inv X pins σ H s):X.env.locals<s.heap.objs.size:=let ⟨_,z,_⟩:=I.loc;z.lt
def Inv.sz(I:Inv X pins σ H s):X.s₀.heap.objs.size<=s.heap.objs.size:=bh I.ok.above (k3 I.lt)
def Inv.nofs(I:Inv X pins σ H s)(h:s.heap.objs.size<=a):a∉X.fs:=λz=>by
 obtain⟨_,o,D,_⟩:=I.ok.funs.mem z;exact absurd (ba (bj D) (bh I.sz h)) (f8 _)
def Inv.cne(I:Inv X pins σ H s):∀x c,X.env.cells.lookup x=some c->c≠X.env.locals:=λx c e z=>by
 obtain⟨v,o,L,hd⟩:=I.cell x c e;obtain⟨m,⟨o',es,R,D,J,_⟩,_⟩:=I.loc;rw[z,D] at L;cases L;rw[J] at hd;cases hd
def Inv.funs(I:Inv X pins σ H s):s.heap.FunFrames X.base X.outer:=by
 have all:∀(l:cd),(∀b∈frs l,b∈X.fs)->X.s₀.heap.FunFrames X.base l->s.heap.FunFrames X.base l:=by
  intro l;induction l with
  |nil=>intro _ _;trivial
  |cons env r ih =>
    intro S U;obtain⟨V,⟨L,o,D,Y,Z,hd⟩,a⟩:=U;have J:L∈X.fs:=S L (by unfold frs;rw[kc,D];exact au);obtain⟨c,e⟩:=I.base.slot L o Z (I.ok.frf L J) J λz=>I.ok.exfs L z J;exact⟨V,⟨L,_,D,Y,e,hd⟩,ih (λb R=>S b (by unfold frs;rw[kc,D];exact ak _ R)) a⟩
 exact all X.outer (λ_ R=>R) I.ok.funs
def Inv.stack(I:Inv X pins σ H s):s.heap.FunFrames X.base X.stack:=by
 rcases I.ok.stk with e | ⟨e,hf⟩
 ·rw[e];exact I.funs
 ·rw[e]
  obtain⟨m,z,_⟩:=I.loc;refine .cons (by rw[I.ok.kind];decide) hf z ?_ I.funs;exact Heap.get?_none_of_le (bh I.ok.bsz I.ok.above)
def Inv.stkSub(I:Inv X pins σ H s):∀b∈frs X.stack,b∈X.env.locals::X.fs:=λb z=>by
 rcases I.ok.stk with e | ⟨e,hf⟩
 ·rw[e] at z;exact ak _ z
 ·rw[e] at z
  unfold frs at z;rw[kc,hf] at z;exact z
def Inv.stkFree(I:Inv X pins σ H s):∀b∈frs X.stack,H b=none:=λb hb=>by
 rcases b8.mp (I.stkSub b hb) with e |hb
 ·rw[e];exact I.free
 ·obtain⟨_,o,D,_⟩:=I.ok.funs.mem hb
  exact I.base.free b o D (I.ok.frf b hb) λz=>I.ok.exfs b z hb
variable{g':Array GenState}{t':Nat}{d':Drawn}{ch:b4}
def Inv.step(I:Inv X pins σ H s)(J:∀b∈ch,(b∈X.ex\/X.s₀.heap.objs.size<=b)/\b≠X.env.locals/\(∀x c,X.env.cells.lookup x=some c->c≠b)/\∀p∈X.pn++pins,p.1≠b)(keep:∀b o,b≠X.env.locals->b∉X.fs->b∉ch->s.heap.get? b=some o->H b=none->h'.get? b=some o)(V:∀b o,b≠X.env.locals->b∈X.fs->b∉ch->s.heap.get? b=some o->H b=none->∃y,h'.get? b=some { o with slots:=y })(free:∀b o,b∉ch->s.heap.get? b=some o->H b=none->H' b=none)(Y:∀b o,b∉ch->s.heap.get? b=some o->∃o',h'.get? b=some o')(f:∀b xs,H b=some (.tup xs)->H' b=some (.tup xs))(g:∀b o u,H b=some (.frz o u)->H' b=some (.frz o u))(h:∀b ps,H b=some (.tbl ps)->∃more,H' b=some (.tbl (ps++more)))(ns:∀m,s.heap.Ns X.env.locals m->h'.Ns X.env.locals m)(A:HOk X.prog X.w H' h')(K:AllBare g') :
  Inv X pins σ H' { s with heap:=h',gens:=g',drawn:=d',toks:=t' }:=by
 have j:∀b o,X.s₀.heap.get? b=some o->b≠X.env.locals:=λb o e=>bz (ba (bj e) I.ok.above);have S:∀b o,X.s₀.heap.get? b=some o->b∉X.ex->b∉ch:=λb o e D Z=>by
  rcases(J b Z).1 with z |z
  ·exact D z
  ·exact absurd (ba (bj e) z) (f8 _)
 have L:∀x c,X.env.cells.lookup x=some c->∀v,s.heap.IsCell c v->h'.IsCell c v:=λx c e v M=>by
  obtain⟨o,a,hd⟩:=M;have R:c∉ch:=λz=>(J c z).2.2.1 x c e rfl;by_cases C:c∈X.fs
  ·obtain⟨y,q⟩:=V c o (I.cne x c e) C R a (I.freeC x c e)
   exact⟨_,q,hd⟩
  ·exact⟨o,keep c o (I.cne x c e) C R a (I.freeC x c e),hd⟩
 refine⟨I.ok,I.os,K,⟨λb o e n Z D=>?_,λb o e n Z D=>?_,λb o e n D=>?_,λb o e D=>?_,λb xs e=>f b xs (I.base.tups b xs e),λb o xs e=>g b o xs (I.base.frzs b o xs e),λb ps e=>?_⟩,?_,λx c e=>?_,?_,λx c e=>?_,λp E=>?_,A,I.len⟩
 ·exact keep b o (j b o e) Z (S b o e D) (I.base.keep b o e n Z D) (I.base.free b o e n D)
 ·obtain⟨y,U⟩:=I.base.slot b o e n Z D
  obtain⟨B,t⟩:=V b _ (j b o e) Z (S b o e D) U (I.base.free b o e n D);exact⟨B,t⟩
 ·obtain⟨o',U⟩:=I.base.there b o e D
  exact free b o' (S b o e D) U (I.base.free b o e n D)
 ·obtain⟨o',U⟩:=I.base.there b o e D
  exact Y b o' (S b o e D) U
 ·obtain⟨N,U⟩:=I.base.tbls b ps e
  obtain⟨O,t⟩:=h b _ U;exact⟨N++O,by rw[t,Array.append_assoc]⟩
 ·obtain⟨m,P,Q⟩:=I.loc
  refine⟨m,ns m P,λi x v U t T=>?_⟩;obtain⟨u,r,l⟩:=Q i x v U t T;refine⟨u,r,?_⟩;rcases l with l | ⟨k,c,e,z⟩
  ·exact .inl l
  ·exact .inr ⟨k,c,e,L x c e _ z⟩
 ·obtain⟨v,z⟩:=I.cell x c e
  exact⟨v,L x c e v z⟩
 ·obtain⟨m,⟨o,_,_,a,_⟩,_⟩:=I.loc
  exact free _ o (λz=>(J _ z).2.1 rfl) a I.free
 ·obtain⟨v,o,a,hd⟩:=I.cell x c e
  exact free c o (λz=>(J c z).2.2.1 x c e rfl) a (I.freeC x c e)
 ·obtain⟨e,n,F,G,d⟩:=I.pin p E
  have R:p.1∉ch:=λz=>(J p.1 z).2.2.2 p E rfl;exact⟨keep p.1 p.2 F G R e n,free p.1 p.2 R e n,F,G,d⟩
def Inv.un(I:Inv X pins σ H s)(u:Un X.fs [] H H' s.heap h')(J:HOk X.prog X.w H' h'):Inv X pins σ H' { s with heap:=h',toks:=t' }:=by
 obtain⟨m,⟨o,es,a,U,r⟩,_⟩:=id I.loc;obtain⟨c,V⟩:=u.any U I.free (by simp);exact I.step (g':=s.gens) (d':=s.drawn) (ch:=[]) (λ_ z=>nomatch z) (λb o _ L _ e n=>u.keep b o e n L (by simp)) (λb o _ L _ e n=>u.slot b o e n L (by simp)) (λb o _ e n=>u.free b o e n (by simp)) (λb o _ e=>u.there b o e (by simp)) u.tups u.frzs u.tbls (λd Y=>by
  obtain⟨o',R,S,D,Z⟩:=Y;rw[U] at D;cases D;exact⟨_,R,S,V,Z⟩) J I.bare
def Inv.call(I:Inv X pins σ H s)(u:Un (frs X.stack) ch H H' s.heap h')(R:HOk X.prog X.w H' h')(Z:AllBare g')(J:∀b∈ch,(b∈X.ex\/X.s₀.heap.objs.size<=b)/\b≠X.env.locals/\(∀x c,X.env.cells.lookup x=some c->c≠b)/\∀p∈X.pn++pins,p.1≠b) :
  Inv X pins σ H' { s with heap:=h',gens:=g',drawn:=d',toks:=t' }:=by
 obtain⟨m,⟨o,es,g,Y,r⟩,_⟩:=id I.loc;obtain⟨h,S⟩:=u.any Y I.free λz=>(J _ z).2.1 rfl;exact I.step (ch:=ch) J (λb o S a D e n=>u.keep b o e n (λz=>(b8.mp (I.stkSub b z)).elim S a) D) (λb o _ _ D e n=>u.any e n D) (λb o D e n=>u.free b o e n D) (λb o D e=>u.there b o e D) u.tups u.frzs u.tbls (λi d=>by
  obtain⟨o',U,V,L,f⟩:=d;rw[Y] at L;cases L;exact⟨_,U,V,S,f⟩) R Z
variable{it:Addr}
def Inv.turned(I:Inv X pins σ H s)(k:∀b o,b≠it->s.heap.get? b=some o->h'.get? b=some o)(R:H it=none)(L:it≠X.env.locals)(h1:it∈X.ex\/X.s₀.heap.objs.size<=it)(h2:∀x c,X.env.cells.lookup x=some c->c≠it)(S:∀p∈X.pn++pins,p.1≠it):Inv X pins σ H { s with heap:=h',toks:=t' }:=by
 have J:∀b u,H b=some u->b≠it:=λb u e z=>by rw[z,R] at e;cases e
 refine I.step (g':=s.gens) (d':=s.drawn) (ch:=[it]) (λb U=>?_) (λb o _ _ D e _=>k b o (λz=>D (by simp[z])) e) (λb o _ _ D e _=>⟨o.slots,k b o (λz=>D (by simp[z])) e⟩) (λ_ _ _ _ n=>n)
  (λb o D e=>⟨o,k b o (λz=>D (by simp[z])) e⟩) (λ_ _ e=>e) (λ_ _ _ e=>e) (λb ps e=>⟨#[],by rw[e];simp⟩) (λm V=>?_) (λb u e=>?_) I.bare
 ·have e:b=it:=by simpa using U
  subst e;exact⟨h1,L,h2,S⟩
 ·obtain⟨o,es,Y,Z,r⟩:=V
  exact⟨o,es,Y,k _ o (Ne.symm L) Z,r⟩
 ·refine(I.hok b u e).stay (λc v D q=>k c v ?_ q) (λ_ q=>q) λ_ _ q=>q
  rcases D with z |z
  ·rw[z];exact J b u e
  ·exact J c _ z
def Inv.tok(I:Inv X pins σ H s)(t:Nat):Inv X pins σ H { s with toks:=t }:=I.un (h':=s.heap) (t':=t) Un.refl I.hok
def Inv.kept{t':Nat}(I:Inv X pins σ H s)(k:∀b u,s.heap.get? b=some u->h'.get? b=some u):Inv X pins σ H { s with heap:=h',toks:=t' }:=I.un (Un.kept k) (I.hok.kept k)
def Inv.laid{a:Addr}{o:HO}{t':Nat}(I:Inv X pins σ H s)(k:∀b u,s.heap.get? b=some u->h'.get? b=some u)(z:s.heap.objs.size<=a)(D:ObjOk X.prog X.w (upd H a o) h' a o) :
  Inv X pins σ (upd H a o) { s with heap:=h',toks:=t' }:=I.un (Un.laid k z (I.hok.fresh z)) (I.hok.laid k z D)
def Inv.write{x e:Addr}{o:HO}{t':Nat}(I:Inv X pins σ H s)(J:Mut (H x))(L:e=x\/H e=some (.own x))(k:∀b u,b≠e->s.heap.get? b=some u->h'.get? b=some u)(z:∃u,h'.get? e=some u)(D:ObjOk X.prog X.w (upd H x o) h' x o):Inv X pins σ (upd H x o) { s with heap:=h',toks:=t' }:=I.un (Un.write J L k z) (I.hok.write J L k z D)
def Inv.pins_of{D:dt}(I:Inv X pins σ H s)(h:∀p∈D,s.heap.get? p.1=some p.2/\H p.1=none/\p.1≠X.env.locals/\p.1∉X.fs/\∀v,p.2.data≠.cell v):Inv X D σ H s :=
 ⟨I.ok,I.os,I.bare,I.base,I.loc,I.cell,I.free,I.freeC,λp J=>(dh.mp J).elim (λz=>I.pin p (db _ z)) (h p),I.hok,I.len⟩
variable{x:Str}{N:bt}{i:Nat}{j:Int}
def zkq(z:N.Nodup){j:Nat}(a:N[i]?=some x)(b:N[j]?=some x):i=j:=by
 obtain⟨h1,D⟩:=am.mp a;obtain⟨h2,I⟩:=am.mp b;exact(List.getElem_inj z).mp (D.trans I.symm)
variable{M:Model}{A:Around}{E:Value->Shared->Prop}{v:V}{Q:Unit->Shared->Prop}
def zio(I:Inv X pins σ H s)(hN:X.N.Nodup)(hi:X.N[i]?=some x)(R:Loc X.env.scope x)(r:RelV v u)(h:∀s',Inv X pins (σ.set i (some v)) H s'->(∃a,Heap.SameBut a s.heap s'.heap/\(a=X.env.locals\/X.env.cells.lookup x=some a))->Q () s')(hf:X.fn x=true\/X.env.scope.names.lookup x=some .local:=by first |exact .inl rfl |exact .inr rfl |assumption):wpAny M A (storeName X.env x u) Q E s:=by
 obtain⟨m,O,hl⟩:=id I.loc;have g:(X.env.scope.kind==.class || (X.env.scope.kind==.module && X.env.locals != X.env.globals))=false:=by rw[I.ok.kind];rfl
 have V:i<σ.length:=by rw[I.len];exact(am.mp hi).1
 have cne:=I.cne;have J:∀ {a:Addr} {h':Heap},(∃o,s.heap.get? a=some o/\H a=none)->Heap.SameBut a s.heap h'->HOk X.prog X.w H h':=λ{a h'} ha D b ob e=>by
  obtain⟨_,_,S⟩:=ha;refine(I.hok b ob e).stay (λc F hc q=>(D.2 c ?_).trans q) (λ_ q=>q) λ_ _ q=>q;rintro rfl;rcases hc with rfl |hc
  ·rw[S] at e;cases e
  ·rw[S] at hc;cases hc
 rcases R with hk |hk
 ·refine wpAny_storeName_local hk O (λh' P D=>?_) g
  obtain⟨oL,_,_,T,_⟩:=id O;refine h _ ⟨I.ok,I.os,I.bare,⟨λb o e n Y R=>?_,λb o e n Y R=>?_,I.base.free,λb o e R=>?_,I.base.tups,I.base.frzs,I.base.tbls⟩,⟨_,P,λj y W L U e3=>?_⟩,λy c e=>?_,I.free,I.freeC,λp hp=>?_,J ⟨oL,T,I.free⟩ D,by simpa using I.len⟩ ⟨_,D,.inl rfl⟩
  ·exact(D.2 b (bz (ba (bj e) I.ok.above))).trans (I.base.keep b o e n Y R)
  ·obtain⟨sl,L⟩:=I.base.slot b o e n Y R
   exact⟨sl,(D.2 b (bz (ba (bj e) I.ok.above))).trans L⟩
  ·obtain⟨o',L⟩:=I.base.there b o e R
   exact⟨o',(D.2 b (bz (ba (bj e) I.ok.above))).trans L⟩
  ·by_cases Z:j=i
   ·subst Z
    rw[hi] at L;cases L;rw[e7 V] at U;cases U;exact⟨u,r,.inl ⟨hk,by simp⟩⟩
   ·rw[d3 (Ne.symm Z)] at U
    obtain⟨u',r',q⟩:=hl j y W L U e3;refine⟨u',r',?_⟩;rcases q with⟨k,e⟩ | ⟨k,c,e,z⟩
    ·refine .inl ⟨k,?_⟩
     have:y≠x:=λe=>Z (zkq hN L (e ▸ hi));simp[this,e]
    ·exact .inr ⟨k,c,e,z.sameBut D (cne y c e)⟩
  ·obtain⟨F,z⟩:=I.cell y c e
   exact⟨F,z.sameBut D (cne y c e)⟩
  ·obtain⟨e,n,G,nf,d⟩:=I.pin p hp
   exact⟨(D.2 p.1 G).trans e,n,G,nf,d⟩
 ·have f:X.fn x=true:=by
   rcases hf with z |z
   ·exact z
   ·rw[z] at hk;cases hk
  obtain⟨c,hc⟩:=I.ok.has x (.inl hk);obtain⟨F,z⟩:=I.cell x c hc;refine wpAny_storeName_cell I.ok.kind hk hc z (λh' l D=>?_);obtain⟨oc,t,B⟩:=id z;refine h { s with heap:=h' } ⟨I.ok,I.os,I.bare,⟨λb o e n Y R=>?_,λb o e n Y R=>?_,I.base.free,λb o e R=>?_,I.base.tups,I.base.frzs,I.base.tbls⟩,⟨m,O.sameBut D (Ne.symm (cne x c hc)),λj y W L U e3=>?_⟩,λy K e=>?_,I.free,I.freeC,λp hp=>?_,J ⟨oc,t,I.freeC x c hc⟩ D,by simpa using I.len⟩ ⟨c,D,.inr hc⟩
  ·exact(D.2 b (bz (ba (bj e) (I.ok.cab x c f hc)))).trans (I.base.keep b o e n Y R)
  ·obtain⟨sl,L⟩:=I.base.slot b o e n Y R
   exact⟨sl,(D.2 b (bz (ba (bj e) (I.ok.cab x c f hc)))).trans L⟩
  ·obtain⟨o',L⟩:=I.base.there b o e R
   exact⟨o',(D.2 b (bz (ba (bj e) (I.ok.cab x c f hc)))).trans L⟩
  ·by_cases Z:j=i
   ·subst Z
    rw[hi] at L;cases L;rw[e7 V] at U;cases U;exact⟨u,r,.inr ⟨.inl hk,c,hc,l⟩⟩
   ·rw[d3 (Ne.symm Z)] at U
    obtain⟨u',r',q⟩:=hl j y W L U e3;refine⟨u',r',?_⟩;rcases q with q | ⟨k,K,e,z'⟩
    ·exact .inl q
    ·refine .inr ⟨k,K,e,z'.sameBut D ?_⟩
     rintro rfl;exact Z (zkq hN L (I.ok.inj _ _ _ e hc ▸ hi))
  ·by_cases C:K=c
   ·subst C;exact⟨_,l⟩
   ·obtain⟨w2,z2⟩:=I.cell y K e
    exact⟨w2,z2.sameBut D C⟩
  ·obtain⟨e,n,G,nf,d⟩:=I.pin p hp
   refine⟨(D.2 p.1 ?_).trans e,n,G,nf,d⟩;intro q;rw[q,t] at e;have q':oc=p.2:=az e;exact d F (by rw[<-q'];exact B)
def vb(I:Inv X pins σ H s)(z:X.N.Nodup)(hi:X.N[i]?=some x)(D:Loc X.env.scope x)(r:RelV v u)(h:∀s',Inv X pins (σ.set i (some v)) H s'->Q () s')(J:X.fn x=true\/X.env.scope.names.lookup x=some .local:=by first |exact .inl rfl |exact .inr rfl |assumption):wpAny M A (storeName X.env x u) Q E s :=
 zio I z hi D r (λs' L _=>h s' L) J
variable{s':Shared}
def Inv.call'(I:Inv X pins σ H s)(J:s'.os=s.os)(u:Un (frs X.stack) ch H H' s.heap s'.heap)(z:HOk X.prog X.w H' s'.heap)(L:AllBare s'.gens)(D:∀b∈ch,(b∈X.ex\/X.s₀.heap.objs.size<=b)/\b≠X.env.locals/\(∀x c,X.env.cells.lookup x=some c->c≠b)/\∀p∈X.pn++pins,p.1≠b):Inv X pins σ H' s':=by
 obtain⟨h',g',d',t',o'⟩:=s';have e:o'=s.os:=J;subst e;exact I.call (g':=g') (t':=t') (d':=d') u z L D
abbrev XK:=Value->Option Addr->Hp->Prop
abbrev St:=List (Option V)
abbrev VK:=V->Hp->Prop
abbrev TE:=St->Hp->VK->Prop
abbrev TT:=St->Hp->(Bool->Hp->Prop)->Prop
abbrev TA:=St->Hp->(ed->Hp->Prop)->Prop
structure Ends where
 nx:St->Hp->Prop
 rt:VK
 bk:St->Hp->Prop:=λ_ _=>False
 ct:St->Hp->Prop:=λ_ _=>False
abbrev TS:=Ends->St->Hp->Prop
inductive EP (X:Cx) (pins:dt) (σ:St) (Q:VK) (u:Value) (s':Shared):Prop
 |mk (v:V) (H':Hp) (i:Inv X pins σ H' s') (r:RelV v u) (q:Q v H'):EP X pins σ Q u s'
inductive TP (X:Cx) (pins:dt) (σ:St) (Q:Bool->Hp->Prop) (b:Bool) (s':Shared):Prop
 |mk (H':Hp) (i:Inv X pins σ H' s') (q:Q b H'):TP X pins σ Q b s'
inductive AP (X:Cx) (pins:dt) (σ:St) (Q:ed->Hp->Prop) (us:b0) (s':Shared):Prop
 |mk (vs:ed) (H':Hp) (i:Inv X pins σ H' s') (r:Vals vs us) (q:Q vs H'):AP X pins σ Q us s'
def SP(X:Cx)(pins:dt)(D:Ends)(f:Flow)(s':Shared):Prop :=
 match f with
 | .next=>∃z H',Inv X pins z H' s'/\D.nx z H' | .brk=>∃z H',Inv X pins z H' s'/\D.bk z H' | .cont=>∃z H',Inv X pins z H' s'/\D.ct z H' | .ret u=>∃v z H',Inv X pins z H' s'/\RelV v u/\D.rt v H'
def PE(X:Cx)(e:Expr)(t:TE):Prop :=
 ∀(pins:dt) (s:Shared) (σ:St) (H:Hp) (Q:VK),Inv X pins σ H s->t σ H Q->wpAny (model X.prog X.w) X.A (eval e X.env) (EP X pins σ Q) X.xe s
def PT(X:Cx)(e:Expr)(t:TT):Prop :=
 ∀(pins:dt) (s:Shared) (σ:St) (H:Hp) (Q:Bool->Hp->Prop),Inv X pins σ H s->t σ H Q->wpAny (model X.prog X.w) X.A (isTrue e X.env (eval e X.env)) (TP X pins σ Q) X.xe s
def PW(X:Cx)(e:Expr)(t:TT):Prop :=
 ∀(whole:Sem Value) (pins:dt) (s:Shared) (σ:St) (H:Hp) (Q:Bool->Hp->Prop),Inv X pins σ H s->t σ H Q->wpAny (model X.prog X.w) X.A (isTrue e X.env whole) (TP X pins σ Q) X.xe s
variable{e:Expr}{t:TE}
def PW.pt{t:TT}(h:PW X e t):PT X e t:=h _
def PA(X:Cx)(es:ci)(t:TA):Prop :=
 ∀(pos:Pos) (pins:dt) (s:Shared) (σ:St) (H:Hp) (Q:ed->Hp->Prop),Inv X pins σ H s->t σ H Q->wpAny (model X.prog X.w) X.A (spliced (backTo pos (starEach es X.env))) (AP X pins σ Q) X.xe s
def PS(X:Cx)(st:Stmt)(t:TS):Prop :=
 ∀(pins:dt) (s:Shared) (σ:St) (H:Hp) (D:Ends),Inv X pins σ H s->t D σ H->wpAny (model X.prog X.w) X.A (exec st X.env) (SP X pins D) X.xe s
def PSs(X:Cx)(st:List Stmt)(t:TS):Prop :=
 ∀(pins:dt) (s:Shared) (σ:St) (H:Hp) (D:Ends),Inv X pins σ H s->t D σ H->wpAny (model X.prog X.w) X.A (execs st X.env) (SP X pins D) X.xe s
def thn{t:Sem α}{Q z:α->Shared->Prop}(h:wpAny M A t Q E s)(D:∀a s,Q a s->z a s):wpAny M A t z E s:=wpAny_mono h D λ_ _ x=>x
def tVar(i:Nat):TE:=λσ H Q=>∃v,σ[i]?=some (some v)/\Q v H
def tC(v:V):TE:=λ_ H Q=>Q v H
variable{pos:Pos}
def zt7(J:X.N[i]?=some x)(L:Vis X.env.scope x)(hd:(x==("__debug__" : Str))=false:=by decide)(D:(x==("__classdict__" : Str))=false:=by decide):PE X (.Name x pos) (tVar i):=by
 intro pins s σ H Q I h;obtain⟨v,e,h⟩:=h;obtain⟨m,R,S⟩:=I.loc;obtain⟨u,r,l⟩:=S i x v J e L;have z:EP X pins σ Q u s:=⟨v,H,I,r,h⟩;rcases l with⟨hk,U⟩ | ⟨hk,c,hc,hcell⟩
 ·exact wpAny_Name (wpAny_loadName_local I.ok.kind hk R U z) hd
 ·rcases hk with hk |hk
  ·exact wpAny_Name (wpAny_loadName_cell I.ok.kind hk hc hcell z) hd
  ·exact wpAny_Name (wpAny_loadName_free I.ok.kind hk hc hcell z D) hd
def zqo{i j pos}:PE X (.Constant (.int i) j pos) (tC (.int i)):=λ_ _ _ H _ I h=>wpAny_Constant_int ⟨.int i,H,I.tok _,⟨_,rfl⟩,h⟩
def zwy{b j pos}:PE X (.Constant (.bool b) j pos) (tC (.bl b)):=λ_ _ _ H _ I h=>Constant_bool ⟨.bl b,H,I,rfl,h⟩
def Gl(X:Cx)(x:Str):Prop:=X.env.kindOf x=some .globalImplicit
variable{σ:St}{Q:Value->Shared->Prop}
def zms(I:Inv X pins σ H s)(z:Gl X x)(D:X.mg x=some u)(h:Q u s)(hd:(x==("__debug__" : Str))=false:=by decide):wpAny (model X.prog X.w) X.A (eval (.Name x pos) X.env) Q E s :=
 Calls.Name_function_global I.ok.kind z (Calls.loadGlobal_global (by rw[I.ok.glob];exact I.mod.glob.keeps I.bk) D h) hd
def nc(I:Inv X pins σ H s)(z:Gl X x)(D:X.mg x=none)(J:bootBuiltins x=some u)(h:Q u s)(L:x ≠ "__name__":=by decide)(hd:(x==("__debug__" : Str))=false:=by decide):wpAny (model X.prog X.w) X.A (eval (.Name x pos) X.env) Q E s:=by
 obtain⟨R,h1,h2⟩:=I.mod.blt;exact Calls.Name_function_global I.ok.kind z (Calls.loadGlobal_builtin (by rw[I.ok.glob];exact I.mod.glob.keeps I.bk) D (by rw[I.ok.blt];exact h1.keeps I.bk) ((h2 x L).trans J) h) hd
def zri(z:Gl X x)(D:X.mg x=some u)(r:RelV v u)(hd:(x==("__debug__" : Str))=false:=by decide):PE X (.Name x pos) (tC v) :=
 λ_ _ _ H _ I h=>zms I z D ⟨v,H,I,r,h⟩ hd
def zrj(z:Gl X x)(D:X.mg x=none)(J:bootBuiltins x=some u)(r:RelV v u)(L:x ≠ "__name__":=by decide)(hd:(x==("__debug__" : Str))=false:=by decide):PE X (.Name x pos) (tC v) :=
 λ_ _ _ H _ I h=>nc I z D J ⟨v,H,I,r,h⟩ L hd
def tB(t:TE):TT:=λσ H Q=>t σ H λx H1=>∃c,x=.bl c/\Q c H1
def zt8(h:PE X e t)(z:∀whole,isTrue e X.env whole=(do let v <-whole;standAt e.pos;holding [v] (truthy v)):=by intro _;rfl):PT X e (tB t):=by
 intro pins s σ H Q I D;refine isTrue_plain (thn (h pins s σ H _ I D) λv U J=>?_) (z _);obtain⟨x,H1,L,R,S⟩:=J;obtain⟨d,rfl,q⟩:=S;cases R;exact wpAny_truthy_bool ⟨H1,L,q⟩
def tAnd(t u:TT):TT:=λσ H Q=>t σ H λc H1=>if c=true then u σ H1 Q else Q false H1
def tOr(t u:TT):TT:=λσ H Q=>t σ H λc H1=>if c=true then Q true H1 else u σ H1 Q
def tNot(t:TT):TT:=λσ H Q=>t σ H λc H1=>Q (!c) H1
variable{a:Expr}{tA:TT}
def zrk(z:PT X a tA):PW X (.BoolOp .And [a] pos) tA:=by
 intro D pins s σ H Q I h;refine isTrue_and (thn (z pins s σ H Q I h) λc J e=>?_);cases c with
 |true=>exact isTrue_and_nil e |false=>exact e
def zt9(z:PT X a tA):PW X (.BoolOp .Or [a] pos) tA:=by
 intro D pins s σ H Q I h;refine isTrue_or (thn (z pins s σ H Q I h) λc J e=>?_);cases c with
 |false=>exact isTrue_or_nil e |true=>exact e
variable{b:Expr}{tB':TT}{rest:ci}
def zua(J:PT X a tA)(L:PW X (.BoolOp .And (b::rest) pos) tB'):PW X (.BoolOp .And (a::b::rest) pos) (tAnd tA tB'):=by
 intro R pins s σ H Q I h;refine isTrue_and (thn (J pins s σ H _ I h) λc S U=>?_);obtain⟨H1,z,D⟩:=U;cases c with
 |true=>exact L R pins S σ H1 Q z D |false=>exact⟨H1,z,D⟩
def zwz(J:PT X a tA)(L:PW X (.BoolOp .Or (b::rest) pos) tB'):PW X (.BoolOp .Or (a::b::rest) pos) (tOr tA tB'):=by
 intro R pins s σ H Q I h;refine isTrue_or (thn (J pins s σ H _ I h) λc S U=>?_);obtain⟨H1,z,D⟩:=U;cases c with
 |true=>exact⟨H1,z,D⟩ |false=>exact L R pins S σ H1 Q z D
def zub(z:PT X a tA):PT X (.UnaryOp .Not a pos) (tNot tA):=by
 intro pins s σ H Q I h;refine isTrue_not (thn (z pins s σ H (λc H1=>Q (!c) H1) I h) λc J h=>?_);obtain⟨H1,D,q⟩:=h;exact⟨H1,D,q⟩
def zw0(ta tb:TE):TE:=λσ H Q=>ta σ H λx H1=>∃c,x=.bl c/\if c=true then tb σ H1 Q else Q (.bl false) H1
def zw1(ta:TE):TE:=λσ H Q=>ta σ H λx H1=>∃c,x=.bl c/\Q (.bl (!c)) H1
def zuc{op}(h:PE X a t):PE X (.BoolOp op [a] pos) t:=λpins s σ H Q I z=>BoolOp_one (h pins s σ H Q I z)
variable{ta tb:TE}
def zud(J:PE X a ta)(L:PE X (.BoolOp .And (b::rest) pos) tb):PE X (.BoolOp .And (a::b::rest) pos) (zw0 ta tb):=by
 intro pins s σ H Q I h;refine BoolOp_and (thn (J pins s σ H _ I h) λv R S=>?_);obtain⟨x,H1,D,U,z⟩:=S;obtain⟨c,rfl,z⟩:=z;cases U;refine wpAny_truthy_bool ?_;cases c with
 |true=>exact L pins R σ H1 Q D z |false=>exact⟨.bl false,H1,D,rfl,z⟩
def zue(D:PE X a ta):PE X (.UnaryOp .Not a pos) (zw1 ta):=by
 intro pins s σ H Q I h;refine UnaryOp_ (thn (D pins s σ H _ I h) λv S J=>?_);obtain⟨x,H1,L,R,z⟩:=J;obtain⟨c,rfl,z⟩:=z;cases R;exact not_of (wpAny_truthy_bool ⟨.bl (!c),H1,L,rfl,z⟩)
def SqL(K:dc)(H:Hp)(a:Addr)(xs:ed):Prop :=
 Rd H a (.lst xs) \/
  ∃(o:Obj) (its:eb) (n:Nat),K.lookup a=some o/\o.cls=.type "list"/\o.dict=none/\o.data=.seq its n/\its.size<=sizeLine/\Vals xs its.toList
def SqT(K:dc)(H:Hp)(a:Addr)(xs:ed):Prop :=
 Rd H a (.tup xs) \/
  ∃(o:Obj) (its:eb) (n:Nat),K.lookup a=some o/\o.cls=.type "tuple"/\o.data=.seq its n/\its.size<=sizeLine/\Vals xs its.toList
def absV:Value->Option V
 | .none=>some .non | .bool b=>some (.bl b) | .int i _=>some (.int i)
 | .str x _=>some (.str x) | .bytes b _=>some (.byt b) | .float b _=>some (.flt b) | .ref a=>some (.ref a) | .type n=>some (.ty n) |_=>none
def RelV.abs{x:V}(r:RelV x u):absV u=some x:=by
 cases x with
 |non=>cases r;rfl
 |bl _=>cases r;rfl
 |int _=>obtain⟨t,rfl⟩:=r;rfl |str _=>obtain⟨t,rfl⟩:=r;rfl |byt _=>obtain⟨t,rfl⟩:=r;rfl |flt _=>obtain⟨t,rfl⟩:=r;rfl |ref _=>cases r;rfl
 |ty _=>cases r;rfl
def RelV.inj{x y:V}{u:Value}(r:RelV x u)(q:RelV y u):x=y:=az (r.abs.symm.trans q.abs)
def Vals.inj{xs ys:ed}{us:b0}(h:Vals xs us)(g:Vals ys us):xs=ys:=by
 induction h generalizing ys with
 |nil=>cases g;rfl
 |cons r t ih=>cases g with |cons p q=>rw[r.inj p,ih q]
variable{a:Addr}{K:dc}
def SqT.of(h:H a=some (.tup xs)):SqT K H a xs:=.inl (.inl h)
def Inv.list(I:Inv X pins σ H s)(h:SqL X.K H a xs):∃its:b0,Vals xs its/\PlainL s.heap a its.toArray/\xs.length<=sizeLine:=by
 rcases h with h | ⟨o,its,n,hk,hc,hd,hs,hz,r⟩
 ·obtain⟨z,its,n,r,e⟩:=h.ok I.hok
  exact⟨its,r,⟨_,n,e,rfl,rfl,rfl⟩,z⟩
 ·refine⟨its.toList,r,⟨o,n,I.kIn a o hk,hc,hd,by simpa using hs⟩,?_⟩
  have e:=r.length;simp only[ft] at e;omega
def Inv.tuple(I:Inv X pins σ H s)(h:SqT X.K H a xs):∃its:b0,Vals xs its/\IsTup s.heap a its.toArray/\xs.length<=sizeLine:=by
 rcases h with h | ⟨o,its,n,hk,hc,hs,hz,r⟩
 ·obtain⟨z,its,r,p⟩:=h.ok I.hok
  exact⟨its,r,p,z⟩
 ·refine⟨its.toList,r,⟨o,I.kIn a o hk,hc,n,by simpa using hs⟩,?_⟩
  have e:=r.length;simp only[ft] at e;omega
def Inv.list_inj(I:Inv X pins σ H s)(h:SqL X.K H a xs)(h':SqL X.K H a ys):xs=ys:=by
 obtain⟨its,r,⟨o,n,e,_,_,d⟩,_⟩:=I.list h;obtain⟨its',z,⟨o',D,e',_,_,d'⟩,_⟩:=I.list h';rw[e] at e';cases e';rw[d] at d';injection d' with d1 _;have:its=its':=by simpa using congrArg Array.toList d1
 subst this;exact r.inj z
def Inv.tuple_inj(I:Inv X pins σ H s)(h:SqT X.K H a xs)(h':SqT X.K H a ys):xs=ys:=by
 obtain⟨its,r,⟨o,e,_,n,d⟩,_⟩:=I.tuple h;obtain⟨its',z,⟨o',e',_,D,d'⟩,_⟩:=I.tuple h';rw[e] at e';cases e';rw[d] at d';injection d' with d1 _;have:its=its':=by simpa using congrArg Array.toList d1
 subst this;exact r.inj z
abbrev Cx.wish(X:Cx)(E:Value->Shared->Prop):Cx:={ X with xe:=E }
abbrev Cx.nox(X:Cx):Cx:=X.wish λ_ _=>False
def Cx.Ok.wish(ok:X.Ok)(E:Value->Shared->Prop):(X.wish E).Ok :=
 ⟨ok.mod,ok.kind,ok.glob,ok.blt,ok.above,ok.inj,ok.has,ok.cab,ok.hd,ok.frames,ok.stk,ok.exf,ok.bs,ok.bsz,ok.noex,ok.exfs,ok.funs,ok.frf⟩
def Cx.Ok.unwish(ok:(X.wish E).Ok):X.Ok :=
 ⟨ok.mod,ok.kind,ok.glob,ok.blt,ok.above,ok.inj,ok.has,ok.cab,ok.hd,ok.frames,ok.stk,ok.exf,ok.bs,ok.bsz,ok.noex,ok.exfs,ok.funs,ok.frf⟩
def Inv.wish(I:Inv X pins σ H s)(E:Value->Shared->Prop):Inv (X.wish E) pins σ H s:=⟨I.ok.wish E,I.os,I.bare,I.base,I.loc,I.cell,I.free,I.freeC,I.pin,I.hok,I.len⟩
def Inv.unwish(I:Inv (X.wish E) pins σ H s):Inv X pins σ H s:=⟨I.ok.unwish,I.os,I.bare,I.base,I.loc,I.cell,I.free,I.freeC,I.pin,I.hok,I.len⟩
def SP.unwish{D:Ends}{f:Flow}{s':Shared}(h:SP (X.wish E) pins D f s'):SP X pins D f s':=by
 cases f with
 |next=>obtain⟨z,H',I,q⟩:=h;exact⟨z,H',I.unwish,q⟩ |brk=>obtain⟨z,H',I,q⟩:=h;exact⟨z,H',I.unwish,q⟩ |cont=>obtain⟨z,H',I,q⟩:=h;exact⟨z,H',I.unwish,q⟩ |ret u=>obtain⟨v,z,H',I,r,q⟩:=h;exact⟨v,z,H',I.unwish,r,q⟩
variable{t:TS}{st:Stmt}
def PSs.nox{st:List Stmt}(h:PSs X.nox st t):PSs X st t:=λpins s σ H D I J =>
 wpAny_mono (h pins s σ H D (I.wish _) J) (λ_ _ q=>q.unwish) λ_ _ z=>False.elim z
def zw2:TS:=λD σ H=>D.nx σ H
def tSeq(t u:TS):TS:=λD σ H=>t { D with nx:=u D } σ H
def zrl:PSs X [] zw2:=λ_ _ σ H _ I h=>wpAny_execs_nil ⟨σ,H,I,h⟩
variable{u:TS}{rest:List Stmt}
def zo2(h1:PS X st t)(h2:PSs X rest u):PSs X (st::rest) (tSeq t u):=by
 intro pins s σ H D I h;refine wpAny_execs_cons (thn (h1 pins s σ H { D with nx:=u D } I h) λf J q=>?_);cases f with
 |next =>
   obtain⟨z,H',L,q⟩:=q;exact h2 pins J z H' D L q
 |ret v=>exact q |brk=>exact q |cont=>exact q
def zrm(h1:PS X st t):PSs X [st] t:=by
 intro pins s σ H D I h;refine wpAny_execs_cons (thn (h1 pins s σ H D I h) λf z q=>?_);cases f with
 |next=>exact wpAny_execs_nil q |ret v=>exact q |brk=>exact q |cont=>exact q
def Inv.quiet(I:Inv X pins σ H s):interactive X.env=false:=by simp[interactive,I.ok.kind]
def zw3(te:TE):TS:=λD σ H=>te σ H λ_ H1=>D.nx σ H1
variable{te:TE}
def zrn(z:PE X e te)(J:swapsWith e none pos.line X.env=pure false:=by rfl):PS X (.Expr e pos) (zw3 te):=by
 intro pins s σ H D I h;exact wpAny_Expr_any (thn (z pins s σ H _ I h) λv s1 ⟨x,H1,I1,r1,q1⟩=>⟨σ,H1,I1,q1⟩) I.quiet J
def tRet(te:TE):TS:=λD σ H=>te σ H D.rt
def ya(z:PE X e te):PS X (.Return (some e) pos) (tRet te):=by
 intro pins s σ H D I h;exact wpAny_Return_some (thn (z pins s σ H _ I h) λv s1 ⟨x,H1,I1,r1,q1⟩=>⟨x,σ,H1,I1,r1,q1⟩)
def tIfS(c:TT)(t u:TS):TS:=λD σ H=>c σ H λb H1=>if b=true then t D σ H1 else u D σ H1
variable{a c:Expr}{tc:TT}
def zw4{a b:List Stmt}(R:PT X c tc)(S:PSs X a t)(U:PSs X b u):PS X (.If c a b pos) (tIfS tc t u):=by
 intro pins s σ H D I h;refine wpAny_If (thn (R pins s σ H _ I h) λd z V=>?_);obtain⟨H1,J,L⟩:=V;cases d with
 |true=>exact S pins z σ H1 D J L |false=>exact U pins z σ H1 D J L
def zuf:TS:=λ_ _ _=>False
def zo3:PS X st zuf:=λ_ _ _ _ _ _ h=>h.elim
abbrev TG:=V->St->Hp->(St->Hp->Prop)->Prop
abbrev TGs:=ed->St->Hp->(St->Hp->Prop)->Prop
def PG(X:Cx)(z:Expr)(t:TG):Prop :=
 ∀(pins:dt) (s:Shared) (σ:St) (H:Hp) (v:V) (u:Value) (Q:St->Hp->Prop),Inv X pins σ H s->RelV v u->t v σ H Q ->
  wpAny (model X.prog X.w) X.A (assign z X.env u) (λ_ s'=>∃D H',Inv X pins D H' s'/\Q D H') X.xe s
def PGs(X:Cx)(ts:ci)(t:TGs):Prop :=
 ∀(pins:dt) (s:Shared) (σ:St) (H:Hp) (vs:ed) (us:b0) (Q:St->Hp->Prop),Inv X pins σ H s->Vals vs us->t vs σ H Q ->
  wpAny (model X.prog X.w) X.A (assignInOrder ((assignEach ts X.env).map (·.2)) us) (λ_ s'=>∃z H',Inv X pins z H' s'/\Q z H') X.xe s
abbrev TSet:=V->V->V->Hp->(Hp->Prop)->Prop
def PSet(X:Cx)(t:TSet):Prop :=
 ∀(pins:dt) (s:Shared) (σ:St) (H:Hp) (o i v:V) (z D u:Value) (Q:Hp->Prop),Inv X pins σ H s->RelV o z->RelV i D->RelV v u->t o i v H Q ->
  wpAny (model X.prog X.w) X.A (setItem z D u) (λ_ s'=>∃H',Inv X pins σ H' s'/\Q H') X.xe s
abbrev TIp:=V->V->Hp->VK->Prop
def PIp(X:Cx)(op:Operator)(t:TIp):Prop :=
 ∀(pins:dt) (s:Shared) (σ:St) (H:Hp) (x y:V) (v u:Value) (Q:VK),Inv X pins σ H s->RelV x v->RelV y u->t x y H Q ->
  wpAny (model X.prog X.w) X.A (inplaceOp op v u) (EP X pins σ Q) X.xe s
def kq(i:Nat):TG:=λv σ H Q=>Q (σ.set i (some v)) H
def zmu(z:X.N.Nodup)(hi:X.N[i]?=some x)(D:Loc X.env.scope x)(J:X.fn x=true\/X.env.scope.names.lookup x=some .local:=by first |exact .inl rfl |exact .inr rfl |assumption):PG X (.Name x pos) (kq i):=by
 intro pins s σ H v u Q I r h;exact wpAny_assign_Name (vb I z hi D r (λs' L=>⟨_,H,L,h⟩) J)
def gNil:TGs:=λvs σ H Q=>vs=[]/\Q σ H
def zug(t:TG)(u:TGs):TGs:=λvs σ H Q=>∃v r,vs=v::r/\t v σ H λz H'=>u r z H' Q
def zro:PGs X [] gNil:=by
 intro pins s σ H vs us Q I r h;obtain⟨e,h⟩:=h;subst e;cases r;exact assignInOrder_nil ⟨σ,H,I,h⟩
variable{u:Value}{t:TA}{es:ci}
def zo4{t:TG}{u:TGs}(h1:PG X e t)(h2:PGs X es u)(D:(assignEach (e::es) X.env).map (·.2)=assign e X.env::(assignEach es X.env).map (·.2):=by rfl):PGs X (e::es) (zug t u):=by
 intro pins s σ H vs us Q I r h;obtain⟨v,V,J,h⟩:=h;subst J;cases r with
 |cons r rr =>
   rw[D];refine assignInOrder_cons (thn (h1 pins s σ H _ _ _ I r h) λ_ L R=>?_);obtain⟨z,H1,S,U⟩:=R;exact h2 pins L z H1 _ _ Q S rr U
def gTup(K:dc)(n:Nat)(t:TGs):TG:=λv σ H Q=>∃a xs,v=.ref a/\SqT K H a xs/\xs.length=n/\t xs σ H Q
variable{k n:Nat}
def zuh{t:TGs}(L:X.calm=true)(h:PGs X es t)(R:(assignEach es X.env).length=n:=by rfl)(z:(assignEach es X.env).findIdx? (·.1)=none:=by rfl):PG X (.Tuple es k pos) (gTup X.K n t):=by
 intro pins s σ H v u Q I r D;obtain⟨a,xs,S,U,V,D⟩:=D;subst S;cases r;obtain⟨its,J,Y,d⟩:=I.tuple U;refine assign_Tuple_tuple (I.ok.hd L) Y (by simp[R,<-V,J.length]) z λh' Z=>?_;have c:Inv X pins σ H { s with heap:=h' }:=I.kept (t':=s.toks) λb o e=>Z b o (bz (bj e)) e;exact h pins _ σ H xs _ Q c (by simpa using J) D
def tAsg(te:TE)(g:TG):TS:=λD σ H=>te σ H λx H1=>g x σ H1 D.nx
variable{pos':Pos}
def zqp(z:X.N.Nodup)(hi:X.N[i]?=some x)(J:Loc X.env.scope x)(L:PE X e te)(R:swapsWith e (some (.Name x pos')) pos.line X.env=pure false:=by rfl)(S:X.fn x=true\/X.env.scope.names.lookup x=some .local:=by first |exact .inl rfl |exact .inr rfl |assumption) :
  PS X (.Assign [.Name x pos'] e pos) (tAsg te (kq i)):=by
 intro pins s σ H D I h;refine wpAny_Assign_Name (thn (L pins s σ H _ I h) λv b U=>?_) R;obtain⟨y,H1,V,Y,Z⟩:=U;exact vb V z hi J Y (λs2 a=>⟨_,H1,a,Z⟩) S
def tAug(i:Nat)(te:TE)(I:TIp):TS:=λD σ H=>∃x,σ[i]?=some (some x)/\te σ H λy H1=>I x y H1 λz H2=>D.nx (σ.set i (some z)) H2
variable{op:Operator}
def zui{U:TIp}(V:X.N.Nodup)(hi:X.N[i]?=some x)(L:Loc X.env.scope x)(Y:PE X e te)(Z:PIp X op U)(a:X.fn x=true\/X.env.scope.names.lookup x=some .local:=by first |exact .inl rfl |exact .inr rfl |assumption) :
  PS X (.AugAssign (.Name x pos') op e pos) (tAug i te U):=by
 intro pins s σ H D I h;obtain⟨v,b,h⟩:=h;obtain⟨m,d,f⟩:=I.loc;have R:Vis X.env.scope x:=by rcases L with k |k;exact .inl k;exact .inr (.inl k)
 obtain⟨u,r,l⟩:=f i x v hi b R;refine wpAny_AugAssign_Name ?_;have go:wpAny (model X.prog X.w) X.A (eval e X.env) (λw s₂=>wpAny (model X.prog X.w) X.A (inplaceOp op u w) (λr J=>wpAny (model X.prog X.w) X.A (storeName X.env x r) (λ_=>SP X pins D .next) X.xe J) X.xe s₂) X.xe s:=by
  refine thn (Y pins s σ H _ I h) λw g S=>?_;obtain⟨y,H1,j,n,o⟩:=S;refine thn (Z pins g σ H1 v y u w _ j r n o) λz s2 S=>?_;obtain⟨E,H2,p,q,t⟩:=S;exact vb p V hi L q (λF B=>⟨_,H2,B,t⟩) a
 rcases l with⟨hk,C⟩ | ⟨hk,c,hc,hcell⟩
 ·exact wpAny_loadName_local I.ok.kind hk d C go
 ·rcases hk with hk |hk
  ·exact wpAny_loadName_cell I.ok.kind hk hc hcell go
  ·rcases L with k |k
   ·have:X.env.scope.names.lookup x=some .free:=hk
    rw[k] at this;cases this
   ·have:X.env.scope.names.lookup x=some .free:=hk
    rw[k] at this;cases this
def zuj(to R te:TE)(I:V->V->Hp->VK->Prop)(L:TIp)(J:TSet):TS:=λD σ H=>to σ H λo H1=>R σ H1 λi H2=>I o i H2 λx S=>te σ S λy U=>L x y U λz Y=>J o i z Y λZ=>D.nx σ Z
def PGet(X:Cx)(t:V->V->Hp->VK->Prop):Prop :=
 ∀(pins:dt) (s:Shared) (σ:St) (H:Hp) (o i:V) (z D:Value) (Q:VK),Inv X pins σ H s->RelV o z->RelV i D->t o i H Q ->
  wpAny (model X.prog X.w) X.A (getItem z D) (EP X pins σ Q) X.xe s
variable{i:Int}
def zmv{o i:Expr}{to b:TE}{L:V->V->Hp->VK->Prop}{Y:TIp}{R:TSet}{Z:Pos}(j:PE X o to)(hi:PE X i b)(k:PGet X L)(l:PE X e te)(m:PIp X op Y)(n:PSet X R)(p:∀S U z,augStore i S U z=(do holding [z,S,U] (setItem S U z);release [z,S,U] [];pure .next):=by intros;rfl):PS X (.AugAssign (.Subscript o i Z) op e pos) (zuj to b te L Y R):=by
 intro pins s σ H D I h;refine wpAny_AugAssign_SubscriptAny (thn (j pins s σ H _ I h) λS q J=>?_) p;obtain⟨c,H1,r,d,t⟩:=J;refine thn (hi pins q σ H1 _ r t) λU s2 J=>?_;obtain⟨f,H2,u,g,w⟩:=J;refine thn (k pins s2 σ H2 c f S U _ u d g w) λa x J=>?_;obtain⟨y,A,B,r3,C⟩:=J;refine thn (l pins x σ A _ B C) λv E J=>?_;obtain⟨F,G,K,M,N⟩:=J;refine thn (m pins E σ G y F a v _ K r3 M N) λz O J=>?_;obtain⟨P,Q,T,W,q5⟩:=J;exact thn (n pins O σ Q c f P S U z _ T d g W q5) λ_ s6 ⟨H6,I6,q6⟩=>⟨σ,H6,I6,q6⟩
def ipI(f:Int->Int->Int):TIp:=λx y H Q=>∃i j,x=.int i/\y=.int j/\Q (.int (f i j)) H
def zqq:PIp X .Add (ipI λi j=>i+j):=by
 intro pins s σ H x y v u Q I z D h;obtain⟨i,j,J,L,q⟩:=h;subst J;subst L;obtain⟨t,rfl⟩:=z;obtain⟨t',rfl⟩:=D;exact iadd_int ⟨.int _,H,I.tok _,⟨_,rfl⟩,q⟩
def zuk:PIp X .Sub (ipI λi j=>i-j):=by
 intro pins s σ H x y v u Q I z D h;obtain⟨i,j,J,L,q⟩:=h;subst J;subst L;obtain⟨t,rfl⟩:=z;obtain⟨t',rfl⟩:=D;exact isub_int ⟨.int _,H,I.tok _,⟨_,rfl⟩,q⟩
def zul(c:TT)(tb:TS):TS:=λD σ H=>∃W:Nat->St->Hp->Prop,(∃m,W m σ H)/\∀m σ H,W m σ H ->
 c σ H λb H1=>if b=true then ∃N:St->Hp->Prop,(∀z H',N z H'->∃I,I<m/\W I z H')/\tb { D with nx:=N,ct:=N,bk:=D.nx } σ H1 else D.nx σ H1
variable{body:List Stmt}
def zo5{tb:TS}(d:PassesOwn (model X.prog X.w) X.A X.env X.xe)(i:PT X c tc)(j:PSs X body tb):PS X (.While c body [] pos) (zul tc tb):=by
 intro pins s σ H D I h;obtain⟨W,⟨k,l⟩,turn⟩:=h;refine wpAny_While (codeAny_whileLoop (λn s'=>∃J H',Inv X pins J H' s'/\W n J H') ?_ k ⟨σ,H,I,l⟩);rintro n m ⟨σ1,H1,I1,w1⟩;refine wpAny_passesOwn d (thn (i pins m σ1 H1 _ I1 (turn n σ1 H1 w1)) λb s2 o=>?_);obtain⟨H2,e,R⟩:=o;cases b with
 |true =>
   obtain⟨N,g,R⟩:=R;rw[if_pos rfl];refine wpAny_passesOwn d (thn (j pins s2 σ1 H2 _ e R) λf p S=>?_);cases f with
   |next =>
     obtain⟨z,L,U,V⟩:=S;obtain⟨Y,Z,a⟩:=g z L V;exact⟨Y,Z,z,L,U,a⟩
   |cont =>
     obtain⟨z,L,U,V⟩:=S;obtain⟨Y,Z,a⟩:=g z L V;exact⟨Y,Z,z,L,U,a⟩
   |brk=>exact S |ret v=>exact S
 |false =>
   rw[if_neg bu];exact wpAny_execs_nil ⟨σ1,H2,e,R⟩
structure It where
 go:Nat->Hp->Prop
 yld:Nat->Hp->V->Hp->Prop
 stop:Nat->Hp->Prop
def FpOk(X:Cx)(pins:dt)(H:Hp)(b:Addr):Prop :=
 H b=none/\b≠X.env.locals/\b∉X.fs/\(b∈X.ex\/X.s₀.heap.objs.size<=b)/\(∀x c,X.env.cells.lookup x=some c->c≠b)/\∀p∈X.pn++pins,p.1≠b
def Inv.fpOk{b:Addr}(I:Inv X pins σ H s)(D:s.heap.objs.size<=b)(J:H' b=none):FpOk X pins H' b:=by
 refine⟨J,ky (ba I.lt D),I.nofs D,.inr (bh I.sz D),λx c e z=>?_,λp L z=>?_⟩
 ·obtain⟨v,q⟩:=I.cell x c e
  exact absurd (ba q.lt (by rw[z];exact D)) (f8 _)
 ·exact absurd (ba (bj (I.pin p L).1) (by rw[z];exact D)) (f8 _)
structure qc (Cm:Cx->Prop) (P:Program) (w:World) (K:dc) (tg:Expr) (J:It) (fp:b4) (it:Addr) (tn:Nat->Heap->Prop):Prop where
 mem:it∈fp
 obj:∀i h,tn i h->∀b∈fp,∃o,h.get? b=some o/\∀v,o.data≠.cell v
 keep:∀i h h',tn i h->(∀b∈fp,∀o,h.get? b=some o->h'.get? b=some o)->tn i h'
 item:∀(X:Cx),X.prog=P->X.w=w->X.K=K->Cm X->∀(i:Nat) (pins:dt) (s:Shared) (σ:St) (H:Hp) (E:Value->Shared->Prop),Inv X pins σ H s->(∀b∈fp,FpOk X pins H b)->tn i s.heap->J.go i H ->
  wpAny (model P w) X.A (pyNext (.ref it)) (λr s1=>∃u,r=some u /\
   wpAny (model P w) X.A (letOwnedTupleGo tg (.ref it) u) (λ_ s2=>∃x H',Inv X pins σ H' s2/\RelV x u/\J.yld i H x H'/\tn (i+1) s2.heap/\∀b∈fp,H' b=none) E s1) E s
 done:∀(X:Cx),X.prog=P->X.w=w->X.K=K->Cm X->∀(i:Nat) (pins:dt) (s:Shared) (σ:St) (H:Hp) (E:Value->Shared->Prop),Inv X pins σ H s->(∀b∈fp,FpOk X pins H b)->tn i s.heap->J.stop i H ->
  wpAny (model P w) X.A (pyNext (.ref it)) (λr s1=>r=none/\Inv X pins σ H s1) E s
 self:∀(A:Around) (i:Nat) (s:Shared) (Q:Value->Shared->Prop) (E:Value->Shared->Prop),tn i s.heap->Q (.ref it) s->wpAny (model P w) A (pyIter (.ref it)) Q E s
abbrev Turn:=qc λX=>X.calm=true
abbrev TI:=St->Hp->(It->Hp->Prop)->Prop
def PIEC(Cm:Cx->Prop)(X:Cx)(pins:dt)(σ:St)(tg:Expr)(R:It->Hp->Prop)(z:Value)(s2:Shared):Prop :=
 ∃(it:Addr) (fp:b4) (D:Nat->Heap->Prop) (J:It) (H':Hp),z=.ref it/\Inv X pins σ H' s2/\qc Cm X.prog X.w X.K tg J fp it D/\D 0 s2.heap/\(∀b∈fp,FpOk X pins H' b)/\R J H'
def PIC(Cm:Cx->Prop)(X:Cx)(tg iter:Expr)(wi:TI):Prop :=
 ∀(pins:dt) (s:Shared) (σ:St) (H:Hp) (R:It->Hp->Prop),Inv X pins σ H s->wi σ H R ->
  wpAny (model X.prog X.w) X.A (eval iter X.env) (λv z=>wpAny (model X.prog X.w) X.A (pyIter v) (PIEC Cm X pins σ tg R) X.xe z) X.xe s
abbrev PI:=PIC λX=>X.calm=true
variable{tg:Expr}{vs:ed}
def xo{n:String}{vs:eb}{Q:Unit->Shared->Prop}(D:s.heap.get? it=some o)(I:o.cls=.type n)(hd:o.data=.fields vs)(J:["enumerate", "zip", "dict_itemiterator", "dict_reverseitemiterator", "odict_iterator", "itertools.zip_longest", "itertools.pairwise"].contains n=false)(z:Q () s):wpAny M A (letOwnedTupleGo tg (.ref it) u) Q E s:=by
 unfold letOwnedTupleGo;cases tg <;> first
  |exact wpAny_pure z
  | (cases u <;> first
      |exact wpAny_pure z
      | (refine wpAny_bind (wpAny_load D ?_)
         rw[I,hd];show wpAny M A (if (["enumerate", "zip", "dict_itemiterator", "dict_reverseitemiterator", "odict_iterator", "itertools.zip_longest", "itertools.pairwise"].contains n && vs[0]?==some (rawInt _))=true then _ else _) Q E s;rw[if_neg (by intro h;rw[J,Bool.false_and] at h;cases h)];exact wpAny_pure z))
def Itl(K:dc)(a:Addr):It :=
 ⟨λi H=>∃xs x,SqL K H a xs/\xs[i]?=some x,λi H x H'=>H'=H/\∀xs,SqL K H a xs->xs[i]?=some x,λi H=>∃xs,SqL K H a xs/\xs.length<=i⟩
def Itt(K:dc)(a:Addr):It :=
 ⟨λi H=>∃xs x,SqT K H a xs/\xs[i]?=some x,λi H x H'=>H'=H/\∀xs,SqT K H a xs->xs[i]?=some x,λi H=>∃xs,SqT K H a xs/\xs.length<=i⟩
def Itr(lo:Int)(n:Nat):It:=⟨λi _=>i<n,λi H x H'=>H'=H/\x=.int (lo+i),λi _=>n<=i⟩
def zmw(a it:Addr):Turn P w K tg (Itl K a) [it] it (λi h=>h.IsListIter it a i) where
 mem:=by simp
 obj:=λi h st b D=>by
  have e:b=it:=by simpa using D
  subst e;obtain⟨o,e,c,d⟩:=st;exact⟨o,e,λv z=>by rw[d] at z;cases z⟩
 keep:=λi h h' st k=>st.at λo e=>k it (by simp) o e
 item:=by
  intro X hP S U n i pins s σ H E I L st V;subst hP S U;obtain⟨xs,x,R,Y⟩:=V;obtain⟨its,Z,p,q⟩:=I.list R;obtain⟨u,r,t⟩:=Z.get Y;obtain⟨f,g,y,j,l,m⟩:=L it (by simp);refine wpAny_pyNext_list_item st p.isList (x:=u) (by simpa using r) λh' J A=>?_;have B:Inv X pins σ H { s with heap:=h' }:=I.turned (t':=s.toks) (λb o D e=>(A.2 b D).trans e) f g j l m;obtain⟨o,e,c,d⟩:=id J;exact⟨u,rfl,xo (s:={ s with heap:=h' }) e c d (by decide) ⟨x,H,B,t,⟨rfl,λys C=>by rw[I.list_inj C R];exact Y⟩,J,λb D=>(L b D).1⟩⟩
 done:=by
  intro X hP S U n i pins s σ H E I L st V;subst hP S U;obtain⟨xs,R,Y⟩:=V;obtain⟨its,Z,p,q⟩:=I.list R;obtain⟨f,g,y,j,l,m⟩:=L it (by simp);have G:=Z.length;exact wpAny_pyNext_list_end (I.ok.hd n) st p.isList (by simp;omega) λh' F=>⟨rfl,I.turned (t':=s.toks) (λb o D e=>F b o D e) f g j l m⟩
 self:=λ_ _ _ _ _ st h=>wpAny_pyIter_listiter st h
def zlu(a it:Addr):Turn P w K tg (Itt K a) [it] it (λi h=>h.IsTupleIter it a i) where
 mem:=by simp
 obj:=λi h st b D=>by
  have e:b=it:=by simpa using D
  subst e;obtain⟨o,e,c,d⟩:=st;exact⟨o,e,λv z=>by rw[d] at z;cases z⟩
 keep:=λi h h' st k=>st.at λo e=>k it (by simp) o e
 item:=by
  intro X hP S U n i pins s σ H E I L st V;subst hP S U;obtain⟨xs,x,R,Y⟩:=V;obtain⟨its,Z,p,q⟩:=I.tuple R;obtain⟨u,r,t⟩:=Z.get Y;obtain⟨f,g,y,j,l,m⟩:=L it (by simp);refine wpAny_pyNext_tuple_item st (show s.heap.IsTuple a its.toArray from p) (x:=u) (by simpa using r) λh' J A=>?_;have B:Inv X pins σ H { s with heap:=h' }:=I.turned (t':=s.toks) (λb o D e=>(A.2 b D).trans e) f g j l m;obtain⟨o,e,c,d⟩:=id J;exact⟨u,rfl,xo (s:={ s with heap:=h' }) e c d (by decide) ⟨x,H,B,t,⟨rfl,λys C=>by rw[I.tuple_inj C R];exact Y⟩,J,λb D=>(L b D).1⟩⟩
 done:=by
  intro X hP S U n i pins s σ H E I L st V;subst hP S U;obtain⟨xs,R,Y⟩:=V;obtain⟨its,Z,p,q⟩:=I.tuple R;obtain⟨f,g,y,j,l,m⟩:=L it (by simp);have G:=Z.length;exact wpAny_pyNext_tuple_end (I.ok.hd n) st (show s.heap.IsTuple a its.toArray from p) (by simp;omega) λh' F=>⟨rfl,I.turned (t':=s.toks) (λb o D e=>F b o D e) f g j l m⟩
 self:=λ_ _ _ _ _ st h=>wpAny_pyIter_tupleiter st h
def zhq(it:Addr)(lo:Int)(n:Nat):Turn P w K tg (Itr lo n) [it] it (λi h=>IsRangeIter h it (lo+(i:Nat)*1) ((n:Int)-(i:Nat)) 1) where
 mem:=by simp
 obj:=λi h st b D=>by
  have e:b=it:=by simpa using D
  subst e;exact⟨_,st,λv z=>by
   have f:Data.fields _=Data.cell v:=z;cases f⟩
 keep:=λi h h' st k=>k it (by simp) _ st
 item:=by
  intro X hP R S U i pins s σ H E I L st V;subst hP R S;obtain⟨Y,Z,g,a,c,d⟩:=L it (by simp);have W:=Walks.range (prog:=X.prog) (w:=X.w) (I.ok.hd U) it lo 1 n;refine W.item i s _ _ V st λv h' tk j J kk=>?_;obtain⟨t,rfl⟩:=j;have l:Inv X pins σ H { s with heap:=h',toks:=tk }:=I.turned (λb o D e=>kk b o (by simpa using D) e) Y Z a c d;refine⟨_,rfl,xo (s:={ s with heap:=h',toks:=tk }) (n:="range_iterator") J rfl rfl (by decide) ⟨.int (lo+i),H,l,⟨t,?_⟩,⟨rfl,rfl⟩,J,λb D=>(L b D).1⟩⟩;rw[Int.mul_one]
 done:=by
  intro X hP R S U i pins s σ H E I L st V;subst hP R S;obtain⟨Y,Z,g,a,c,d⟩:=L it (by simp);exact wpAny_pyNext_range_end (I.ok.hd U) st (by have:n<=i:=V;omega) λh' m=>⟨rfl,I.turned (t':=s.toks) (λb o D e=>m b o D e) Y Z a c d⟩
 self:=λ_ _ _ _ _ st h=>wpAny_pyIter_rangeiter st h
def zw5(K:dc)(tl:TE):TI:=λσ H R=>tl σ H λx H1=>∃a,x=.ref a/\(∃xs,SqL K H1 a xs)/\R (Itl K a) H1
def iTup(K:dc)(tl:TE):TI:=λσ H R=>tl σ H λx H1=>∃a,x=.ref a/\(∃xs,SqT K H1 a xs)/\R (Itt K a) H1
variable{l:Expr}{tl:TE}
def zrq(J:PE X l tl):PI X tg l (zw5 X.K tl):=by
 intro pins s σ H R I h;refine thn (J pins s σ H _ I h) λv z L=>?_;obtain⟨x,H1,D,S,U⟩:=L;obtain⟨a,e,⟨xs,V⟩,q⟩:=U;subst e;cases S;obtain⟨its,Z,p,c⟩:=D.list V;refine wpAny_pyIter_list p.isList ?_;refine⟨z.heap.objs.size,[z.heap.objs.size],_,_,H1,rfl,D.kept (t':=z.toks) λb o e=>bc _ e,zmw a _,⟨_,cb _ rfl,rfl,rfl⟩,λb Y=>?_,q⟩;have e:b=z.heap.objs.size:=by simpa using Y
 subst e;exact D.fpOk (bg _) (D.hok.fresh (bg _))
def zum(J:PE X l tl):PI X tg l (iTup X.K tl):=by
 intro pins s σ H R I h;refine thn (J pins s σ H _ I h) λv z L=>?_;obtain⟨x,H1,D,S,U⟩:=L;obtain⟨a,e,⟨xs,V⟩,q⟩:=U;subst e;cases S;obtain⟨its,Z,p,c⟩:=D.tuple V;refine wpAny_pyIter_tuple (show z.heap.IsTuple a its.toArray from p) ?_;refine⟨z.heap.objs.size,[z.heap.objs.size],_,_,H1,rfl,D.kept (t':=z.toks) λb o e=>bc _ e,zlu a _,⟨_,cb _ rfl,rfl,rfl⟩,λb Y=>?_,q⟩;have e:b=z.heap.objs.size:=by simpa using Y
 subst e;exact D.fpOk (bg _) (D.hok.fresh (bg _))
variable{Cm:Cx->Prop}
def zkr(hT:∀(it:Addr) (lo:Int) (n:Nat),qc Cm X.prog X.w X.K tg (Itr lo n) [it] it (λi h=>IsRangeIter h it (lo+(i:Nat)*1) ((n:Int)-(i:Nat)) 1)){R:It->Hp->Prop}{lo hi:Int}{t u v:Tok}{tk:Nat}(I:Inv X pins σ H s)(h1:-(2 ^ 62)<=lo)(h2:lo<2 ^ 62)(D:-(2 ^ 62)<=hi)(J:hi<2 ^ 62)(q:R (Itr lo (hi-lo).toNat) H):wpAny (model X.prog X.w) X.A (pyIter (.ref s.heap.objs.size)) (PIEC Cm X pins σ tg R) E { s with heap:=s.heap.push { cls:=.type "range",data:=.fields #[.int lo t,.int hi u,.int 1 v] },toks:=tk }:=by
 refine wpAny_pyIter_range (IsRange.new ..) (small_one h1 h2 D J) ?_;have z:Inv X pins σ H { s with heap:=s.heap.push { cls:=.type "range",data:=.fields #[.int lo t,.int hi u,.int 1 v] },toks:=tk }:=I.kept λb o e=>bc _ e;refine⟨(s.heap.push { cls:=.type "range",data:=.fields #[.int lo t,.int hi u,.int 1 v] }).objs.size,[(s.heap.push { cls:=.type "range",data:=.fields #[.int lo t,.int hi u,.int 1 v] }).objs.size],_,_,H,rfl,
  z.kept (t':=tk) λb o e=>bc _ e,hT _ lo (hi-lo).toNat,?_,λb L=>?_,q⟩
 ·have S:lo+((0:Nat):Int)*1=lo:=by simp
  have U:(((hi-lo).toNat:Nat):Int)-((0:Nat):Int)=Builtin.Range.rangeSize lo hi 1:=by rw[rangeSize_one];split <;> omega
  show IsRangeIter _ _ (lo+((0:Nat):Int)*1) ((((hi-lo).toNat:Nat):Int)-((0:Nat):Int)) 1;rw[S,U];exact cb _ rfl
 ·have e:b=(s.heap.push { cls:=.type "range",data:=.fields #[.int lo t,.int hi u,.int 1 v] }).objs.size:=by simpa using L
  subst e;exact z.fpOk (bg _) (z.hok.fresh (bg _))
def zw6(ta:TA):TI:=λσ H R=>ta σ H λvs H1=>∃j:Int,vs=[.int j]/\-(2 ^ 62)<=j/\j<2 ^ 62/\R (Itr 0 j.toNat) H1
def zw7(ta:TA):TI:=λσ H R=>ta σ H λvs H1=>∃i j:Int,vs=[.int i,.int j]/\(-(2 ^ 62)<=i/\i<2 ^ 62/\-(2 ^ 62)<=j/\j<2 ^ 62)/\R (Itr i (j-i).toNat) H1
variable{p:Pos}
def zlv(hT:∀(it:Addr) (lo:Int) (n:Nat),qc Cm X.prog X.w X.K tg (Itr lo n) [it] it (λi h=>IsRangeIter h it (lo+(i:Nat)*1) ((n:Int)-(i:Nat)) 1)){ta:TA}(D:Gl X "range")(J:X.mg "range" = none)(L:PA X [a] ta)(S:starEach [a] X.env=[(false,eval a X.env)]:=by rfl):PIC Cm X tg (.Call (.Name "range" p) [a] [] pos) (zw6 ta):=by
 intro pins s σ H R I h;refine Call_ (nc I D J boot_range (d4 (thn (L pos pins s σ H _ I h) λus b U=>?_) S rfl));obtain⟨vs,H1,V,Y,z⟩:=U;obtain⟨j,e,z,Z,q⟩:=z;subst e;cases Y with
 |cons r rr =>
   cases rr;obtain⟨t,rfl⟩:=r;exact call_range_1 (zkr hT V (by omega) (by omega) z Z (by simpa using q))
def zmx{ta:TA}(J:Gl X "range")(L:X.mg "range" = none)(S:PA X [a,b] ta)(U:starEach [a,b] X.env=[(false,eval a X.env),(false,eval b X.env)]:=by rfl)(z:starEach [b] X.env=[(false,eval b X.env)]:=by rfl) :
  PI X tg (.Call (.Name "range" p) [a,b] [] pos) (zw7 ta):=by
 intro pins s σ H R I h;refine Call_ (nc I J L boot_range (d4 (thn (S pos pins s σ H _ I h) λus g V=>?_) (by rw[U,z]) (by rw[z];rfl)));obtain⟨vs,H1,Y,Z,D⟩:=V;obtain⟨i,j,e,⟨D,c,d,f⟩,q⟩:=D;subst e;cases Z with
 |cons r rr =>
   cases rr with
   |cons r' rr =>
     cases rr;obtain⟨t,rfl⟩:=r;obtain⟨t',rfl⟩:=r';exact call_range_2 (zkr (λit lo n=>zhq it lo n) Y D c d f q)
def tFor(wi:TI)(g:TG)(tb:TS):TS:=λD σ H=>wi σ H λJ H1=>∃W:Nat->Nat->St->Hp->Prop,(∃m,W 0 m σ H1)/\∀i m σ H,W i m σ H ->
 (J.stop i H/\D.nx σ H)\/(J.go i H/\∃N:St->Hp->Prop,(∀z H',N z H'->∃L,L<m/\W (i+1) L z H')/\∀x H',J.yld i H x H'->g x σ H' λI H2=>tb { D with nx:=N,ct:=N,bk:=D.nx } I H2)
def re(fp:b4)(h:Heap):dt:=fp.filterMap λb=>(h.get? b).map λo=>(b,o)
variable{fp:b4}
def vd{b:Addr}(z:b∈fp)(e:h.get? b=some o):(b,o)∈re fp h:=List.mem_filterMap.mpr ⟨b,z,by rw[e];rfl⟩
def zmy{p:Addr×Obj}(z:p∈re fp h):p.1∈fp/\h.get? p.1=some p.2:=by
 obtain⟨b,D,e⟩:=List.mem_filterMap.mp z;cases q:h.get? b with
 |none=>rw[q] at e;cases e
 |some o =>
   rw[q] at e;have e':(b,o)=p:=az e;subst e';exact⟨D,q⟩
def Inv.pinned(I:Inv X pins σ H s)(J:∀b∈fp,FpOk X pins H b)(L:∀b∈fp,∃o,s.heap.get? b=some o/\∀v,o.data≠.cell v):Inv X (pins++re fp s.heap) σ H s :=
 I.pins_of λp R=>(dh.mp R).elim (λz=>I.pin p (bn _ z)) λz=>by
  obtain⟨D,e⟩:=zmy z;obtain⟨S,U,V,_⟩:=J p.1 D;obtain⟨o,e',d⟩:=L p.1 D;rw[e] at e';cases e';exact⟨e,S,U,V,d⟩
def Inv.unpinned{pins pl:dt}(I:Inv X (pins++pl) σ H s):Inv X pins σ H s:=I.pins_of λp z=>I.pin p (bn _ (db _ z))
variable{g:Int->Int->Int}
def zun{iter:Expr}{wi:TI}{g:TG}{tb:TS}(c:PassesOwn (model X.prog X.w) X.A X.env X.xe)(C:X.calm=true)(hi:PI X tg iter wi)(O:PG X tg g)(L:PSs X body tb)(P:∀x,foldedSetIterable iter X.env x=pure x:=by intro _;rfl):PS X (.For tg iter body [] pos) (tFor wi g tb):=by
 intro pins s σ H D I h;refine wpAny_For (thn (hi pins s σ H _ I h) λv s1 h1=>thn h1 λQ s2 h2=>?_) P;obtain⟨it,fp,E,J,H2,e,I2,T,l,F,W,⟨m0,w0⟩,turn⟩:=h2;subst e;have R:∀ {H':Hp},(∀b∈fp,H' b=none)->∀b∈fp,FpOk X pins H' b:=λhn b L=>⟨hn b L,(F b L).2⟩;refine codeAny_forLoop_any (λn s'=>∃i S H',Inv X pins S H' s'/\E i s'.heap/\(∀b∈fp,H' b=none)/\W i n S H') ?_ m0 ⟨0,σ,H2,I2,l,λb L=>(F b L).1,w0⟩;rintro n G ⟨i,σ3,H3,I3,st3,fr3,w3⟩;rcases turn i n σ3 H3 w3 with⟨j,qn⟩ | ⟨go,N,hN,step⟩
 ·refine wpAny_passesOwn c (thn (T.done X rfl rfl rfl C i pins G σ3 H3 X.xe I3 (R fr3) st3 j) λr s4 Z=>?_)
  obtain⟨p,I4⟩:=Z;subst p;exact wpAny_execs_nil ⟨σ3,H3,I4,qn⟩
 ·refine wpAny_passesOwn c (thn (T.item X rfl rfl rfl C i pins G σ3 H3 X.xe I3 (R fr3) st3 go) λr s4 Z=>?_)
  obtain⟨u,p,h4⟩:=Z;subst p;refine wpAny_passesOwn c (thn h4 λ_ K Z=>?_);obtain⟨x,M,I5,r5,y5,a,q⟩:=Z;have t:=I5.pinned (R q) (T.obj _ _ a);refine wpAny_passesOwn c (thn (O _ K σ3 M x u _ t r5 (step x M y5)) λ_ s6 Z=>?_);obtain⟨y,H6,I6,q6⟩:=Z;refine wpAny_passesOwn c (thn (L _ s6 y H6 _ I6 q6) λf B Y=>?_);have again:∀ {z:St} {U:Hp},Inv X (pins++re fp K.heap) z U B->N z U->∃m,m<n/\∃i S H',Inv X pins S H' B/\E i B.heap/\(∀b∈fp,H' b=none)/\W i m S H':=λ{z U} V k=>by
   obtain⟨m',hm,w7⟩:=hN z U k;refine⟨m',hm,i+1,z,U,V.unpinned,T.keep _ _ _ a λb L o e=>(V.pin (b,o) (bn _ (bn _ (vd L e)))).1,λb L=>?_,w7⟩;obtain⟨o,e,d⟩:=T.obj _ _ a b L;exact(V.pin (b,o) (bn _ (bn _ (vd L e)))).2.1
  cases f with
  |next=>obtain⟨z,U,V,k⟩:=Y;exact again V k |cont=>obtain⟨z,U,V,k⟩:=Y;exact again V k |brk=>obtain⟨z,U,V,Y⟩:=Y;exact⟨z,U,V.unpinned,Y⟩ |ret v=>obtain⟨x7,z,U,V,r7,Y⟩:=Y;exact⟨x7,z,U,V.unpinned,r7,Y⟩
abbrev R2:=V->V->Hp->VK->Prop
def OpR(X:Cx)(f:Value->Value->Sem Value)(r:R2):Prop :=
 ∀(pins:dt) (s:Shared) (σ:St) (H:Hp) (x y:V) (v u:Value) (Q:VK),Inv X pins σ H s->RelV x v->RelV y u->r x y H Q ->
  wpAny (model X.prog X.w) X.A (f v u) (EP X pins σ Q) X.xe s
def UnR(X:Cx)(f:Value->Sem Value)(r:V->Hp->VK->Prop):Prop :=
 ∀(pins:dt) (s:Shared) (σ:St) (H:Hp) (x:V) (v:Value) (Q:VK),Inv X pins σ H s->RelV x v->r x H Q ->
  wpAny (model X.prog X.w) X.A (f v) (EP X pins σ Q) X.xe s
def l3(X:Cx)(f:Value)(r:ed->Hp->VK->Prop):Prop :=
 ∀(pins:dt) (s:Shared) (σ:St) (H:Hp) (xs:ed) (us:b0) (Q:VK),Inv X pins σ H s->Vals xs us->r xs H Q ->
  wpAny (model X.prog X.w) X.A (call f us) (EP X pins σ Q) X.xe s
def tOp(r:R2)(ta tb:TE):TE:=λσ H Q=>ta σ H λx H1=>tb σ H1 λy H2=>r x y H2 Q
def tUn(r:V->Hp->VK->Prop)(ta:TE):TE:=λσ H Q=>ta σ H λx H1=>r x H1 Q
def rI(C:Int->Int->Prop)(g:Int->Int->V):R2:=λx y H Q=>∃i j,x=.int i/\y=.int j/\C i j/\Q (g i j) H
def rI0(g:Int->Int->V):R2:=λx y H Q=>∃i j,x=.int i/\y=.int j/\Q (g i j) H
def rU(g:Int->V):V->Hp->VK->Prop:=λx H Q=>∃i,x=.int i/\Q (g i) H
variable{f:Value->Value->Sem Value}
def binT(J:PE X a ta)(L:PE X b tb){R:V->V->Hp->Prop}(I:Inv X pins σ H s)(h:ta σ H λx H1=>tb σ H1 λy H2=>R x y H2)(S:∀v u s2 x y H2,Inv X pins σ H2 s2->RelV x v->RelV y u->R x y H2->wpAny (model X.prog X.w) X.A (f v u) Q X.xe s2) :
  wpAny (model X.prog X.w) X.A (eval a X.env) (λv z=>wpAny (model X.prog X.w) X.A (eval b X.env) (λu s₂=>wpAny (model X.prog X.w) X.A (f v u) Q X.xe s₂) X.xe z) X.xe s:=by
 refine thn (J pins s σ H _ I h) λv U D=>?_;obtain⟨x,H1,Y,Z,c⟩:=D;refine thn (L pins U σ H1 _ Y c) λu s2 D=>?_;obtain⟨y,H2,d,e,g⟩:=D;exact S v u s2 x y H2 d Z e g
variable{r:R2}
def xn(z:OpR X (binaryOp op) r)(D:PE X a ta)(J:PE X b tb):PE X (.BinOp a op b pos) (tOp r ta tb):=by
 intro pins s σ H Q I h;exact wpAny_BinOp (binT D J I h λv u s2 x y H2 L R S q=>z pins s2 σ H2 x y v u Q L R S q)
variable{op:CmpOp}
def zw8{op:UnaryOp}{r:V->Hp->VK->Prop}(z:UnR X (unaryOp op) r)(D:PE X a ta):PE X (.UnaryOp op a pos) (tUn r ta):=by
 intro pins s σ H Q I h;exact UnaryOp_ (thn (D pins s σ H _ I h) λv s1 ⟨x,H1,I1,r1,q1⟩=>z pins s1 σ H1 x v Q I1 r1 q1)
variable{C:Addr}
def opI{C:Int->Int->Prop}(rule:∀(i j:Int) (t u:Tok) (s:Shared) (Q:Value->Shared->Prop) (E:Value->Shared->Prop),C i j->Q (.int (g i j) s.toks) { s with toks:=s.toks+1 }->wpAny (model X.prog X.w) X.A (f (.int i t) (.int j u)) Q E s) :
  OpR X f (rI C λi j=>.int (g i j)):=by
 intro pins s σ H x y v u Q I z D h;obtain⟨i,j,rfl,rfl,J,q⟩:=h;obtain⟨t,rfl⟩:=z;obtain⟨t',rfl⟩:=D;exact rule i j t t' s _ _ J ⟨.int (g i j),H,I.tok _,⟨_,rfl⟩,q⟩
def opI0(rule:∀(i j:Int) (t u:Tok) (s:Shared) (Q:Value->Shared->Prop) (E:Value->Shared->Prop),Q (.int (g i j) s.toks) { s with toks:=s.toks+1 }->wpAny (model X.prog X.w) X.A (f (.int i t) (.int j u)) Q E s) :
  OpR X f (rI0 λi j=>.int (g i j)):=by
 intro pins s σ H x y v u Q I z D h;obtain⟨i,j,rfl,rfl,q⟩:=h;obtain⟨t,rfl⟩:=z;obtain⟨t',rfl⟩:=D;exact rule i j t t' s _ _ ⟨.int (g i j),H,I.tok _,⟨_,rfl⟩,q⟩
def opB0{g:Int->Int->Bool}(rule:∀(i j:Int) (t u:Tok) (s:Shared) (Q:Value->Shared->Prop) (E:Value->Shared->Prop),Q (.bool (g i j)) s->wpAny (model X.prog X.w) X.A (f (.int i t) (.int j u)) Q E s) :
  OpR X f (rI0 λi j=>.bl (g i j)):=by
 intro pins s σ H x y v u Q I z D h;obtain⟨i,j,rfl,rfl,q⟩:=h;obtain⟨t,rfl⟩:=z;obtain⟨t',rfl⟩:=D;exact rule i j t t' s _ _ ⟨.bl (g i j),H,I,rfl,q⟩
def CDiv(i j:Int):Prop:=0<j/\j<1073741824
def CMul(i j:Int):Prop:=(-(2 ^ 64)<i/\i<2 ^ 64)\/(-(2 ^ 64)<j/\j<2 ^ 64)
def CMul.ok(h:CMul i j):IntMulOk i j:=by
 rcases h with⟨h1,h2⟩ | ⟨h1,h2⟩
 ·exact .of_left (intBits_le_64 h1 h2)
 ·exact .of_right (intBits_le_64 h1 h2)
def zuo:OpR X (binaryOp .Add) (rI0 λi j=>.int (i+j)):=opI0 λ_ _ _ _ _ _ _ q=>add_int q
def zup:OpR X (binaryOp .Sub) (rI0 λi j=>.int (i-j)):=opI0 λ_ _ _ _ _ _ _ q=>sub_int q
def zuq:OpR X (binaryOp .Mult) (rI CMul λi j=>.int (i*j)):=opI λ_ _ _ _ _ _ _ z q=>mul_int q z.ok
def zrs:OpR X (binaryOp .FloorDiv) (rI CDiv λi j=>.int (i / j)):=opI λi j _ _ _ _ _ z q=>by
 have h1:(0:Int)<j:=z.1;have h2:j<1073741824:=z.2;exact floordiv_int (by omega) (by rw[Int.fdiv_eq_ediv_of_nonneg i (by omega)];exact q) (.inl (PyProof.noPylong_small (by omega)))
def zur:OpR X (binaryOp .Mod) (rI (λ_ j=>0<j) λi j=>.int (i % j)):=opI λi j _ _ _ _ _ z q=>by
 have h1:(0:Int)<j:=z;exact mod_int' (by omega) (by rw[Int.fmod_eq_emod_of_nonneg i (by omega)];exact q)
variable{f:Addr}
def unI{f:Value->Sem Value}{g:Int->Int}(rule:∀(i:Int) (t:Tok) (s:Shared) (Q:Value->Shared->Prop) (E:Value->Shared->Prop),Q (.int (g i) s.toks) { s with toks:=s.toks+1 }->wpAny (model X.prog X.w) X.A (f (.int i t)) Q E s) :
  UnR X f (rU λi=>.int (g i)):=by
 intro pins s σ H x v Q I z h;obtain⟨i,rfl,q⟩:=h;obtain⟨t,rfl⟩:=z;exact rule i t s _ _ ⟨.int (g i),H,I.tok _,⟨_,rfl⟩,q⟩
def zus:UnR X (unaryOp .USub) (rU λi=>.int (-i)):=unI λ_ _ _ _ _ q=>neg_int q
def scal:V->V->Bool
 | .non,.non=>true | .non,.int _=>true | .int _,.non=>true | .non,.bl _=>true | .bl _,.non=>true | .non,.str _=>true | .str _,.non=>true | .int _,.int _=>true | .bl _,.bl _=>true | .str _,.str _=>true | .byt _,.byt _=>true | .int _,.str _=>true | .str _,.int _=>true | .bl _,.str _=>true | .str _,.bl _=>true |_,_=>false
def rEq:R2:=λx y H Q=>scal x y=true/\Q (.bl (decide (x=y))) H
def rNe:R2:=λx y H Q=>scal x y=true/\Q (.bl (!decide (x=y))) H
def zmz:decide (V.int i=V.int j)=(i==j):=by
 rw[jp];simp
def zqr{i j:Bool}:decide (V.bl i=V.bl j)=(i==j):=by
 rw[jp];simp
def zm0{i j:Str}:decide (V.str i=V.str j)=(i==j):=by
 rw[jp];simp
def zm1{i j:Array UInt8}:decide (V.byt i=V.byt j)=(i.toList==j.toList):=by
 rw[jp];cases i;cases j;simp
def i5{Q:VK}{k z:Bool}(I:Inv X pins σ H s)(q:Q (.bl k) H)(e:k=z):EP X pins σ Q (.bool z) s:=by
 subst e;exact⟨.bl k,H,I,rfl,q⟩
def zut:OpR X (compareOp .Eq) rEq:=by
 intro pins s σ H x y v u Q I J z h;obtain⟨D,q⟩:=h;cases x with
 |non =>
   cases J;cases y with
   |non=>cases z;exact PySem.EqNone.eq_none_none (i5 I q (by simp))
   |bl j=>cases z;exact PySem.EqNone.eq_none_bool (i5 I q (by simp))
   |int j=>obtain⟨t',rfl⟩:=z;exact PySem.EqNone.eq_none_int (i5 I q (by simp)) |str j=>obtain⟨t',rfl⟩:=z;exact PySem.EqNone.eq_none_str (i5 I q (by simp)) |_=>exact absurd (show false=true from D) bu
 |bl i =>
   cases J;cases y with
   |non=>cases z;exact PySem.EqNone.eq_bool_none (i5 I q (by simp))
   |bl j=>cases z;exact eq_bool (i5 I q zqr)
   |str j=>obtain⟨t',rfl⟩:=z;exact PySem.EqMixed.eq_bool_str (i5 I q (by simp)) |_=>exact absurd (show false=true from D) bu
 |int i =>
   obtain⟨t,rfl⟩:=J;cases y with
   |non=>cases z;exact PySem.EqNone.eq_int_none (i5 I q (by simp))
   |int j=>obtain⟨t',rfl⟩:=z;exact eq_int (i5 I q zmz) |str j=>obtain⟨t',rfl⟩:=z;exact PySem.EqMixed.eq_int_str (i5 I q (by simp)) |_=>exact absurd (show false=true from D) bu
 |str i =>
   obtain⟨t,rfl⟩:=J;cases y with
   |non=>cases z;exact PySem.EqNone.eq_str_none (i5 I q (by simp))
   |bl j=>cases z;exact PySem.EqMixed.eq_str_bool (i5 I q (by simp))
   |int j=>obtain⟨t',rfl⟩:=z;exact PySem.EqMixed.eq_str_int (i5 I q (by simp)) |str j=>obtain⟨t',rfl⟩:=z;exact eq_str (i5 I q zm0) |_=>exact absurd (show false=true from D) bu
 |byt i =>
   obtain⟨t,rfl⟩:=J;cases y with
   |byt j=>obtain⟨t',rfl⟩:=z;exact PySem.W.eq_bytes (i5 I q zm1) |_=>exact absurd (show false=true from D) bu
 |_=>cases y <;> exact absurd (show false=true from D) bu
def zw9:OpR X (compareOp .NotEq) rNe:=by
 intro pins s σ H x y v u Q I J z h;obtain⟨D,q⟩:=h;cases x with
 |non =>
   cases J;cases y with
   |non=>cases z;exact PySem.EqNone.ne_none_none (i5 I q (by simp))
   |bl j=>cases z;exact PySem.EqNone.ne_none_bool (i5 I q (by simp))
   |int j=>obtain⟨t',rfl⟩:=z;exact PySem.EqNone.ne_none_int (i5 I q (by simp)) |str j=>obtain⟨t',rfl⟩:=z;exact PySem.EqNone.ne_none_str (i5 I q (by simp)) |_=>exact absurd (show false=true from D) bu
 |bl i =>
   cases J;cases y with
   |non=>cases z;exact PySem.EqNone.ne_bool_none (i5 I q (by simp))
   |bl j=>cases z;exact ne_bool (i5 I q (congrArg not zqr))
   |str j=>obtain⟨t',rfl⟩:=z;exact PySem.EqMixed.ne_bool_str (i5 I q (by simp)) |_=>exact absurd (show false=true from D) bu
 |int i =>
   obtain⟨t,rfl⟩:=J;cases y with
   |non=>cases z;exact PySem.EqNone.ne_int_none (i5 I q (by simp))
   |int j=>obtain⟨t',rfl⟩:=z;exact ne_int (i5 I q (congrArg not zmz)) |str j=>obtain⟨t',rfl⟩:=z;exact PySem.EqMixed.ne_int_str (i5 I q (by simp)) |_=>exact absurd (show false=true from D) bu
 |str i =>
   obtain⟨t,rfl⟩:=J;cases y with
   |non=>cases z;exact PySem.EqNone.ne_str_none (i5 I q (by simp))
   |bl j=>cases z;exact PySem.EqMixed.ne_str_bool (i5 I q (by simp))
   |int j=>obtain⟨t',rfl⟩:=z;exact PySem.EqMixed.ne_str_int (i5 I q (by simp)) |str j=>obtain⟨t',rfl⟩:=z;exact ne_str (i5 I q (congrArg not zm0)) |_=>exact absurd (show false=true from D) bu
 |byt i =>
   obtain⟨t,rfl⟩:=J;cases y with
   |byt j=>obtain⟨t',rfl⟩:=z;exact PySem.W.ne_bytes (i5 I q (congrArg not zm1)) |_=>exact absurd (show false=true from D) bu
 |_=>cases y <;> exact absurd (show false=true from D) bu
def zxa:OpR X (compareOp .Lt) (rI0 λi j=>.bl (decide (i<j))):=opB0 λ_ _ _ _ _ _ _ q=>lt_int q
def zuu:OpR X (compareOp .Gt) (rI0 λi j=>.bl (decide (j<i))):=opB0 λ_ _ _ _ _ _ _ q=>gt_int q
def zxb:OpR X (compareOp .GtE) (rI0 λi j=>.bl (decide (j<=i))):=opB0 λ_ _ _ _ _ _ _ q=>ge_int q
def o8(b:Expr)(h:op≠.In:=by decide)(h2:op≠.NotIn:=by decide):behindInMarks op b=false:=by
 have z:(op==CmpOp.In)=false:=by cases op <;> first |rfl |exact absurd rfl h
 have D:(op==CmpOp.NotIn)=false:=by cases op <;> first |rfl |exact absurd rfl h2
 cases b <;> simp[behindInMarks,z,D]
def zrt(z:OpR X (compareOp op) r)(D:PE X a ta)(J:PE X b tb)(L:behindInMarks op b=false):PE X (.Compare a [op] [b] pos) (tOp r ta tb):=by
 intro pins s σ H Q I h;exact wpAny_Compare1 (binT D J I h λv u s2 x y H2 R S U q=>z pins s2 σ H2 x y v u Q R S U q) L
def zuv(t:TE):TT:=λσ H Q=>t σ H λx H'=>∃k,x=.bl k/\Q k H'
def zru(D:OpR X (compareOp op) r)(J:PE X a ta)(L:PE X b tb)(R:behindInMarks op b=false):PT X (.Compare a [op] [b] pos) (zuv (tOp r ta tb)):=by
 intro pins s σ H Q I h;refine wpAny_isTrue_Compare1 (thn (J pins s σ H _ I h) λv s1 ⟨x,H1,I1,r1,q1⟩=>thn (L pins s1 σ H1 _ I1 q1) λu s2 ⟨y,H2,I2,r2,q2⟩ =>
  thn (D pins s2 σ H2 x y v u _ I2 r1 r2 q2) λc s3 ⟨z,H3,I3,r3,k,e,q3⟩=>?_) R
 subst e;cases r3;exact wpAny_truthy_bool ⟨H3,I3,q3⟩
def qo:(sizeLine:Nat)<2 ^ 63:=by rw[sizeLine_eq];decide
def qb{x:V}(r:Vals [x] us):∃u,us=[u]/\RelV x u:=by
 cases r with
 |cons r1 r2=>cases r2;exact⟨_,rfl,r1⟩
def xm{x y:V}(r:Vals [x,y] us):∃u z,us=[u,z]/\RelV x u/\RelV y z:=by
 cases r with
 |cons r1 r2 =>
   cases r2 with
   |cons r3 r4=>cases r4;exact⟨_,_,rfl,r1,r3⟩
def zm2(D:X.calm=true):l3 X (.builtin "min") (λxs H Q=>∃i j,xs=[.int i,.int j]/\Q (.int (if j<i then j else i)) H):=by
 intro pins s σ H xs us Q I r h;obtain⟨i,j,rfl,q⟩:=h;obtain⟨u,J,rfl,⟨t,rfl⟩,⟨t',rfl⟩⟩:=xm r;refine min_two_ints (I.ok.hd D) λh' tk k=>⟨_,H,I.kept k,?_,q⟩;by_cases z:j<i
 ·rw[if_pos z,if_pos z];exact⟨_,rfl⟩
 ·rw[if_neg z,if_neg z];exact⟨_,rfl⟩
structure ObjM (h:Heap) (x dx C:Addr) (mA:Str->b2):Prop where
 obj:h.get? x=some (PySem.W.instObj C dx)
 ns:h.Ns1 dx mA
 ne:dx≠x
variable{dx:Addr}{mA:Str->b2}
def zm3(n:h.Ns1 dx mA):∃od,h.get? dx=some od/\∀name,PySem.W.lookIn name od=some (mA name):=by
 obtain⟨o,es,U,I,hd,J,_,L⟩:=n;refine⟨o,I,λname=>?_⟩;have e:=L name;unfold nsFind findBy at e;rw[<-Array.find?_toList] at e;unfold PySem.W.lookIn;rw[hd];dsimp only;split
 ·rename_i y q
  rw[q] at e;exact congrArg some e
 ·rename_i q
  rw[q] at e;have a:es.toList.any (·.refKey)=false:=by
   rw[List.any_eq_false];intro y R;obtain⟨z,t,D⟩:=J y (Array.mem_toList_iff.mp R);simp[DictEntry.refKey,D]
  have S:¬es.toList.any (·.refKey)=true:=by rw[a];exact bu
  rw[if_neg S];exact congrArg some e
def ObjM.look{x:Addr}(I:ObjM h x dx C mA):∃od,PySem.W.InstAt h x (PySem.W.instObj C dx) C (some od)/\∀name,PySem.W.lookIn name od=some (mA name) :=
 let ⟨od,z,D⟩:=zm3 I.ns
 ⟨od,⟨I.obj,rfl,rfl,z⟩,D⟩
variable{a:Addr}{fs:List (Str×V)}
def zrw(D:HOk P w H h)(e:H a=some (.ins C dx fs)):∃mA,ObjM h a dx C mA/\(∀f,RelO (fs.lookup f) (mA f))/\PySem.Within mA (fs.map (·.1))/\fs.length<=1000/\H dx=some (.own a):=by
 obtain⟨d,z,I,J,mA,n,r,q⟩:=(show ObjOk P w H h a (.ins C dx fs) from D a _ e);exact⟨mA,⟨J,n,I⟩,r,q,z,d⟩
structure Cls (K:dc) (C:Addr):Prop where
 pg:PySem.W.plainGet K C Str.empty=true
 hd:PySem.W.hasDictIn K C=true
 po:PySem.W.plainOver K C=true
 sa:PySem.W.findIn K (.ref C) "__setattr__" = some (some (.builtin "object.__setattr__"))
def Cls.get(c:Cls K C)(f:Str):PySem.W.plainGet K C f=true:=c.pg
structure Con (K:dc) (C:Addr) (f:Str) (v:V) (u:Value):Prop where
 at_:PySem.W.findIn K (.ref C) f=some (some u)
 rel:RelV v u
 get:PySem.W.specialIn K u "__get__" = some none
 cp:PySem.W.copiedNames.contains f=false
structure Meth (K:dc) (C:Addr) (m:Str) (f:Addr):Prop where
 at_:PySem.W.findIn K (.ref C) m=some (some (.ref f))
 fn:PySem.W.isFn K (.ref f)=true
 kp:PySem.W.keepIn K (.ref f)=true
inductive TyOf (K:dc) (H:Hp):V->Value->Prop where
 |non:TyOf K H .non (.type "NoneType")
 |bl (x:Bool):TyOf K H (.bl x) (.type "bool")
 |int (i:Int):TyOf K H (.int i) (.type "int")
 |str (x:Str):TyOf K H (.str x) (.type "str")
 |flt (x:UInt64):TyOf K H (.flt x) (.type "float")
 |lst {a:Addr} {xs:ed} (e:H a=some (.lst xs)):TyOf K H (.ref a) (.type "list")
 |frz {a:Addr} {o:Obj} {xs:ed} (e:H a=some (.frz o (.lst xs))):TyOf K H (.ref a) (.type "list")
 |tup {a:Addr} {xs:ed} (e:H a=some (.tup xs)):TyOf K H (.ref a) (.type "tuple")
 |dK {a:Addr} {kvs:List (Key×V)} (e:H a=some (.dK kvs)):TyOf K H (.ref a) (.type "dict")
 |dT {a:Addr} {kvs:List (List Key×V)} (e:H a=some (.dT kvs)):TyOf K H (.ref a) (.type "dict")
 |ins {a C dx:Addr} {fs:List (Str×V)} (e:H a=some (.ins C dx fs)) (cl:Cls K C) (ha:PySem.W.findIn K (.ref C) "__class__" = some (some (.builtin "object.__class__")))
    (hn:PySem.W.specialIn K (.builtin "object.__class__") "__get__" = some (some (.builtin "getset_descriptor.__get__"))) (htk:PySem.W.takesIn K (.builtin "object.__class__")=some true)
    (hm:PySem.W.mroIn K C (.type "object")=some true):TyOf K H (.ref a) (.ref C)
variable{b:Bool}{c:Value}
def zm4{x:V}{t:Value}(I:Inv X pins σ H s)(D:RelV x u)(L:TyOf X.K H x t)(e:PySem.W.kitOne X.K t c=some b)(h:∀tk,Q (.bool b) { s with toks:=tk }) :
  wpAny (model X.prog X.w) A (call (.builtin "isinstance") [u,c]) Q E s:=by
 cases L with
 |non=>cases (show u=Value.none from D);exact df PySem.W.kitx_none I.kIn True.intro e (λz=>nomatch z) h
 |bl y=>cases (show u=Value.bool y from D);exact df PySem.W.kitx_bool I.kIn True.intro e (λz=>nomatch z) h
 |int i=>obtain⟨t,q⟩:=(show ∃t,u=Value.int i t from D);cases q;exact df PySem.W.kitx_int I.kIn True.intro e (λz=>nomatch z) h
 |str y=>obtain⟨t,q⟩:=(show ∃t,u=Value.str y t from D);cases q;exact df PySem.W.kitx_str I.kIn True.intro e (λz=>nomatch z) h
 |flt y=>obtain⟨t,q⟩:=(show ∃t,u=Value.float y t from D);cases q;exact df PySem.W.kitx_float I.kIn True.intro e (λz=>nomatch z) h
 | @lst a xs ea =>
   cases (show u=Value.ref a from D);obtain⟨_,_,n,_,h1⟩:=(show ObjOk X.prog X.w H s.heap a (.lst xs) from I.hok a _ ea);exact df kw I.kIn ⟨_,h1,rfl⟩ e (λz=>nomatch z) h
 | @frz a ob xs ea =>
   cases (show u=Value.ref a from D);obtain⟨_,_,_,n,_,h1⟩:=(show ObjOk X.prog X.w H s.heap a (.frz ob (.lst xs)) from I.hok a _ ea);exact df kw I.kIn ⟨_,h1,rfl⟩ e (λz=>nomatch z) h
 | @tup a xs ea =>
   cases (show u=Value.ref a from D);obtain⟨_,_,_,p⟩:=(show ObjOk X.prog X.w H s.heap a (.tup xs) from I.hok a _ ea);obtain⟨o,h1,h2,_⟩:=p;exact df PySem.W.kitx_tuple I.kIn ⟨o,h1,h2⟩ e (λz=>nomatch z) h
 | @dK a kvs ea =>
   cases (show u=Value.ref a from D);obtain⟨_,_,vs,_,p⟩:=(show ObjOk X.prog X.w H s.heap a (.dK kvs) from I.hok a _ ea);obtain⟨o,es,R,h1,h2,_⟩:=p;exact df PySem.W.kitx_dict I.kIn ⟨o,h1,h2.1⟩ e (λz=>nomatch z) h
 | @dT a kvs ea =>
   cases (show u=Value.ref a from D);obtain⟨_,_,xs,_,o,es,R,h1,h2,_⟩:=(show ObjOk X.prog X.w H s.heap a (.dT kvs) from I.hok a _ ea);exact df PySem.W.kitx_dict I.kIn ⟨o,h1,h2.1⟩ e (λz=>nomatch z) h
 | @ins a C dx fs ea cl ha hn htk hm =>
   cases (show u=Value.ref a from D);obtain⟨mA,O,_⟩:=zrw I.hok ea;obtain⟨od,J,_⟩:=O.look;exact df (PySem.W.kitx_own (cl.get _) cl.hd ha hn htk hm) I.kIn J e (λz=>nomatch z) h
structure Room (k:Nat) (A:Around):Prop where
 hd:A.handled=none
 dp:A.depth+3*k+5<recursionLimit
 un:A.units+16*k+200<cLine
def Room.mono{j:Nat}(r:Room k A)(h:j<=k):Room j A:=⟨r.hd,by have:=r.dp;omega,by have:=r.un;omega⟩
def Room.deeper(r:Room (k+1) A)(env:Env):Room k (A.deeper env) :=
 ⟨r.hd,by have:=r.dp;show A.depth+1+3*k+5<_;omega,by have:=r.un;show A.units+3+16*k+200<_;omega⟩
def Room.depth(r:Room k A):A.depth<recursionLimit:=by have:=r.dp;omega
def tNil:TA:=λ_ H Q=>Q [] H
def xl(ta:TE)(z:TA):TA:=λσ H Q=>ta σ H λx H1=>z σ H1 λxs H2=>Q (x::xs) H2
def ma:PA X [] tNil:=λ_ _ _ _ H Q I h=>Calls.spliced_nil ⟨[],H,I,.nil,h⟩
def lf(z:PE X e te)(D:PA X es t)(J:starEach (e::es) X.env=(false,eval e X.env)::starEach es X.env:=by rfl):PA X (e::es) (xl te t):=by
 intro pos pins s σ H Q I h;rw[J];show wpAny _ _ (spliced ((false,eval e X.env)::backTo pos (starEach es X.env))) _ _ s;refine Calls.spliced_cons (thn (z pins s σ H _ I h) λu L R=>?_);obtain⟨x,H1,S,U,V⟩:=R;exact thn (D pos pins L σ H1 _ S V) λus s2 ⟨xs,H2,I2,r2,q2⟩=>⟨x::xs,H2,I2,.cons U r2,q2⟩
def tTup(t:TA):TE:=λσ H Q=>t σ H λxs H1=>xs.length<=sizeLine/\∀p,H1 p=none->Q (.ref p) (upd H1 p (.tup xs))
def tLst(t:TA):TE:=λσ H Q=>t σ H λxs H1=>xs.length<=sizeLine/\∀p,H1 p=none->Q (.ref p) (upd H1 p (.lst xs))
def zuw{x1}(h:PA X es t):PE X (.Tuple es x1 pos) (tTup t):=by
 intro pins s σ H Q I L;refine wpAny_Tuple_spliced (thn (h pos pins s σ H _ I L) λus D R=>?_);obtain⟨xs,H1,J,r,z,q⟩:=R;refine⟨by rw[<-r.length];exact z,?_⟩;have S:H1 D.heap.objs.size=none:=J.hok.fresh (bg _);refine⟨.ref D.heap.objs.size,upd H1 D.heap.objs.size (.tup xs),J.laid (t':=D.toks) (λb u e=>bc _ e) (bg _) ?_,rfl,q _ S⟩;exact⟨z,us,r,⟨_,cb _ rfl,rfl,_,rfl⟩⟩
def zux(h:PA X es t):PE X (.List es pos) (tLst t):=by
 intro pins s σ H Q I L;refine wpAny_List_spliced (thn (h pos pins s σ H _ I L) λus D R=>?_);obtain⟨xs,H1,J,r,z,q⟩:=R;refine⟨by rw[<-r.length];exact z,?_⟩;have S:H1 D.heap.objs.size=none:=J.hok.fresh (bg _);refine⟨.ref D.heap.objs.size,upd H1 D.heap.objs.size (.lst xs),J.laid (t':=D.toks) (λb u e=>bc _ e) (bg _) ?_,rfl,q _ S⟩;exact⟨z,us,0,r,cb _ rfl⟩
abbrev Sp:=ed->Hp->VK->XK->Prop
abbrev CXT:=cd->Hp->Shared->XK->Value->Shared->Prop
structure Env0 (P:Program) (w:World) (K:dc) (mg:Str->b2) (base:Heap) (A:Around) (outer:cd) (s:Shared) (H:Hp):Prop where
 frames:A.frames=some outer
 mod:Mod K mg base
 bs:∀b o,base.get? b=some o->s.heap.get? b=some o/\H b=none
 bsz:base.objs.size<=s.heap.objs.size
 funs:s.heap.FunFrames base outer
 frf:∀b∈frs outer,H b=none
 hok:HOk P w H s.heap
 bare:AllBare s.gens
def CE(outer:cd)(P:Program)(w:World)(H:Hp)(s:Shared)(Q:VK)(u:Value)(s':Shared):Prop :=
 ∃v H',s'.os=s.os/\AllBare s'.gens/\Un (frs outer) [] H H' s.heap s'.heap/\HOk P w H' s'.heap/\RelV v u/\Q v H'
def CR(CX:CXT)(outer:cd)(P:Program)(w:World)(H:Hp)(s:Shared)(Q:VK)(E:XK)(r:Result)(s':Shared):Prop :=
 match r with
 | .ok (.ret u)=>CE outer P w H s Q u s' | .ok _=>False | .error e=>CX outer H s E e s'
structure FnOk (P:Program) (w:World) (K:dc) (mg:Str->b2) (base:Heap) (CX:CXT) (k:Nat) (f:Addr) (fd:FuncData) (ps:bt) (sp:Sp):Prop where
 len:∀vs H Q E,sp vs H Q E->vs.length=ps.length
 run:∀(A:Around) (outer:cd) (s:Shared) (H:Hp) (args:Args) (us:b0) (vs:ed) (Q:VK) (E:XK),Room k A->Env0 P w K mg base A outer s H->BindsTo s fd args (ps.zip us)->Vals vs us->sp vs H Q E ->
  codeAny (model P w) A (.call (.ref f) args) (CR CX outer P w H s Q E) s
variable{mg:Str->b2}{base:Heap}{CX:CXT}{fd:FuncData}{ps:bt}{sp:Sp}
theorem FnOk.imp{z:Sp}(F:FnOk P w K mg base CX k f fd ps sp)(h:∀vs H Q E,z vs H Q E->sp vs H Q E):FnOk P w K mg base CX k f fd ps z :=
 ⟨λvs H Q E q=>F.len vs H Q E (h _ _ _ _ q),λA outer s H args us vs Q E D I J L R=>F.run A outer s H args us vs Q E D I J L (h _ _ _ _ R)⟩
protected def Inv.env0(I:Inv X pins σ H s):Env0 X.prog X.w X.K X.mg X.base X.A X.stack s H :=
 ⟨I.ok.frames,I.ok.mod,I.bs,bh I.ok.bsz I.sz,I.stack,I.stkFree,I.hok,I.bare⟩
variable{Q:VK}
def Inv.after(I:Inv X pins σ H s)(h:CE X.stack X.prog X.w H s Q u s'):EP X pins σ Q u s':=by
 obtain⟨v,H',os,D,un,J,r,q⟩:=h;obtain⟨R,g,d,t,L⟩:=s';obtain rfl:L=s.os:=os;exact⟨v,H',I.call (h':=R) (g':=g) (d':=d) (t':=t) (ch:=[]) un J D (λb z=>absurd z (by simp)),r,q⟩
def ui(sp:Sp)(dvs:ed)(E:XK)(t:TA):TE:=λσ H Q=>t σ H λvs H1=>sp (vs++dvs) H1 Q E
def Binds(K:dc)(fd:FuncData)(ps:bt)(ds:b0):Prop :=
 ∀(s:Shared) (us:b0),K.In s.heap->(us++ds).length=ps.length->BindsTo s fd ⟨us,[]⟩ (ps.zip (us++ds))
def Binds.all(h:∀us:b0,us.length=ps.length->bindArgs fd ⟨us,[]⟩=pure (ps.zip us)):Binds K fd ps []:=λs us _ z=>by
 rw[ca] at z ⊢;exact .of_eq (h us z)
def yc(CX:CXT)(X:Cx)(E:XK):Prop:=∀(pins:dt) (σ:St) (H:Hp) (s:Shared) (e:Value) (s':Shared),Inv X pins σ H s->CX X.stack H s E e s'->X.xe e s'
variable{E:XK}{dvs:ed}{ds:b0}
theorem zuy(F:FnOk X.prog X.w X.K X.mg X.base CX k f fd ps sp)(J:Room k X.A)(L:Binds X.K fd ps ds)(hd:Vals dvs ds)(R:yc CX X E)(I:Inv X pins σ H s)(r:Vals vs us)(h:sp (vs++dvs) H Q E):wpAny (model X.prog X.w) X.A (call (.ref f) us) (EP X pins σ Q) X.xe s:=by
 have D:Vals (vs++dvs) (us++ds):=r.append hd;have S:(us++ds).length=ps.length:=by rw[<-D.length];exact F.len _ _ _ _ h
 refine wpAny_call (codeAny_mono (F.run X.A X.stack s H ⟨us,[]⟩ (us++ds) (vs++dvs) Q E J I.env0 (L s us I.kIn S) D h) λr s' z=>?_);cases r with
 |error e=>exact R pins σ H s e s' I z |ok fl =>
   cases fl with
   |ret u=>exact I.after z |next=>exact False.elim z |brk=>exact False.elim z |cont=>exact False.elim z
def yl(F:FnOk X.prog X.w X.K X.mg X.base CX k f fd ps sp)(L:Room k X.A)(R:Gl X x)(S:X.mg x=some (.ref f))(U:PySem.W.keepIn X.K (.ref f)=true)(V:Binds X.K fd ps ds)(hd:Vals dvs ds)(Y:yc CX X E)(Z:PA X (e::es) t)(z:(x==("__debug__" : Str))=false:=by decide)(a:starEach (e::es) X.env=(false,eval e X.env)::starEach es X.env:=by rfl)(D:(backTo pos (starEach es X.env)).any (·.1)=false:=by rfl) :
  PE X (.Call (.Name x p) (e::es) [] pos) (ui sp dvs E t):=by
 intro pins s σ H Q I h;refine wpAny_Call_Name_kw (zms I R S ?_ z);refine PySem.W.callWith_K (h₀:=X.base) I.ok.mod.kin U (thn (Z pos pins s σ H _ I h) λus c b=>?_) a D;obtain⟨vs,H1,J,r,q⟩:=b;refine⟨J.kIn,?_⟩;exact zuy F L V hd Y J r q
structure Mk (K:dc) (C f:Addr):Prop where
 makes:PySem.W.makesIn K C=true
 init:PySem.W.findIn K (.ref C) "__init__" = some (some (.ref f))
 fn:PySem.W.isFn K (.ref f)=true
 kp:PySem.W.keepIn K (.ref C)=true
def PK(X:Cx)(kws:List Keyword)(t:TA):Prop :=
 ∀(pos:Pos) (pins:dt) (s:Shared) (σ:St) (H:Hp) (Q:ed->Hp->Prop),Inv X pins σ H s->t σ H Q->wpAny (model X.prog X.w) X.A (evalAll ((backToKw pos (keywordEach kws X.env)).map (·.2))) (AP X pins σ Q) X.xe s
section
variable {X:Cx} {CX:CXT} {k:Nat} {f C:Addr} {fd:FuncData} {ps ks:bt} {sp:Sp} {E:XK} {x m:Str} {p pos apos kpos:Pos} {e o:Expr} {es:ci} {kws:List Keyword} {te ta:TE} {t tk:TA} {nm:cm}
def zuz:PK X [] tNil:=λ_ _ _ _ H Q I h=>wpAny_evalAll_nil ⟨[],H,I,.nil,h⟩
def zry(z:PE X e te)(D:PK X kws t):PK X (⟨nm,e,kpos⟩::kws) (xl te t):=by
 intro pos pins s σ H Q I h;show wpAny _ _ (evalAll ((do let v <-eval e X.env;standAt pos;pure v)::(backToKw pos (keywordEach kws X.env)).map (·.2))) _ _ s;refine wpAny_evalAll_cons (wpAny_bind (thn (z pins s σ H _ I h) λu J L=>?_));obtain⟨x,H1,R,S,U⟩:=L;refine wpAny_bind (wpAny_standAt (wpAny_pure ?_));exact thn (D pos pins J σ H1 _ R U) λus s2 ⟨xs,H2,I2,r2,q2⟩=>⟨x::xs,H2,I2,.cons S r2,q2⟩
structure zyf (K:dc) (fd:FuncData) (ps ks:bt) (g:b0->b0->b0) (gV:ed->ed->ed):Prop where
 to:∀(s:Shared) (us ws:b0),K.In s.heap->(g us ws).length=ps.length->BindsTo s fd ⟨us,ks.zip ws⟩ (ps.zip (g us ws))
 rel:∀ {vs:ed} {us:b0} {zs:ed} {ws:b0},Vals vs us->Vals zs ws->Vals (gV vs zs) (g us ws)
variable {g:b0->b0->b0} {gV:ed->ed->ed}
end
structure pw (N P:bt) (sc:Scope):Prop where
 kind:sc.kind=.function
 co:sc.isCoroutine=false
 gen:sc.isGenerator=false
 nd:N.Nodup
 pre:N.take P.length=P
 par:∀x∈P,sc.names.lookup x=some .local\/sc.names.lookup x=some .cell
 nofree:∀y∈sc.names,y.2≠.free
def zir{kindOf:Str->Option NameKind}{x:Str}:∀ {z:List (Str×Value)} {m:Str->b2},(∀v,(x,v)∉z)->bindL kindOf z m x=m x
 | [],_,_=>rfl | (n,v)::r,m,h=>by
   unfold bindL;rw[zir λw D=>h w (ak _ D)];split
   ·have:x≠n:=by rintro rfl;exact h v au
    simp[this]
   ·rfl
def zis{kindOf:Str->Option NameKind}{x:Str}:∀ {z:List (Str×Value)} {m:Str->b2},(∀v,(x,v)∉z)->bindC kindOf z m x=m x
 | [],_,_=>rfl | (n,v)::r,m,h=>by
   unfold bindC;rw[zis λw D=>h w (ak _ D)];split
   ·rfl
   ·have:x≠n:=by rintro rfl;exact h v au
    simp[this]
def zit{kindOf:Str->Option NameKind}{x:Str}{v:Value}:∀ {P:bt} {vs:b0} {i:Nat} {m:Str->b2},P.Nodup->P[i]?=some x->vs[i]?=some v->kindOf x=some .local ->
  bindL kindOf (P.zip vs) m x=some v
 | [],_,_,_,_,h,_,_=>by simp at h |_::_,[],_,_,_,_,h,_=>by simp at h |p::P,w::vs,0,m,nd,h1,h2,hk=>by
   simp at h1 h2;subst h1;subst h2;show bindL kindOf ((p,w)::P.zip vs) m p=_;unfold bindL;rw[zir λv z=>(fy.mp nd).1 (jm z).1,if_pos hk];simp
 |p::P,w::vs,i+1,m,nd,h1,h2,hk=>by
   show bindL kindOf ((p,w)::P.zip vs) m x=_;unfold bindL;exact zit (i:=i) (fy.mp nd).2 (by simpa using h1) (by simpa using h2) hk
def ziu{kindOf:Str->Option NameKind}{x:Str}{v:Value}:∀ {P:bt} {vs:b0} {i:Nat} {m:Str->b2},P.Nodup->P[i]?=some x->vs[i]?=some v->kindOf x≠some .local ->
  bindC kindOf (P.zip vs) m x=some v
 | [],_,_,_,_,h,_,_=>by simp at h |_::_,[],_,_,_,_,h,_=>by simp at h |p::P,w::vs,0,m,nd,h1,h2,hk=>by
   simp at h1 h2;subst h1;subst h2;show bindC kindOf ((p,w)::P.zip vs) m p=_;unfold bindC;rw[zis λv z=>(fy.mp nd).1 (jm z).1,if_neg hk];simp
 |p::P,w::vs,i+1,m,nd,h1,h2,hk=>by
   show bindC kindOf ((p,w)::P.zip vs) m x=_;unfold bindC;exact ziu (i:=i) (fy.mp nd).2 (by simpa using h1) (by simpa using h2) hk
def start(N:bt)(vs:ed):St:=vs.map some++List.replicate (N.length-vs.length) none
def cxOf(CX:CXT)(P:Program)(w:World)(K:dc)(mg:Str->b2)(base:Heap)(N:bt)(qual:Str)(scope:Scope)(f:Addr)(D:Value)(A:Around)(outer:cd)(s:Shared)(H:Hp)(E:XK):Cx where
 prog:=P
 w:=w
 K:=K
 mg:=mg
 base:=base
 A:=A.deeper (envOfC qual scope s.heap.objs.size f D)
 N:=N
 s₀:=s
 H₀:=H
 env:=envOfC qual scope s.heap.objs.size f D
 outer:=outer
 stack:=envOfC qual scope s.heap.objs.size f D::outer
 ex:=[]
 calm:=true
 fn:=λ_=>true
 pn:=[]
 xe:=λe s'=>wpAny (model P w) (A.deeper (envOfC qual scope s.heap.objs.size f D)) (leaving (envOfC qual scope s.heap.objs.size f D) e) (λ_ z=>CX outer H s E e z) (λe' z=>CX outer H s E e' z) s'
def zks{sc:Scope}(h:sc.names.lookup x=some .cell):∃c,(cellsFrom n sc.names []).lookup x=some c:=by
 have q:=PySem.W.cellsFrom_some sc.names n [] (.inl h);exact Option.isSome_iff_exists.mp q
variable{qual:Str}{scope:Scope}
def zm6{R:Value}{outer:cd}{U:Shared}(S:pw N ps scope)(hd:A.handled=none)(D:Env0 P w K mg base A outer s H)(j:vs.length=ps.length)(r:Vals vs us)(x:InCallC s s.heap.objs.size (bindL (envOfC qual scope s.heap.objs.size f R).kindOf (ps.zip us) λ_=>none) (cellsFrom (s.heap.objs.size+1) scope.names []) (bindC (envOfC qual scope s.heap.objs.size f R).kindOf (ps.zip us) λ_=>none) U) :
  Inv (cxOf CX P w K mg base N qual scope f R A outer s H E) [] (start N vs) H U:=by
 have Z:ps.length<=N.length:=by have:=congrArg List.length S.pre;rw[dn] at this;omega
 obtain⟨h1,tk,rfl,V⟩:=x.done;have I:∀b:Addr,b∉(cxOf CX P w K mg base N qual scope f R A outer s H E).ex:=λb z=>absurd (show b∈([]:b4) from z) (by simp);refine⟨⟨D.mod,S.kind,rfl,rfl,bg _,λy z c h1 h2=>?_,λy hy=>?_,λy c _ h=>?_,λ_=>hd,Around.frames_deeper D.frames,.inr ⟨rfl,rfl⟩,λb z=>absurd z (I b),D.bs,D.bsz,λb _ _=>I b,λb z=>absurd z (I b),D.funs,D.frf⟩,
  rfl,D.bare,Un.kept V,⟨_,x.toInCall.ns,λi y v h1 h2 l=>?_⟩,λy c h=>⟨_,x.cell y c h⟩,D.hok.fresh (bg _),λy c h=>?_,λp J=>absurd (show p∈([]:dt) from J) (by simp),D.hok.kept V,?_⟩
 ·exact name_of_addr x.apart (dq h1) (dq h2)
 ·have hy:scope.names.lookup y=some .cell\/scope.names.lookup y=some .free:=hy
  rcases hy with hy |hy
  ·exact zks hy
  ·exact absurd rfl (S.nofree _ (dq hy))
 ·exact k3 (x.above y c (dq h))
 ·have hi:i<vs.length:=by
   unfold start at h2;by_cases hi:i<vs.length
   ·exact hi
   ·rw[gh (by simpa using hi)] at h2
    rw[t4] at h2;split at h2 <;> cases h2
  have d:vs[i]?=some v:=by
   unfold start at h2;rw[ce (by simpa using hi),bv] at h2;cases e:vs[i]? with
   |none=>rw[e] at h2;cases h2
   |some a=>rw[e] at h2;cases h2;rfl
  obtain⟨u,Y,g⟩:=r.get d;have J:ps[i]?=some y:=by
   rw[<-S.pre,List.getElem?_take_of_lt (by omega)];exact h1
  have L:ps.Nodup:=by rw[<-S.pre];exact S.nd.sublist (List.take_sublist _ _)
  refine⟨u,g,?_⟩;rcases S.par y (bq J) with k |k
  ·exact .inl ⟨k,zit L J Y k⟩
  ·obtain⟨c,e⟩:=zks (n:=s.heap.objs.size+1) k
   refine .inr ⟨.inl k,c,e,?_⟩;have q:=x.cell y c e;rw[ziu L J Y (by show scope.names.lookup y≠_;rw[k];decide)] at q;exact q
 ·exact D.hok.fresh (k3 (x.above y c (dq h)))
 ·unfold start
  show _=N.length;rw[aj,ac,ff];omega
def zxc{name:Str}{z:Arguments}{j kV Y l cdv ct oc:Value}{an od:Option Addr}{osl:Array b2}(B:K.lookup f=some ⟨oc,od,.func (PySem.W.fnOf name qual z body scope j kV Y l an cdv ct),osl⟩)(d:PySem.W.codeIn K cdv qual=true)(S:pw N ps scope)(len:∀vs H Q E,sp vs H Q E->vs.length=ps.length)(L:∀(A:Around) (outer:cd) (s:Shared) (H:Hp) (vs:ed) (Q:VK) (E:XK),Room k (A.deeper (envOfC qual scope s.heap.objs.size f cdv))->sp vs H Q E ->
   ∃t,PSs (cxOf CX P w K mg base N qual scope f cdv A outer s H E) body t/\t { nx:=λ_ H'=>Q .non H',rt:=Q } (start N vs) H) :
  FnOk P w K mg base CX (k+1) f (PySem.W.fnOf name qual z body scope j kV Y l an cdv ct) ps sp:=by
 refine⟨len,λA outer s H args us vs Q E g Z C r a=>?_⟩;have F:=len _ _ _ _ a;have m:K.In s.heap:=Z.mod.kin.keeps λb o e=>(Z.bs b o e).1;have h:s.heap.NoLimit:=Z.mod.nolimit.keeps λb o e=>(Z.bs b o e).1;have R:∀y∈ps.zip us,scope.names.lookup y.1=some .local\/(scope.names.lookup y.1=some .cell/\((cellsFrom (s.heap.objs.size+1) scope.names []).lookup y.1).isSome=true):=λ⟨n,v⟩ hy=>by
  rcases S.par n (jm hy).1 with q |q
  ·exact .inl q
  ·exact .inr ⟨q,PySem.W.cellsFrom_some _ _ _ (.inl q)⟩
 refine codeAny_call_function g.depth (m _ _ B) rfl S.co S.gen rfl (PySem.W.codeRec_of m d) (C _ _ _ _ ?_);refine wpAny_newFunctionEnv_cells S.kind R λenv G p x=>?_;subst G;refine⟨h.keeps x.toInCall.keep,codeAny_func ?_⟩;obtain⟨t,M,O⟩:=L A outer s H vs Q E (g.deeper _) a;have I:Inv (cxOf CX P w K mg base N qual scope f cdv A outer s H E) [] (start N vs) H p:=zm6 S g.hd Z F r x;refine wpAny_mono (M [] p (start N vs) H _ I O) (λfl s' U=>?_) λe s' U=>U;have c:∀ {D:St} {H':Hp} {v:V} {u:Value},Inv (cxOf CX P w K mg base N qual scope f cdv A outer s H E) [] D H' s'->RelV v u->Q v H'->CE outer P w H s Q u s' :=
  λ{D H' v u} J i q=>⟨v,H',J.os,J.bare,J.base,J.hok,i,q⟩
 cases fl with
 |ret u =>
   obtain⟨v,D,H',J,i,q⟩:=U;exact c J i q
 |next =>
   obtain⟨D,H',J,q⟩:=U;exact c (v:=V.non) (u:=Value.none) J rfl q
 |brk =>
   obtain⟨_,_,_,q⟩:=U;exact False.elim q
 |cont =>
   obtain⟨_,_,_,q⟩:=U;exact False.elim q
def tCB(r:ed->Hp->VK->Prop)(t:TA):TE:=λσ H Q=>t σ H λvs H1=>r vs H1 Q
variable{r:ed->Hp->VK->Prop}{id:String}
def va(J:l3 X (.builtin id) r)(L:Gl X x)(R:X.mg x=none)(S:bootBuiltins x=some (.builtin id))(U:PA X (e::es) t)(V:x ≠ "__name__":=by decide)(z:(x==("__debug__" : Str))=false:=by decide)(Y:starEach (e::es) X.env=(false,eval e X.env)::starEach es X.env:=by rfl)(D:(backTo pos (starEach es X.env)).any (·.1)=false:=by rfl):PE X (.Call (.Name x p) (e::es) [] pos) (tCB r t):=by
 intro pins s σ H Q I h;refine wpAny_Call_Name_kw (nc I L R S ?_ V z);exact PyProof.Rows.callWith_builtin1 (thn (U pos pins s σ H _ I h) λus s1 ⟨vs,H1,I1,r1,q1⟩=>J pins s1 σ H1 vs us Q I1 r1 q1) Y D
variable{T:String}
def y0(J:l3 X (.type T) r)(L:Gl X x)(R:X.mg x=none)(S:bootBuiltins x=some (.type T))(U:PA X (e::es) t)(V:x ≠ "__name__":=by decide)(z:(x==("__debug__" : Str))=false:=by decide)(Y:starEach (e::es) X.env=(false,eval e X.env)::starEach es X.env:=by rfl)(D:(backTo pos (starEach es X.env)).any (·.1)=false:=by rfl):PE X (.Call (.Name x p) (e::es) [] pos) (tCB r t):=by
 intro pins s σ H Q I h;refine wpAny_Call_Name_kw (nc I L R S ?_ V z);exact d4 (thn (U pos pins s σ H _ I h) λus s1 ⟨vs,H1,I1,r1,q1⟩=>J pins s1 σ H1 vs us Q I1 r1 q1) Y D
end L2
namespace HT
open PySem PyProof.Rows
section
open PySem.SeqAt
open PySem.AutoSeq1 (wpAny_loadPart')
open PySem.MeetsSeq PySem.MeetsSeq2 PySem.MeetsSeq3
end
def sIx(n d:Nat):da->Nat
 |none=>d |some v=>if v<0 then(v+(n:Int)).toNat else min v.toNat n
def sIx_none(n d:Nat):sIx n d none=d:=rfl
def sIx_nat(n d k:Nat):sIx n d (some (k:Int))=min k n:=by
 show(if (k:Int)<0 then((k:Int)+(n:Int)).toNat else min (k:Int).toNat n)=min k n;rw[if_neg (by omega),fo]
end HT
namespace L2
open PySem PySem.Spec PyProof.Rows
abbrev TO:=St->Hp->(da->Hp->Prop)->Prop
def PO(X:Cx)(e:Option Expr)(t:TO):Prop :=
 ∀(pins:dt) (s:Shared) (σ:St) (H:Hp) (Q:da->Hp->Prop),Inv X pins σ H s->t σ H Q ->
  wpAny (model X.prog X.w) X.A (evalPart e X.env) (λu s'=>∃o H',Inv X pins σ H' s'/\IsPart u o/\Q o H') X.xe s
def zrz:TO:=λ_ H Q=>Q none H
def zxd(t:TE):TO:=λσ H Q=>t σ H λx H1=>∃i,x=.int i/\Q (some i) H1
def y3{ns:cc}:∀ {us:b0},Vals (ns.map V.int) us->IntsAre us ns:=by
 induction ns with
 |nil=>intro us r;rw[di] at r;cases r;exact .nil
 |cons n ns ih =>
   intro us r;rw[bo] at r;cases r with
   |cons r1 r2 =>
     obtain⟨t,e⟩:=r1;subst e;exact .cons n t (ih r2)
variable{X:Cx}
def zr0:PO X none zrz:=by
 intro pins s σ H Q I h;rw[evalPart_none];exact wpAny_pure ⟨none,H,I,.none,h⟩
variable{e:Expr}{te:TE}
def zr1(h:PE X e te):PO X (some e) (zxd te):=by
 intro pins s σ H Q I z;rw[evalPart_some];refine thn (h pins s σ H _ I z) λu S D=>?_;obtain⟨x,H1,J,L,R⟩:=D;obtain⟨i,rfl,q⟩:=R;obtain⟨t,rfl⟩:=L;exact⟨some i,H1,J,.int i t,q⟩
variable{lo hi:Option Expr}
def SlR(X:Cx)(r:V->da->da->Hp->VK->Prop):Prop :=
 ∀(pins:dt) (s:Shared) (σ:St) (H:Hp) (x:V) (v z D:Value) (lo hi:da) (I:Addr) (Q:VK),Inv X pins σ H s->RelV x v->s.heap.IsSliceOf I z D .none->IsPart z lo->IsPart D hi->r x lo hi H Q ->
  ∃T id,typeLookup (.type T) "__getitem__" = pure (some (.builtin id))/\s.TypeIs v T/\wpAny (model X.prog X.w) X.A (getItem v (.ref I)) (EP X pins σ Q) X.xe s
def tSl(r:V->da->da->Hp->VK->Prop)(te:TE)(tl th:TO):TE:=λσ H Q=>te σ H λx H1=>tl σ H1 λl H2=>th σ H2 λu z=>r x l u z Q
variable{r:R2}{tl th:TO}{pos p2:Pos}
def zo7{r:V->da->da->Hp->VK->Prop}(S:SlR X r)(U:PE X e te)(Y:PO X lo tl)(Z:PO X hi th):PE X (.Subscript e (.Slice lo hi none p2) pos) (tSl r te tl th):=by
 intro pins s σ H Q I h;refine Subscript_ (thn (U pins s σ H _ I h) λv a D=>?_);obtain⟨x,H1,c,d,f⟩:=D;refine wpAny_Slice (thn (Y pins a σ H1 _ c f) λJ s2 D=>?_);obtain⟨l,H2,g,pl,i⟩:=D;refine thn (Z pins s2 σ H2 _ g i) λL z D=>?_;obtain⟨u,R,j,k,m⟩:=D;rw[evalPart_none];refine wpAny_pure ?_;have n:Inv X pins σ R { z with heap:=z.heap.push { cls:=.type "slice",data:=.fields #[J,L,.none] } }:=j.kept (t':=z.toks) λb t q=>bc _ q;obtain⟨T,id,hT,o,p⟩:=S pins { z with heap:=z.heap.push { cls:=.type "slice",data:=.fields #[J,L,.none] } } σ R x v J L l u z.heap.objs.size Q n d (Heap.IsSliceOf.new ..) pl k m;show wpAny (model X.prog X.w) X.A (subscriptTail e (.Slice lo hi none p2) v (.ref z.heap.objs.size)) (EP X pins σ Q) X.xe { z with heap:=z.heap.push { cls:=.type "slice",data:=.fields #[J,L,.none] } };exact tail_any (ops:=[.ref z.heap.objs.size,v]) o hT p (by with_unfolding_all rfl)
def cutV(xs:ed)(lo hi:da):ed:=(xs.drop (HT.sIx xs.length 0 lo)).take (HT.sIx xs.length xs.length hi-HT.sIx xs.length 0 lo)
def zjy(xs:ed)(lo hi:da):(cutV xs lo hi).length<=xs.length:=by
 unfold cutV;rw[dn,l0];omega
def ixN(n:Nat)(i:Int):Option Nat:=if 0<=i then(if i<n then some i.toNat else none) else if -(n:Int)<=i then some (i+n).toNat else none
variable{α:Type}
def atI(xs:List α)(i:Int):Option α:=(ixN xs.length i).bind λj=>xs[j]?
variable{n:Nat}{i:Int}
def yk{j:Nat}(h:ixN n i=some j):seqIndex? i n=some j/\j<n/\-(n:Int)<=i/\i<n:=by
 unfold ixN at h;by_cases z:0<=i
 ·rw[if_pos z] at h
  by_cases h1:i<n
  ·rw[if_pos h1] at h
   have e:i.toNat=j:=az h;exact⟨by rw[seqIndex_of z h1,e],by omega,by omega,h1⟩
  ·rw[if_neg h1] at h;cases h
 ·rw[if_neg z] at h
  by_cases h1:-(n:Int)<=i
  ·rw[if_pos h1] at h
   have e:(i+n).toNat=j:=az h;exact⟨by rw[seqIndex_neg (by omega) h1,e],by omega,h1,by omega⟩
  ·rw[if_neg h1] at h;cases h
def yp{xs:List α}{v:α}(h:atI xs i=some v):∃j,seqIndex? i xs.length=some j/\xs[j]?=some v/\j<xs.length/\-(xs.length:Int)<=i/\i<xs.length:=by
 unfold atI at h;cases e:ixN xs.length i with
 |none=>rw[e] at h;cases h
 |some j =>
   rw[e] at h;obtain⟨h1,h2,z,D⟩:=yk e;exact⟨j,h1,h,h2,z,D⟩
def zo8(xs:List α)(v:α):atI (xs++[v]) (-1)=some v:=by
 have z:(xs++[v]).length=xs.length+1:=by simp
 have e:ixN (xs++[v]).length (-1)=some xs.length:=by
  unfold ixN;rw[z,if_neg (by decide),if_pos (by omega)];congr 1;omega
 unfold atI;rw[e];show(xs++[v])[xs.length]?=some v;simp
def sf(b:Expr):Prop:=∀o i,subscripted b false o i=operate [o,i] (getItem o i)
def IxR(X:Cx)(r:R2):Prop :=
 ∀(D z:Expr) (pins:dt) (s:Shared) (σ:St) (H:Hp) (x y:V) (v u:Value) (Q:VK),Inv X pins σ H s->RelV x v->RelV y u->r x y H Q ->
  subscripted z false v u=operate [v,u] (getItem v u)->wpAny (model X.prog X.w) X.A (subscriptTail D z v u) (EP X pins σ Q) X.xe s
def MtR(X:Cx)(id:String)(r:V->ed->Hp->VK->Prop):Prop :=
 ∀(pins:dt) (s:Shared) (σ:St) (H:Hp) (x:V) (xs:ed) (v:Value) (us:b0) (Q:VK),Inv X pins σ H s->RelV x v->Vals xs us->r x xs H Q ->
  wpAny (model X.prog X.w) X.A (call (.builtin id) (v::us)) (EP X pins σ Q) X.xe s
def IxR.or{J:R2}(h:IxR X r)(h':IxR X J):IxR X (λx y H Q=>r x y H Q\/J x y H Q):=by
 intro z D pins s σ H x y v u Q I L R q S;rcases q with q |q
 ·exact h z D pins s σ H x y v u Q I L R q S
 ·exact h' z D pins s σ H x y v u Q I L R q S
variable{a b:Expr}{ta tb:TE}
def xq(z:IxR X r)(D:PE X a ta)(J:PE X b tb)(L:sf b):PE X (.Subscript a b pos) (tOp r ta tb):=by
 intro pins s σ H Q I h;exact Subscript_ (binT D J I h λv u s2 x y H2 R S U q=>z a b pins s2 σ H2 x y v u Q R S U q (L _ _))
def rIxL(K:dc):R2:=λx y H Q=>∃p xs i v,x=.ref p/\y=.int i/\SqL K H p xs/\atI xs i=some v/\Q v H
def rIxT(K:dc):R2:=λx y H Q=>∃p xs i v,x=.ref p/\y=.int i/\SqT K H p xs/\atI xs i=some v/\Q v H
def rIxS:R2:=λx y H Q=>∃z i c,x=.str z/\y=.int i/\z.length<=sizeLine/\atI z.cps.toList i=some c/\Q (.str ⟨#[c]⟩) H
def zr3:IxR X (rIxL X.K):=by
 intro J L pins s σ H x y v u Q I Z a h U;obtain⟨p,xs,i,z,rfl,rfl,b,c,q⟩:=h;cases Z;obtain⟨t,rfl⟩:=a;obtain⟨its,r,pl,g⟩:=I.list b;obtain⟨j,h1,h2,k,d,e⟩:=yp c;obtain⟨w,V,R⟩:=r.get h2;have f:=r.length;have l:=qo;have D:EP X pins σ Q w s:=⟨z,H,I,R,q⟩;by_cases Y:0<=i
 ·have S:i.toNat=j:=by
   rw[seqIndex_of Y e] at h1;exact az h1
  exact item_listR pl.isList Y (by omega) (by rw[S];simpa using V) D U
 ·have S:(i+(its.toArray.size:Int)).toNat=j:=by
   rw[seqIndex_neg (by omega) d] at h1;rw[a0,<-f];exact az h1
  exact subscriptTail_builtinR (x:=w) pl.isList.typeIs slot_list_getitem.lookup
   (wpAny_getItem_list_neg (Q:=λr s'=>r=w/\EP X pins σ Q r s') pl.isList (by omega) (by rw[a0] <;> omega) (by omega) (by rw[S];simpa using V) ⟨rfl,D⟩) U
def zu0:IxR X (rIxT X.K):=by
 intro D J pins s σ H x y v u Q I S U h V;obtain⟨p,xs,i,z,rfl,rfl,Y,Z,q⟩:=h;cases S;obtain⟨t,rfl⟩:=U;obtain⟨its,r,pl,c⟩:=I.tuple Y;obtain⟨j,h1,h2,d,e,f⟩:=yp Z;obtain⟨w,a,L⟩:=r.get h2;have b:=r.length;have g:=qo;have R:EP X pins σ Q w s:=⟨z,H,I,L,q⟩;exact subscriptTail_builtinR (x:=w) pl.typeIs slot_tuple_getitem.lookup
  (getItem_tuple (j:=j) (Q:=λr s'=>r=w/\EP X pins σ Q r s') pl (by omega) (by omega) (by rw[a0,<-b];exact h1) (by simpa using a) ⟨rfl,R⟩) V
def zu1:IxR X rIxS:=by
 intro D J pins s σ H x y v u Q I L R h S;obtain⟨z,i,c,rfl,rfl,d,U,q⟩:=h;obtain⟨t,rfl⟩:=L;obtain⟨t',rfl⟩:=R;obtain⟨j,h1,h2,e,V,Y⟩:=yp U;have Z:z.cps.toList.length=z.length:=by simp[Str.length]
 rw[Z] at h1 V Y;have f:=qo;exact tail_any (typeIs_str s z t) slot_str_getitem.lookup (getItem_str (c:=c) (by
  have a:decide (i < -(2 ^ 63:Int))=false:=decide_eq_false (by omega);have b:decide (i >= 2 ^ 63)=false:=decide_eq_false (by omega);rw[a,b,Bool.or_false]) (by rw[h1];simpa using h2) ⟨.str ⟨#[c]⟩,H,I.tok _,⟨_,rfl⟩,q⟩) S
def rIx(K:dc):R2:=λx y H Q=>rIxL K x y H Q\/rIxT K x y H Q\/rIxS x y H Q
def yb:IxR X (rIx X.K):=zr3.or (zu0.or zu1)
def zlx(its:b0)(n j:Nat)(u:Value):Obj.mapSeq (·.setIfInBounds j u) { cls:=.type "list",data:=.seq its.toArray n }={ cls:=.type "list",data:=.seq (its.set j u).toArray n }:=by
 simp[Obj.mapSeq]
def Inv.lst{pins:dt}{σ:St}{H:Hp}{s:Shared}{p:Addr}{xs:ed}(I:Inv X pins σ H s)(h:H p=some (.lst xs)) :
  ∃(its:b0) (n:Nat),Vals xs its/\s.heap.get? p=some { cls:=.type "list",data:=.seq its.toArray n }/\xs.length<=sizeLine:=by
 obtain⟨z,its,n,r,e⟩:=I.hok p _ h;exact⟨its,n,r,e,z⟩
variable{pins:dt}{σ:St}{H:Hp}{s:Shared}{xs ys:ed}{its its':b0}
def Inv.lstUpd{p:Addr}{z:Nat}{f:Obj->Obj}(I:Inv X pins σ H s)(h:H p=some (.lst xs))(J:s.heap.get? p=some { cls:=.type "list",data:=.seq its.toArray n })(D:f { cls:=.type "list",data:=.seq its.toArray n }={ cls:=.type "list",data:=.seq its'.toArray z })(r:Vals ys its')(L:ys.length<=sizeLine)(t:Nat) :
  Inv X pins σ (upd H p (.lst ys)) { s with heap:=s.heap.update p f,toks:=t }:=by
 have e:(s.heap.update p f).get? p=some { cls:=.type "list",data:=.seq its'.toArray z }:=by
  rw[Heap.get?_update_self f J (by rw[D] <;> rfl),D]
 refine I.write (x:=p) (e:=p) (by rw[h];trivial) (.inl rfl) (λb u R q=>(Heap.get?_update_other _ _ (Ne.symm R)).trans q) ⟨_,e⟩ ?_;exact⟨L,its',z,r,e⟩
def zu2:V->V->V->Hp->(Hp->Prop)->Prop:=λo i v H Q=>∃p xs k j,o=.ref p/\i=.int k/\H p=some (.lst xs)/\ixN xs.length k=some j/\Q (upd H p (.lst (xs.set j v)))
def zkt:PSet X zu2:=by
 intro pins s σ H o i v d e u Q I Y Z a h;obtain⟨p,xs,k,j,rfl,rfl,L,b,q⟩:=h;cases Y;obtain⟨t,rfl⟩:=Z;obtain⟨its,n,r,z,c⟩:=I.lst L;obtain⟨h1,h2,R,S⟩:=yk b;have D:=r.length;have f:=qo;have U:Inv X pins σ (upd H p (.lst (xs.set j v))) { s with heap:=s.heap.update p (Obj.mapSeq (·.setIfInBounds j u)) } :=
  I.lstUpd L z (zlx its n j u) (r.set a j) (by rw[d8];exact c) s.toks
 by_cases V:0<=k
 ·have J:k.toNat=j:=by
   rw[seqIndex_of V S] at h1;exact az h1
  exact PySem.W.ki_setAt z V (by omega) (by rw[a0,<-D];exact S) (by rw[J];exact⟨_,U,q⟩)
 ·have J:(k+(its.toArray.size:Int)).toNat=j:=by
   rw[seqIndex_neg (by omega) R] at h1;rw[a0,<-D];exact az h1
  exact PySem.W.ki_setBack z (by omega) (by rw[a0,<-D];exact R) (by omega) (by rw[J];exact⟨_,U,q⟩)
def ziv(lo hi:da)(n:Nat):(sliceBounds lo hi none n).1=((HT.sIx n 0 lo:Nat):Int)/\(sliceBounds lo hi none n).2.1=((HT.sIx n n hi:Nat):Int)/\(sliceBounds lo hi none n).2.2=1:=by
 refine⟨?_,?_,rfl⟩
 ·cases lo with
  |none=>simp[sliceBounds,HT.sIx] |some i =>
    simp only[sliceBounds,HT.sIx,Option.getD_none,show(1:Int) > 0 by decide,if_true];by_cases h:i<0
    ·simp only[h,if_true] <;> omega
    ·simp only[h,if_false] <;> omega
 ·cases hi with
  |none=>simp[sliceBounds,HT.sIx] |some i =>
    simp only[sliceBounds,HT.sIx,Option.getD_none,show(1:Int) > 0 by decide,if_true];by_cases h:i<0
    ·simp only[h,if_true] <;> omega
    ·simp only[h,if_false] <;> omega
def zh5(its:b0)(lo hi:da):slicePick its.toArray lo hi none=((its.drop (HT.sIx its.length 0 lo)).take (HT.sIx its.length its.length hi-HT.sIx its.length 0 lo)).toArray:=by
 obtain⟨h1,h2,z⟩:=ziv lo hi its.toArray.size;unfold slicePick;rw[h1,h2,z];simp only[sliceRange_one,pick_run,a0] <;> rfl
def rSlL(K:dc):V->da->da->Hp->VK->Prop:=λx lo hi H Q=>∃a xs,x=.ref a/\SqL K H a xs/\∀p,H p=none->Q (.ref p) (upd H p (.lst (cutV xs lo hi)))
def zr4:SlR X (rSlL X.K):=by
 intro pins s σ H x v V Y lo hi Z Q I J L pl R h;obtain⟨a,xs,rfl,S,q⟩:=h;cases J;obtain⟨its,r,D,U⟩:=I.list S;have z:=r.length;refine⟨"list",_,slot_list_getitem.lookup,D.isList.typeIs,?_⟩;refine wpAny_getItem_list_slice D.isList L pl R .none (by simp) ?_ (by rw[a0] <;> omega);rw[zh5,<-z];refine⟨.ref s.heap.objs.size,_,I.laid (t':=s.toks) (o:=.lst (cutV xs lo hi)) (λb c q=>bc _ q) (bg _) ?_,rfl,q _ (I.hok.fresh (bg _))⟩;exact⟨bh (zjy xs lo hi) U,_,0,(r.drop (HT.sIx xs.length 0 lo)).take (HT.sIx xs.length xs.length hi-HT.sIx xs.length 0 lo),cb _ rfl⟩
def zf9:l3 X (.builtin "len") (λxs H Q=>∃p ys,xs=[.ref p]/\(SqL X.K H p ys\/SqT X.K H p ys)/\Q (.int ys.length) H):=by
 intro pins s σ H xs us Q I r h;obtain⟨p,ys,rfl,hq,q⟩:=h;obtain⟨u,rfl,J⟩:=qb r;cases J;have R:=qo;rcases hq with hq |hq
 ·obtain⟨its,D,pl,L⟩:=I.list hq
  have z:=D.length;exact Calls.call_len_list pl.isList (by simp only[a0] <;> omega) ⟨.int ys.length,H,I.tok _,⟨s.toks+1,by rw[a0,z]⟩,q⟩
 ·obtain⟨its,D,pl,L⟩:=I.tuple hq
  have z:=D.length;exact len_tuple pl (by simp only[a0] <;> omega) ⟨.int ys.length,H,I.tok _,⟨s.toks+1,by rw[a0,z]⟩,q⟩
def ziw:l3 X (.type "list") (λxs H Q=>∃p ys,xs=[.ref p]/\(SqL X.K H p ys\/SqT X.K H p ys)/\∀l,H l=none->Q (.ref l) (upd H l (.lst ys))):=by
 intro pins s σ H xs us Q I r h;obtain⟨p,ys,rfl,hq,q⟩:=h;obtain⟨u,rfl,V⟩:=qb r;cases V;have J:∀(its:b0),Vals ys its->ys.length<=sizeLine->∀(h':Heap) (z:Nat),(∀b o',s.heap.get? b=some o'->h'.get? b=some o') ->
   h'.get? s.heap.objs.size=some { cls:=.type "list",dict:=none,data:=.seq its.toArray z,slots:=#[] }->EP X pins σ Q (.ref s.heap.objs.size) { s with heap:=h' }:=λits D L h' z kp e =>
  ⟨.ref s.heap.objs.size,_,I.laid (t':=s.toks) kp (bg _) (show ObjOk X.prog X.w _ h' _ (.lst ys) from⟨L,its,z,D,e⟩),rfl,q _ (I.hok.fresh (bg _))⟩
 rcases hq with hq |hq
 ·obtain⟨its,D,pl,L⟩:=I.list hq
  have R:=D.length;obtain⟨o,S,U,n,hd⟩:=pl.isList;exact call_list_seq p (.inl rfl) S U hd (λh' z kp e=>J its D L h' z kp e) (by simp only[a0] <;> omega)
 ·obtain⟨its,D,pl,L⟩:=I.tuple hq
  have R:=D.length;obtain⟨o,S,U,n,hd⟩:=pl;exact call_list_seq p (.inr rfl) S U hd (λh' z kp e=>J its D L h' z kp e) (by simp only[a0] <;> omega)
def tyV(K:dc)(T:String)(x:V)(H:Hp):Prop:=match x with
 | .str _=>T = "str" | .int _=>T = "int" | .ref p=>(T = "list"/\∃xs,SqL K H p xs)\/(T = "tuple"/\∃o,K.lookup p=some o/\o.cls=.type "tuple"/\o.dict=none) \/
    (T = "dict"/\((∃z,H p=some (.dK z))\/∃z,H p=some (.dT z)))\/(T = "set"/\∃S n,H p=some (.set S n))
 |_=>False
variable{T:String}{x:V}
def zqs{v:Value}(I:Inv X pins σ H s)(r:RelV x v)(J:tyV X.K T x H) :
  s.TypeIs v T/\∀a,v=.ref a->∃U,s.heap.get? a=some U/\U.dict=none:=by
 cases x with
 |str z =>
   obtain⟨t,rfl⟩:=r;cases (show T = "str" from J);exact⟨typeIs_str s z t,λ_ e=>nomatch e⟩
 |int i =>
   obtain⟨t,rfl⟩:=r;cases (show T = "int" from J);exact⟨typeIs_int s i t,λ_ e=>nomatch e⟩
 |ref p =>
   cases r;rcases J with⟨rfl,xs,V⟩ | ⟨rfl,o,D,hc,hd⟩ | ⟨rfl,D⟩ | ⟨rfl,S,n,D⟩
   ·obtain⟨its,_,pl,_⟩:=I.list V
    refine⟨pl.isList.typeIs,λa e=>?_⟩;cases e;obtain⟨o,n,e,c,hd,_⟩:=pl;exact⟨o,e,hd⟩
   ·refine⟨⟨o,I.kIn p o D,hc⟩,λa e=>?_⟩
    cases e;exact⟨o,I.kIn _ o D,hd⟩
   ·have z:∃o,s.heap.get? p=some o/\o.ExactDict:=by
     rcases D with⟨L,D⟩ | ⟨L,D⟩
     ·obtain⟨_,_,_,_,o,_,_,e,ex,_⟩:=I.hok p _ D
      exact⟨o,e,ex⟩
     ·obtain⟨_,_,_,_,o,_,_,e,ex,_⟩:=I.hok p _ D
      exact⟨o,e,ex⟩
    obtain⟨o,e,ex⟩:=z;refine⟨⟨o,e,ex.1⟩,λa R=>?_⟩;cases R;exact⟨o,e,ex.2.1⟩
   ·obtain⟨o,_,_,_,e,ex,_⟩:=I.hok p _ D
    refine⟨⟨o,e,ex.1⟩,λa R=>?_⟩;cases R;exact⟨o,e,ex.2.1⟩
 |_=>exact False.elim J
def tBM0(K:dc)(T:String)(r:V->ed->Hp->VK->Prop)(to:TE):TE:=λσ H Q=>to σ H λx H1=>tyV K T x H1/\r x [] H1 Q
def tBM(K:dc)(T:String)(r:V->ed->Hp->VK->Prop)(to:TE)(t:TA):TE:=λσ H Q=>to σ H λx H1=>tyV K T x H1/\t σ H1 λxs H2=>r x xs H2 Q
variable{r:V->ed->Hp->VK->Prop}{o:Expr}{to:TE}{name:Str}{apos cpos:Pos}{id:String}
def zu3(U:PlainAttrs T)(J:Slot T name id)(L:typeOf (.builtin id)=pure (.type "method_descriptor"))(V:MtR X id r)(Y:PE X o to)(z:attributeBase o name X.env (eval o X.env)=eval o X.env:=by rfl)(D:(apos.endLine==cpos.line)=true:=by rfl):PE X (.Call (.Attribute o name apos) [] [] cpos) (tBM0 X.K T r to):=by
 intro pins s σ H Q I h;refine wpAny_Call_method0_late z D (thn (Y pins s σ H _ I h) λv Z a=>?_);obtain⟨x,H1,R,S,b,c⟩:=a;obtain⟨h1,h2⟩:=zqs R S b;exact⟨T,id,U,J,L,h1,h2,Calls.callWith_builtin rfl (PySem.evalArgs_none (V pins Z σ H1 x [] v [] Q R S .nil c))⟩
variable{es:ci}{t:TA}
def qa(Y:PlainAttrs T)(L:Slot T name id)(S:typeOf (.builtin id)=pure (.type "method_descriptor"))(Z:MtR X id r)(a:PE X o to)(b:PA X (e::es) t)(D:attributeBase o name X.env (eval o X.env)=eval o X.env:=by rfl)(R:((backTo cpos (starEach (e::es) X.env)).all (λx=>!x.1) && (backToKw cpos (keywordEach [] X.env)).all (λx=>x.1.isSome)
   && decide ((e::es).length+([]:List Keyword).length+(if ([]:List Keyword).isEmpty then 0 else 1)<30))=true:=by rfl)(J:(apos.endLine==cpos.line)=true:=by rfl)(c:starEach (e::es) X.env=(false,eval e X.env)::starEach es X.env:=by rfl)(z:(backTo cpos (starEach es X.env)).any (·.1)=false:=by rfl) :
  PE X (.Call (.Attribute o name apos) (e::es) [] cpos) (tBM X.K T r to t):=by
 intro pins s σ H Q I h;refine wpAny_Call_method_late D R J rfl (thn (a pins s σ H _ I h) λv d f=>?_);obtain⟨x,H1,U,V,g,i⟩:=f;obtain⟨h1,h2⟩:=zqs U V g;refine⟨T,id,Y,L,S,h1,h2,?_⟩;have hA:=b cpos pins d σ H1 _ U i;rw[c] at hA ⊢;refine Calls.callWith_builtin (by show(false || (backTo cpos (starEach es X.env)).any (·.1))=false;rw[z] <;> rfl) (Calls.evalArgs_plain ?_);exact thn hA λus s2 ⟨vs,H2,I2,r2,q2⟩=>Z pins s2 σ H2 x vs v us Q I2 V r2 q2
def MtM(X:Cx)(id:String)(r:V->ed->Hp->VK->Prop):Prop :=
 ∀(pins:dt) (s:Shared) (σ:St) (H:Hp) (x:V) (xs:ed) (v:Value) (us:b0) (Q:VK),Inv X pins σ H s->RelV x v->Vals xs us->r x xs H Q ->
  wpAny (model X.prog X.w) X.A (call (.builtin id) (v::us)) (EP X pins σ Q) X.xe s
def VInv:ed->b0->Prop
 | [],us=>us=[] |x::xs,us=>∃u t,us=u::t/\RelV x u/\Vals xs t
variable{us:b0}
def Vals.inv(h:Vals xs us):VInv xs us:=by
 cases h with
 |nil=>exact rfl |cons r t=>exact⟨_,_,rfl,r,t⟩
def Vals.one(h:Vals [x] us):∃u,us=[u]/\RelV x u:=by
 obtain⟨u,t,e,r,q⟩:=h.inv;exact⟨u,(show t=[] from q.inv) ▸ e,r⟩
def Vals.two{y:V}(h:Vals [x,y] us):∃u v,us=[u,v]/\RelV x u/\RelV y v:=by
 obtain⟨u,t,e,r,q⟩:=h.inv;obtain⟨v,f,q⟩:=q.one;exact⟨u,v,f ▸ e,r,q⟩
def Vals.zero:∀ {us:b0},Vals [] us->us=[]
 |_,.nil=>rfl
def Vals.dropLast(h:Vals xs us):Vals xs.dropLast us.dropLast:=by
 induction h with
 |nil=>exact .nil |cons r t ih =>
   cases t with
   |nil=>exact .nil |cons q t'=>exact .cons r ih
def Vals.eraseIdx:∀ {xs:ed} {us:b0} (i:Nat),Vals xs us->Vals (xs.eraseIdx i) (us.eraseIdx i)
 |_,_,_,.nil=>.nil |_,_,0,.cons _ t=>t |_,_,i+1,.cons r t=>.cons r (Vals.eraseIdx i t)
def Vals.rep{xs:ed}{us:b0}(h:Vals xs us):∀k:Nat,Vals (List.replicate k xs).flatten (List.replicate k us).flatten
 |0=>.nil |k+1=>by
   rw[gp,gp,bx,bx];exact Vals.append h (Vals.rep h k)
def zlz(l:List α):l.eraseIdx (l.length-1)=l.dropLast:=by
 induction l with
 |nil=>rfl |cons a r ih =>
   cases r with
   |nil=>rfl |cons b r =>
     have e:(a::b::r).length-1=((b::r).length-1)+1:=by
      have h1:(a::b::r).length=r.length+2:=rfl;have h2:(b::r).length=r.length+1:=rfl;omega
     rw[e,t5,ih];all_goals rfl
def zix{α:Type}:∀(l:List α) (i:Nat),(l.eraseIdx i).length<=l.length
 | [],_=>bg _ |_::_,0=>Nat.le_succ _ |_::r,i+1=>lr (zix r i)
def ziy(its:b0):∀(k:Nat) (z:b0),
  List.foldl (λD I=>D++I) z.toArray (List.replicate k its.toArray)=(z++(List.replicate k its).flatten).toArray
 |0,z=>by simp |k+1,z=>by
   have e:z.toArray++its.toArray=(z++its).toArray:=by simp
   have J:(z++its)++(List.replicate k its).flatten=z++(List.replicate (k+1) its).flatten:=by
    rw[gp,bx,b9]
   rw[<-J,<-ziy its k (z++its),<-e,gp,List.foldl_cons]
variable{t':Nat}{l:Addr}
def Inv.lset{f:eb->eb}(I:Inv X pins σ H s)(z:H l=some (.lst xs))(e:s.heap.get? l=some { cls:=.type "list",data:=.seq its.toArray n })(D:f its.toArray=its'.toArray)(J:Vals ys its')(L:ys.length<=sizeLine) :
  Inv X pins σ (upd H l (.lst ys)) { s with heap:=s.heap.update l (Obj.mapSeq f),toks:=t' }:=by
 have q:=PySem.IsL.update e f;rw[D] at q;refine I.write (x:=l) (e:=l) (by rw[z];exact trivial) (.inl rfl) (λU u R S=>(Heap.get?_update_other s.heap (Obj.mapSeq f) (Ne.symm R)).trans S) ⟨_,q⟩ ?_;exact⟨L,its',_,J,q⟩
def Inv.lnew(I:Inv X pins σ H s)(z:Vals ys its)(D:ys.length<=sizeLine) :
  Inv X pins σ (upd H s.heap.objs.size (.lst ys)) { s with heap:=s.heap.push { cls:=.type "list",data:=.seq its.toArray },toks:=t' } :=
 I.laid (λ_ _ q=>bc _ q) (bg _) ⟨D,its,0,z,cb _ rfl⟩
def Inv.fresh(I:Inv X pins σ H s):H s.heap.objs.size=none:=I.hok.fresh (bg _)
def Inv.lstM(I:Inv X pins σ H s)(D:H l=some (.lst xs)):xs.length<=sizeLine/\∃(its:b0) (n:Nat),Vals xs its/\xs.length=its.length/\s.heap.get? l=some { cls:=.type "list",data:=.seq its.toArray n }:=by
 obtain⟨z,its,n,r,e⟩:=I.hok l _ D;exact⟨z,its,n,r,r.length,e⟩
def zku(h:n<=sizeLine):Builtin.List.listTooLong n=false:=by
 unfold Builtin.List.listTooLong;exact decide_eq_false (by omega)
def zr5:V->ed->Hp->VK->Prop:=λx vs H Q=>∃l xs y,x=.ref l/\vs=[y]/\H l=some (.lst xs)/\xs.length<sizeLine/\Q .non (upd H l (.lst (xs++[y])))
theorem ziz:MtM X "list.append" zr5:=by
 intro pins s σ H x vs v us Q I J L h;obtain⟨l,xs,y,rfl,rfl,D,S,q⟩:=h;cases J;obtain⟨u,rfl,R⟩:=L.one;obtain⟨z,its,n,r,U,e⟩:=I.lstM D;refine call_meets F.slot_list_append ⟨_,e,rfl⟩ F.entry_list_append (F.args_list_append_2 _ _) (PySem.list_append l its.toArray n u (by rw[a0];omega)) ⟨e,?_⟩;refine⟨.non,_,I.lset (its':=its++[u]) D e (by simp) (r.append (.cons R .nil)) ?_,rfl,q⟩;rw[aj,cr];omega
def zr6:V->ed->Hp->VK->Prop:=λx vs H Q=>∃l b xs z,x=.ref l/\vs=[.ref b]/\H l=some (.lst xs)/\H b=some (.lst z)/\xs.length+z.length<=sizeLine/\Q .non (upd H l (.lst (xs++z)))
theorem zm8:MtM X "list.extend" zr6:=by
 intro pins s σ H x vs v us Q I S U h;obtain⟨l,b,xs,f,rfl,rfl,R,V,g,q⟩:=h;cases S;obtain⟨u,rfl,Y⟩:=U.one;cases Y;obtain⟨z,its,n,r,i,e⟩:=I.lstM R;obtain⟨j,D,Z,a,c,d⟩:=I.lstM V;have L:its.toArray.size+D.toArray.size<=sizeLine:=by rw[a0,a0];omega
 have J:¬(!its.toArray.isEmpty && Builtin.List.listTooLong (its.toArray.size+D.toArray.size))=true:=by
  rw[zku L,Bool.and_false];exact bu
 refine call_meets F.slot_list_extend ⟨_,e,rfl⟩ F.entry_list_extend (F.args_list_extend_2 _ _)
  (AutoSeq1.list_extend_list_list_0 l its.toArray n b D.toArray Z J (by rw[a0];omega) (by omega)) ⟨e,d,?_⟩
 refine⟨.non,_,I.lset (its':=its++D) R e (by simp) (r.append a) ?_,rfl,q⟩;rw[aj];omega
def rPop:V->ed->Hp->VK->Prop:=λx vs H Q=>∃l xs y,x=.ref l/\vs=[]/\H l=some (.lst xs)/\xs[xs.length-1]?=some y/\Q y (upd H l (.lst xs.dropLast))
theorem zu4:MtM X "list.pop" rPop:=by
 intro pins s σ H x vs v us Q I R S h;obtain⟨l,xs,y,rfl,rfl,L,U,q⟩:=h;cases R;have D:=S.zero;subst D;obtain⟨z,its,n,r,V,e⟩:=I.lstM L;obtain⟨u,Y,Z⟩:=r.get U;have J:its.toArray[its.toArray.size-1]?=some u:=by
  show its.toArray[its.length-1]?=some u;rw[<-Array.getElem?_toList,<-V];exact Y
 refine call_meets F.slot_list_pop ⟨_,e,rfl⟩ F.entry_list_pop (F.args_list_pop_1 _) (MeetsSeq.list_pop_last l its.toArray n u J (by rw[a0];omega)) ⟨e,?_⟩;refine⟨y,_,I.lset (its':=its.dropLast) L e ?_ r.dropLast ?_,Z,q⟩
 ·show its.toArray.eraseIdxIfInBounds (its.toArray.size-1)=its.dropLast.toArray
  rw[a0,li,zlz]
 ·rw[List.length_dropLast]
  omega
def zu5:V->ed->Hp->VK->Prop:=λx vs H Q=>∃l xs i k y,x=.ref l/\vs=[.int i]/\H l=some (.lst xs)/\-(2 ^ 63)<=i/\i<2 ^ 63/\seqIndex? i xs.length=some k/\xs[k]?=some y/\Q y (upd H l (.lst (xs.eraseIdx k)))
theorem zo9:MtM X "list.pop" zu5:=by
 intro pins s σ H x vs v us Q I L R h;obtain⟨l,xs,i,k,y,rfl,rfl,J,h1,h2,S,U,q⟩:=h;cases L;obtain⟨u,rfl,V⟩:=R.one;obtain⟨t,rfl⟩:=V;obtain⟨z,its,n,r,Y,e⟩:=I.lstM J;obtain⟨w,Z,D⟩:=r.get U;refine call_meets F.slot_list_pop ⟨_,e,rfl⟩ F.entry_list_pop (F.args_list_pop_2 _ _)
  (MeetsSeq.list_pop_at l its.toArray n i t k w (fitsIndex_both h1 h2) (by rw[a0,<-Y];exact S) (by rw[<-Array.getElem?_toList];exact Z) (by rw[a0];omega)) ⟨e,?_⟩
 refine⟨y,_,I.lset (its':=its.eraseIdx k) J e ?_ (r.eraseIdx k) ?_,D,q⟩
 ·show its.toArray.eraseIdxIfInBounds k=(its.eraseIdx k).toArray
  rw[li]
 ·have:=zix xs k
  omega
def rRep:R2:=λx y H Q=>∃l k xs,x=.ref l/\y=.int k/\H l=some (.lst xs)/\-(2 ^ 63)<=k/\k<2 ^ 63/\xs.length*k.toNat<=sizeLine /\
 ∀p,H p=none->Q (.ref p) (upd H p (.lst (List.replicate k.toNat xs).flatten))
def zr7(xs:List α)(k:Nat):(List.replicate k xs).flatten.length=k*xs.length:=by
 induction k with
 |zero=>simp |succ k ih=>rw[gp,bx,aj,ih,Nat.succ_mul,Nat.add_comm]
theorem zu6:OpR X (binaryOp .Mult) rRep:=by
 intro pins s σ H x y v u Q I b c h;obtain⟨l,k,xs,rfl,rfl,d,h1,h2,Z,q⟩:=h;cases b;obtain⟨t,rfl⟩:=c;obtain⟨z,its,n,r,f,e⟩:=I.lstM d;have J:its.toArray.size*k.toNat<=sizeLine:=by rw[a0,<-f];exact Z
 have L:¬its.toArray.size*k.toNat > (2 ^ 63-1) / 8:=by
  have:(sizeLine:Nat)<=(2 ^ 63-1) / 8:=by decide
  omega
 have R:¬(!Builtin.List.listFitsIndex k)=true:=by
  rw[fitsIndex_both h1 h2];exact bu
 have D:¬Builtin.List.listTooLong (its.toArray.size*k.toNat)=true:=by
  rw[zku J];exact bu
 have S:List.foldl (λV Y=>V++Y) #[] (List.replicate (if its.toArray.isEmpty=true then 0 else k.toNat) its.toArray)=(List.replicate k.toNat its).flatten.toArray:=by
  have g:∀m:Nat,List.foldl (λV Y=>V++Y) #[] (List.replicate m its.toArray)=(List.replicate m its).flatten.toArray:=λm=>by
   have:=ziy its m [];rw[m4] at this;exact this
  rw[g];cases its with
  |nil=>simp |cons a r'=>rw[if_neg (by simp)]
 refine wpAny_binaryOp_repeat_ref (T:="list") (U:="int") (by decide) ⟨_,e,rfl⟩ (λs'=>typeIs_int s' k t) noFill_list_mul F.fills_int_mul F.slot_int_rmul repeat_list F.slot_int_index.lookup
  (call_meets F.slot_int_rmul (typeIs_int s k t) F.entry_int_rmul (F.args_int_rmul_2 _ _) (int___rmul___int_list k t l its.toArray n)
    ⟨e,rfl,⟨_,e,rfl⟩,call_meets F.slot_list_mul ⟨_,e,rfl⟩ F.entry_list_mul (F.args_list_mul_2 _ _) (AutoListH.list___mul___list_int_3 l its.toArray n k t R L D) ⟨e,?_⟩⟩)
 rw[S];exact⟨.ref _,_,I.lnew (t':=s.toks) (r.rep k.toNat) (by rw[zr7,Nat.mul_comm];exact Z),rfl,q _ I.fresh⟩
end L2
namespace Att
open PySem PySem.W PySem.Calls PyProof.Rows
variable{P:Params}{h:Heap}
def zgx:∀(ns:cc) (vs:b0),WellAll P h vs (ns.map WData.int)->IntsAre vs ns:=by
 intro ns;induction ns with
 |nil =>
   intro vs w;rw[di] at w;cases w;exact .nil
 |cons n ns ih =>
   intro vs w;rw[bo] at w;cases w with
   |cons a b =>
     cases a;exact .cons _ _ (ih _ b)
variable{l:OpenLaw}{n:Nat}
def zm9(V:l.most=some n){args:List WData}{z:b0}(D:l.row.toRowW.claim.pre args=true)(R:WellAll P h z args) :
  ∃a vs ns,z=[Value.ref a]/\args=[WData.list (ns.map WData.int)]/\h.get? a=some { cls:=.type "list",data:=.seq vs.toArray }/\IntsAre vs ns/\ns.length<=n:=by
 have S:WShape.hasAll [] args [.list .int]=true:=(pre_splitW D).1;have U:l.pre.holds [] { args:=args }=true:=(pre_splitW D).2;obtain⟨d,r,rfl,h1,h2⟩:=hasAllW_cons S;obtain rfl:=hasAllW_nil h2;obtain⟨xs,rfl,Y⟩:=hasW_list h1;obtain⟨ns,rfl⟩:=items_int Y;have I:ns.length<=n:=by
  unfold OpenLaw.pre at U;have J:(WTm.not (.lt (.lit (.int (n:Int))) (.len (.arg 0)))).holds [] { args:=[.list (ns.map .int)] }=true:=by
   have J:=(holds_andW U).1;rw[V] at J;exact J
  have L:=condW_of J (w_not (w_lt w_lit (w_len_list (w_arg rfl))));rw[ac] at L;refine jf λq=>?_;have Z:(n:Int)<((ns.length:Nat):Int):=by omega
  first
   | (rw[decide_eq_true Z] at L;exact absurd L (by decide))
   | (simp at L;omega)
 cases R with
 |cons w1 w2 =>
   cases w2;cases w1 with
   |list ho hall=>exact⟨_,_,ns,rfl,rfl,ho,zgx ns _ hall,I⟩
def zna(l:OpenLaw)(args:List WData):l.row.toRowW.claim.post args (.bool true) args=true :=
 postW_of (r:=l.row.toRowW) (X:=(true==true))
  (show WShape.has [] (.bool true) .bool=true by first |rfl |decide |simp[WShape.has,WShape.arms,WShape.armsAll])
  (show(WTm.eq .res (.lit (.bool true))).value [] { args:=args,res:=some (.bool true),after:=args }=some (.bool (true==true)) from w_eq_bool (w_res rfl) w_lit) rfl
def attach_call{q:Program}{D:bt}{h:(Str->b2)->Heap->Prop}{i:World->Heap->Prop}{d:DefRec}(p:l.most=some n)(V:d.params.defaults=[])(call:∀(w:World) (s₀ z:Shared) (mg Z:Str->b2) (fa:Addr) (o:Obj) (b U I:Value) (a:Addr) (vs:b0) (ns:cc),
   Ground q D [] h w s₀ mg Z z.heap->i w z.heap ->
   z.heap.get? fa=some o->o.data=.func (docDef d.name d.params d.body d.scope b U I)->z.heap.CodeRec U d.name->mg d.name=some (.ref fa) ->
   z.heap.get? a=some { cls:=.type "list",data:=.seq vs.toArray }->IntsAre vs ns->ns.length<=n->z.gens=#[] ->
   codeAny (model l.prog w) callerA (.call (.ref fa) ⟨[.ref a],[]⟩) (λr s'=>r=.ok (.ret (.bool true))/\OldK z.heap s'.heap/\s'.os=z.os/\AllBare s'.gens) z) :
  WalkO q D h i l.row.toRowW d [] (λf vs=>PySem.call f vs):=by
 intro w s₀ z mg Z G Y fa o b U I s kV t hd c j e u args k as L m v g x;obtain rfl:s=.none:=Dflts.none j V;obtain rfl:kV=.none:=Dflts.noKw j;obtain⟨a,vs,ns,rfl,rfl,R,J,S⟩:=zm9 p L g;refine enter_call (codeAny_mono (call w s₀ z mg Z fa o b U I a vs ns G Y t (fd_plain hd) c e R J S u) λr s' y=>?_);obtain⟨rfl,h2,A,B⟩:=y;exact⟨.inl ⟨.bool true,.bool true,[],rfl,λ_=>rfl,.bool true,zna l _,λ_=>⟨List.Pairwise.nil,λ_ C=>(nomatch C)⟩⟩,h2,A,B⟩
end Att
namespace L2
open PySem PySem.Spec PyProof.Rows
def zi0:∀ {vs:b0} {ns:cc},IntsAre vs ns->Vals (ns.map V.int) vs
 |_,_,.nil=>.nil |_,_,.cons n t h=>.cons ⟨t,rfl⟩ (zi0 h)
def Only(H:Hp):Prop:=∀b,H b=none\/∃o xs,H b=some (.frz o (.lst xs))
variable{K:dc}{k:Nat}{a:Addr}{x:Str}{vs:b0}
def zpa{P:Program}{w:World}{mg t:Str->b2}{CX:CXT}{fa:Addr}{fd:FuncData}{sp:Sp}{D:Shared}{ns:cc}(E:K.In D.heap)(U:D.heap.Ns mainGlobals mg)(J:D.heap.Ns builtinsNs t)(y:∀x:Str,x ≠ "__name__"->t x=bootBuiltins x)(Y:D.heap.NoLimit)(Q:D.gens=#[])(p:D.heap.get? a=some { cls:=.type "list",data:=.seq vs.toArray })(hi:IntsAre vs ns)(G:ns.length<=sizeLine)(T:Room k callerA)(F:∀base:Heap,K.In base->base.Ns mainGlobals mg->FnOk P w K mg base CX k fa fd [x] sp)(S:∀(s:Shared) (u:Value),BindsTo s fd ⟨[u],[]⟩ [(x,u)])(A:∀H:Hp,Only H->SqL K H a (ns.map V.int)->sp [.ref a] H (λv _=>v=.bl true) λ_ _ _=>False)(B:∀H e s',CX [] H D (λ_ _ _=>False) e s'->False) :
  codeAny (model P w) callerA (.call (.ref fa) ⟨[.ref a],[]⟩) (λr s'=>r=.ok (.ret (.bool true))/\OldK D.heap s'.heap/\s'.os=D.os/\AllBare s'.gens) D:=by
 have M:=zi0 hi;have Z:=hi.length;have R:∀H:Hp,Only H->SqL K H a (ns.map V.int)->HOk P w H D.heap->(∀b,H b≠none->b=a)->(H a≠none->K.lookup a=none) ->
   codeAny (model P w) callerA (.call (.ref fa) ⟨[.ref a],[]⟩) (λr s'=>r=.ok (.ret (.bool true))/\OldK D.heap s'.heap/\s'.os=D.os/\AllBare s'.gens) D:=by
  intro H N W c hA X;have I:∀ {b:Addr} {o:Obj},D.heap.get? b=some o->H b=none->(hidT D.heap H).get? b=some o:=λe n=>zo1 e n;have C:∀ {b:Addr} {o:Obj} {es:Array DictEntry} {f:Nat},D.heap.get? b=some o->o.data=.dict es f->H b=none:=λ{b o es f} e d=>by
   cases q:H b with
   |none=>rfl |some u =>
     have e':b=a:=hA b (by rw[q];simp);subst e';rw[p] at e;cases e;have d':Data.seq vs.toArray _=Data.dict es f:=d;cases d'
  have L:∀ {b:Addr} {m:Str->b2},D.heap.Ns b m->(hidT D.heap H).Ns b m:=λ{b m} ⟨o,es,f,e,d,r⟩=>⟨o,es,f,I e (C e d),d,r⟩;have g:K.In (hidT D.heap H):=λb o e=>I (E b o e) (by
   cases q:H b with
   |none=>rfl |some u =>
     have e':b=a:=hA b (by rw[q];simp);subst e';rw[X (by rw[q];simp)] at e;cases e)
  have hM:Mod K mg (hidT D.heap H):=⟨g,L U,⟨t,L J,y⟩,let ⟨mc,h1,h2⟩:=Y;⟨mc,L h1,h2⟩⟩;have e0:Env0 P w K mg (hidT D.heap H) callerA [] D H:=⟨rfl,hM,λb o e=>zrh e,Nat.le_of_eq (zmr _ _),trivial,λb J=>absurd (show b∈([]:b4) from J) (by simp),c,.of_eq Q⟩;refine codeAny_mono ((F _ g (L U)).run callerA [] D H ⟨[.ref a],[]⟩ [.ref a] [.ref a] _ _ T e0 (S D (.ref a)) (.cons rfl .nil) (A H N W)) λr s' h=>?_;cases r with
  |error e=>exact(B H e s' h).elim |ok fl =>
    cases fl with
    |next=>exact False.elim h |brk=>exact False.elim h |cont=>exact False.elim h |ret u =>
      obtain⟨v,H',os,i,un,j,r',q⟩:=h;have q':v=.bl true:=q;subst q';obtain rfl:u=Value.bool true:=r';refine⟨rfl,OldK.of_keep λb o e=>?_,os,i⟩;cases q:H b with
      |none=>exact un.keep b o e q (by intro z;exact absurd (show b∈([]:b4) from z) (by simp)) (by simp)
      |some u =>
        rcases N b with z | ⟨ob,xs,z⟩
        ·rw[q] at z;cases z
        ·have z2:=un.frzs b ob _ z
         obtain⟨O,_⟩:=c b _ z;obtain⟨e2,_⟩:=j b _ z2;rw[e] at O;cases O;exact e2
 cases hk:K.lookup a with
 |some o =>
   have e:=E a o hk;rw[p] at e;cases e;refine R (λ_=>none) (λ_=>.inl rfl) (.inr ⟨_,vs.toArray,_,hk,rfl,rfl,rfl,by rw[a0,Z];exact G,by simpa using M⟩) (λb u z=>by have l:(none:Option HO)=some u:=z;cases l) (λb z=>absurd rfl z) λz=>absurd rfl z
 |none =>
   refine R (λb=>if b=a then some (.frz { cls:=.type "list",data:=.seq vs.toArray } (.lst (ns.map V.int))) else none) (λb=>?_) (.inl (.inr ⟨{ cls:=.type "list",data:=.seq vs.toArray },if_pos rfl⟩)) (λb u z=>?_) (λb z=>?_) λ_=>hk
   ·by_cases J:b=a
    ·exact .inr ⟨_,_,if_pos J⟩
    ·exact .inl (if_neg J)
   ·by_cases J:b=a
    ·have l:=(if_pos J).symm.trans z
     cases l;subst J;exact⟨p,by rw[ac];exact G,vs,_,M,p⟩
    ·have l:=(if_neg J).symm.trans z
     cases l
   ·by_cases J:b=a
    ·exact J
    ·exact absurd (if_neg J) z
variable{l:Addr}{n:Nat}{q:FT}{d:D}
def zr8{l:PySem.W.OpenLaw}{q:Program}{D:bt}{m:(Str->b2)->Heap->Prop}{i:World->Heap->Prop}{d:DefRec}{K:Params->dc}{CX:World->CXT}{sp:World->Sp}(p:l.most=some n)(R:n<=sizeLine)(S:d.params.defaults=[])(r:Room k callerA)(t:∀(w:World) (h:Heap),i w h->(K w.params).In h)(F:∀(w:World) (mg:Str->b2) (fa:Addr) (h:Heap),(K w.params).In h->h.Ns mainGlobals mg->mg d.name=some (.ref fa) ->
   ∃fd:FuncData,(∀(s:Shared) (u:Value),BindsTo s fd ⟨[u],[]⟩ [(x,u)]) /\
    ∀base:Heap,(K w.params).In base->base.Ns mainGlobals mg->FnOk l.prog w (K w.params) mg base (CX w) k fa fd [x] (sp w))(U:∀(w:World) (H:Hp) (a:Addr) (ns:cc),ns.length<=n->Only H->SqL (K w.params) H a (ns.map V.int)->sp w [.ref a] H (λv _=>v=.bl true) λ_ _ _=>False)(Z:∀(w:World) (H:Hp) (s:Shared) (e:Value) (s':Shared),CX w [] H s (λ_ _ _=>False) e s'->False) :
  PySem.W.WalkO q D m i l.row.toRowW d [] (λf vs=>PySem.call f vs):=by
 refine Att.attach_call p S λw s₀ J mg O fa o P Q y a vs ns G Y X hd A c L I z B=>?_;have j:=t w _ Y;obtain⟨fd,C,E⟩:=F w mg fa _ j G.T.g c;exact zpa j G.T.g G.T.b G.T.builtins G.T.nolimit B L I (bh z R) r E C (λH M N=>U w H a ns z M N) λH e s'=>Z w H J e s'
def nh(s:Stmt):Arguments:=match s with
 | .FunctionDef _ a _ _ _ _ _ _ _ _=>a |_=>{ posonlyargs:=[],args:=[],vararg:=none,kwonlyargs:=[],kw_defaults:=[],kwarg:=none,defaults:=[] }
def ka(s:Stmt):List Stmt:=match s with
 | .FunctionDef _ _ b _ _ _ _ _ _ _=>b |_=>[]
def gv(s:Stmt):Scope:=match s with
 | .FunctionDef _ _ _ _ _ _ sc _ _ _=>sc |_=>{ kind:=.function,names:=[],isGenerator:=false,isCoroutine:=false }
abbrev CX0:CXT:=λ_ _ _ _ _ _=>False
abbrev E0:XK:=λ_ _ _=>False
variable{X:Cx}
def xp:yc CX0 X E0:=λ_ _ _ _ _ _ _ h=>h.elim
structure Fun (K:dc) (x qual:Str) (st:Stmt) (f:Addr) (fd:FuncData):Prop where
 ex:∃(oc:Value) (od:Option Addr) (kV doc pm:Value) (an:Option Addr) (cdv ct:Value) (osl:Array b2),
  fd=PySem.W.fnOf x qual (nh st) (ka st) (gv st) .none kV doc pm an cdv ct/\K.lookup f=some ⟨oc,od,.func fd,osl⟩/\PySem.W.codeIn K cdv qual=true
 kp:PySem.W.keepIn K (.ref f)=true
variable{f:FE}
def x0{qual:Str}{st:Stmt}{f:Addr}{oc:Value}{od an:Option Addr}{osl:Array b2}{kV z D cdv ct:Value}(l:K.lookup f=some ⟨oc,od,.func (PySem.W.fnOf x qual (nh st) (ka st) (gv st) .none kV z D an cdv ct),osl⟩)(c:PySem.W.codeIn K cdv qual=true)(k:PySem.W.keepIn K (.ref f)=true):Fun K x qual st f (PySem.W.fnOf x qual (nh st) (ka st) (gv st) .none kV z D an cdv ct):=⟨⟨oc,od,kV,z,D,an,cdv,ct,osl,rfl,l,c⟩,k⟩
def Same(H H':Hp):Prop:=∀b o,H b=some o->H' b=some o
def Same.refl(H:Hp):Same H H:=λ_ _ h=>h
variable{H H1 H2:Hp}
def Same.trans(a:Same H H1)(b:Same H1 H2):Same H H2:=λc o h=>b c o (a c o h)
variable{H':Hp}
def Same.free(e:Same H H')(h:H' l=Option.none):H l=Option.none:=by
 cases q:H l with
 |none=>rfl |some o =>
   rw[e l o q] at h;cases h
def zc{env:Env}:∀(names:List (Str×NameKind)) (z:List (Str×Addr)),
  (∀y∈names,y.2=.free->∃c,env.cells.lookup y.1=some c)->(∀y c,z.lookup y=some c->env.cells.lookup y=some c) ->
  ∃cl,(forIn names z λ(x:Str×NameKind) (cs:List (Str×Addr))=>if (x.2==NameKind.free)=true then(do let c <-cellOf env x.1;pure (ForInStep.yield ((x.1,c)::cs)):Sem _) else pure (ForInStep.yield cs))=pure cl /\
   (∀y c,cl.lookup y=some c->env.cells.lookup y=some c)/\(∀y c,z.lookup y=some c->∃I,cl.lookup y=some I)/\∀y∈names,y.2=.free->∃c,cl.lookup y.1=some c
 | [],z,_,ha=>⟨z,rfl,ha,λy c e=>⟨c,e⟩,λ_ h=>nomatch h⟩ | (n,k)::r,z,hn,ha=>by
   by_cases L:k=.free
   ·subst L
    obtain⟨c,S⟩:=hn (n,.free) au rfl;obtain⟨cl,e,h1,h2,R⟩:=zc r ((n,c)::z) (λy hy=>hn y (ak _ hy)) (λy I e=>by
     rw[b6] at e;cases hq:y==n with
     |true=>rw[hq] at e;cases e;rw[eq_of_beq hq];exact S
     |false=>rw[hq] at e;exact ha y I e)
    have D:List.lookup n ((n,c)::z)=some c:=by simp[b6]
    refine⟨cl,?_,h1,λy I e'=>?_,λy hy J=>?_⟩
    ·rw[List.forIn_cons]
     have U:cellOf env n=pure c:=by unfold cellOf;rw[S]
     simp only[beq_self_eq_true,if_true,U,pure_bind];exact e
    ·cases hq:y==n with
     |true=>rw[eq_of_beq hq];exact h2 n c D |false=>exact h2 y I (by rw[b6,hq];exact e')
    ·rcases b8.mp hy with rfl |hy
     ·exact h2 n c D
     ·exact R y hy J
   ·obtain⟨cl,e,h1,h2,R⟩:=zc r z (λy hy=>hn y (ak _ hy)) ha
    refine⟨cl,?_,h1,h2,λy hy J=>?_⟩
    ·rw[List.forIn_cons]
     have V:(k==NameKind.free)=false:=by cases k <;> first |rfl |exact absurd rfl L
     simp only[V,cq,if_false,pure_bind];exact e
    ·rcases b8.mp hy with rfl |hy
     ·exact absurd J L
     ·exact R y hy J
variable{sc:Scope}{env:DE0}
def zhs{env:Env}(h:∀y∈sc.names,y.2=.free->∃c,env.cells.lookup y.1=some c) :
  ∃cl,closureFor sc env=pure cl/\(∀y c,cl.lookup y=some c->env.cells.lookup y=some c)/\∀y∈sc.names,y.2=.free->∃c,cl.lookup y.1=some c:=by
 obtain⟨cl,e,h1,_,z⟩:=zc (env:=env) sc.names [] h (λy c e=>by simp at e);refine⟨cl,?_,h1,z⟩;unfold closureFor;rw[show(pure cl:Sem _)=(pure cl >>= λcs=>pure cs) by rw[pure_bind],<-e]
def zb0{env:Env}:∀ {names:List (Str×NameKind)} {x:Str} {k:NameKind},
  (names.map λ(n,k)=>if (k==NameKind.free && env.scope.kind==.function && env.kindOf n==some .cell) then(n,NameKind.cell) else(n,k)).lookup x=some k ->
  names.lookup x=some k\/(names.lookup x=some .free/\k=.cell)
 | (n,k0)::r,x,k,h=>by
   have D:=@zb0 env r x k;have h:List.lookup x ((if (k0==NameKind.free && env.scope.kind==.function && env.kindOf n==some .cell)=true then(n,NameKind.cell) else(n,k0))::_)=_:=h;cases hx:x==n with
   |true =>
     by_cases z:(k0==NameKind.free && env.scope.kind==.function && env.kindOf n==some .cell)=true
     ·rw[if_pos z] at h
      simp only[b6,hx] at h ⊢;simp only[ij,beq_iff_eq] at z;cases h;exact .inr ⟨by rw[z.1.1],rfl⟩
     ·rw[if_neg z] at h
      simp only[b6,hx] at h ⊢;exact .inl h
   |false =>
     by_cases z:(k0==NameKind.free && env.scope.kind==.function && env.kindOf n==some .cell)=true
     ·rw[if_pos z] at h
      simp only[b6,hx] at h ⊢;exact D h
     ·rw[if_neg z] at h
      simp only[b6,hx] at h ⊢;exact D h
def wn{env:Env}:∀ {names:List (Str×NameKind)} {x:Str},names.lookup x=some .free ->
  (names.map λ(n,k)=>if (k==NameKind.free && env.scope.kind==.function && env.kindOf n==some .cell) then(n,NameKind.cell) else(n,k)).lookup x=some .cell \/
  (names.map λ(n,k)=>if (k==NameKind.free && env.scope.kind==.function && env.kindOf n==some .cell) then(n,NameKind.cell) else(n,k)).lookup x=some .free
 | (n,k0)::r,x,h=>by
   have D:=@wn env r x;show List.lookup x ((if (k0==NameKind.free && env.scope.kind==.function && env.kindOf n==some .cell)=true then(n,NameKind.cell) else(n,k0))::_)=_\/List.lookup x ((if (k0==NameKind.free && env.scope.kind==.function && env.kindOf n==some .cell)=true then(n,NameKind.cell) else(n,k0))::_)=_;cases hx:x==n with
   |true =>
     simp only[b6,hx] at h;cases h;by_cases z:(NameKind.free==NameKind.free && env.scope.kind==.function && env.kindOf n==some .cell)=true
     ·rw[if_pos z];simp only[b6,hx];exact .inl trivial
     ·rw[if_neg z];simp only[b6,hx];exact .inr trivial
   |false =>
     simp only[b6,hx] at h;by_cases z:(k0==NameKind.free && env.scope.kind==.function && env.kindOf n==some .cell)=true
     ·rw[if_pos z];simp only[b6,hx];exact D h
     ·rw[if_neg z];simp only[b6,hx];exact D h
def iw(X:Cx)(x:Str)(N':bt)(sc:Scope)(cl:List (Str×Addr))(C:Addr)(s₂:Shared)(H₂:Hp)(fp:b4):Cx :=
 { X with N:=x::N',s₀:=s₂,H₀:=H₂,env:=compEnvC sc cl C X.env,outer:=X.stack,stack:=X.stack,ex:=fp,fn:=λ_=>false,pn:=[],xe:=λ_ _=>False }
def PIfs(X:Cx)(ifs:ci)(tt:TT):Prop :=
 ∀(pins:dt) (s:Shared) (σ:St) (H:Hp) (Q:Bool->Hp->Prop),Inv X pins σ H s->tt σ H Q ->
  wpAny (model X.prog X.w) X.A (forIn ifs true λc r=>if r=true then do let ok <-isTrue c X.env (eval c X.env);pure (ForInStep.yield ok) else pure (ForInStep.yield r)) (TP X pins σ Q) X.xe s
def tYes:TT:=λ_ H Q=>Q true H
def zpb:PIfs X [] tYes:=λ_ _ _ H _ I h=>wpAny_tests_nil ⟨H,I,h⟩
def o6(wi:TI)(ix:b5)(tt:TT)(te:TE):TE:=λσ H Q=>wi σ H λJ H1=>∃W:Nat->Nat->Hp->ed->Prop,(∃m,W 0 m H1 [])/\∀i m H ys,W i m H ys ->
 (J.stop i H/\ys.length<=sizeLine/\∀D,H D=none->Q (.ref D) (upd H D (.lst ys))) \/
 (J.go i H/\∀x H',J.yld i H x H'->tt (some x::ix.map (λj=>σ.getD j none)) H' λb H2 =>
   if b=true then te (some x::ix.map (λj=>σ.getD j none)) H2 λv I=>ys.length<sizeLine/\∃z,z<m/\W (i+1) z I (ys++[v]) else ∃z,z<m/\W (i+1) z H2 ys)
abbrev lobj(ys:b0):Obj:={ cls:=.type "list",data:=.seq ys.toArray ys.length }
variable{pins:dt}{σ:St}{s2:Shared}{fp:b4}{cl:List (Str×Addr)}{h₁:Heap}{m₁:Str->b2}{ix:b5}{N':bt}
def znc{tk:Nat}(l:N'=ix.map λi=>X.N.getD i ("" : Str))(G:sc.kind=.function)(S:∀y∈sc.names,y.2≠.cell)(U:∀y∈sc.names,y.2=.free->X.env.kindOf y.1=some .cell\/X.env.kindOf y.1=some .free)(n:∀y∈N',sc.names.lookup y=some .free)(h1:∀y c,cl.lookup y=some c->X.env.cells.lookup y=some c)(F:∀y∈sc.names,y.2=.free->∃c,cl.lookup y.1=some c)(I:Inv X pins σ H2 s2)(h:∀b∈fp,FpOk X pins H2 b)(r:∀b∈fp,∃o,s2.heap.get? b=some o)(R:∀b o,s2.heap.get? b=some o->h₁.get? b=some o)(s:h₁.Ns (s2.heap.objs.size+1) m₁)(H:h₁.get? s2.heap.objs.size=some (lobj [])) :
  Inv (iw X x N' sc cl (s2.heap.objs.size+1) s2 H2 fp) [(s2.heap.objs.size,lobj [])] (none::ix.map (λj=>σ.getD j none)) H2 { s2 with heap:=h₁,toks:=tk }:=by
 have t:∀b∈fp,b<s2.heap.objs.size:=λb L=>by obtain⟨o,e⟩:=r b L;exact bj e
 have Y:∀b,s2.heap.objs.size<=b->b∉frs X.stack:=λb L z=>by
  rcases b8.mp (I.stkSub b z) with e |z
  ·exact absurd (ba I.lt (e ▸ L)) (f8 _)
  ·exact I.nofs L z
 refine⟨⟨I.ok.mod,G,I.ok.glob,I.ok.blt,Nat.le_succ _,λy z c J D=>I.ok.inj y z c (h1 _ _ J) (h1 _ _ D),λy K=>?_,λy c z _=>(by cases z),I.ok.hd,I.ok.frames,.inl rfl,λb L=>⟨?_,λy c e=>?_⟩,I.bs,bh I.ok.bsz I.sz,λb o e L=>?_,λb L z=>?_,I.stack,I.stkFree⟩,
  rfl,I.bare,Un.kept R,⟨m₁,s,λi y v J D W=>?_⟩,λy c e=>?_,I.hok.fresh (Nat.le_succ _),λy c e=>I.freeC y c (h1 y c e),λp A=>?_,I.hok.kept R,?_⟩
 ·have B:(relabel sc X.env).names.lookup y=some .cell\/(relabel sc X.env).names.lookup y=some .free:=K
  have M:sc.names.lookup y=some .free:=by
   rcases B with q |q
   ·rcases zb0 q with q | ⟨q,_⟩
    ·exact absurd rfl (S _ (dq q))
    ·exact q
   ·rcases zb0 q with q | ⟨_,q⟩
    ·exact q
    ·cases q
  exact F (y,.free) (dq M) rfl
 ·exact bz (gc (t b L))
 ·exact(h b L).2.2.2.2.1 y c (h1 y c e)
 ·rcases(h b L).2.2.2.1 with z |z
  ·exact I.ok.noex b o e z
  ·exact absurd (ba (bj e) (bh I.ok.bsz z)) (f8 _)
 ·have z:b∈frs X.stack:=z
  rcases b8.mp (I.stkSub b z) with e |z
  ·exact(h b L).2.1 e
  ·exact(h b L).2.2.1 z
 ·cases i with
  |zero=>simp at D |succ j =>
    have J:N'[j]?=some y:=by simpa[iw] using J
    have D:(ix.map (λj=>σ.getD j none))[j]?=some (some v):=by simpa using D
    rw[l,bv] at J;rw[bv] at D;cases q:ix[j]? with
    |none=>rw[q] at J;cases J
    |some k =>
      rw[q] at J D;have J:X.N.getD k "" = y:=az J;have D:σ.getD k none=some v:=az D;have Z:σ[k]?=some (some v):=by
       rw[ae] at D;cases q2:σ[k]? with
       |none=>rw[q2] at D;cases D
       |some z=>rw[q2] at D;rw[show z=some v from D]
      have a:k<X.N.length:=by rw[<-I.len];exact(am.mp Z).1
      have C:X.N[k]?=some y:=by
       rw[ae,ai a] at J;rw[ai a];exact congrArg some J
      have E:y∈N':=by
       rw[l,<-J];exact bi.mpr ⟨k,bq q,rfl⟩
      have V:=n y E;have d:=U (y,.free) (dq V) rfl;have f:Vis X.env.scope y:=by
       rcases d with z |z
       ·exact .inr (.inl z)
       ·exact .inr (.inr z)
      obtain⟨m,hn,O⟩:=I.loc;obtain⟨u,P,Q⟩:=O k y v C Z f;refine⟨u,P,.inr ⟨?_,?_⟩⟩
      ·exact wn V
      ·rcases Q with⟨z,_⟩ | ⟨_,c,hc,hcv⟩
       ·rcases d with w |w <;> rw[show X.env.kindOf y=_ from w] at z <;> cases z
       ·obtain⟨T,g⟩:=F (y,.free) (dq V) rfl
        have:=h1 y T g;rw[hc] at this;cases this;exact⟨c,g,hcv.keeps R⟩
 ·obtain⟨v,q⟩:=I.cell y c (h1 y c e)
  exact⟨v,q.keeps R⟩
 ·have A:p∈[(s2.heap.objs.size,lobj [])]:=A
  rw[de.mp A];exact⟨H,I.hok.fresh (bg _),bz (dz _),Y _ (bg _),λv z=>by cases z⟩
 ·simp[iw,l]
variable{ys:ed}{y:Str}
def Vals.snoc{y:V}{u:Value}(h:Vals ys vs)(r:RelV y u):Vals (ys++[y]) (vs++[u]):=Vals.append h (.cons r .nil)
def znd(vs:b0)(u:Value):({ cls:=.type "list",data:=.seq (vs.toArray.push u) (vs.length+1) }:Obj)=lobj (vs++[u]):=LCg.lst_snoc vs u
def zkv{a:St}{S:Shared}{h':Heap}(I:Inv X pins σ H2 s2)(h:∀b∈fp,FpOk X pins H2 b)(i:∀b∈fp,∃o,s2.heap.get? b=some o)(J:Inv (iw X x N' sc cl (s2.heap.objs.size+1) s2 H2 fp) [(s2.heap.objs.size,lobj vs)] a H' S)(j:Vals ys vs)(k:ys.length<=sizeLine)(Y:Heap.SameBut (s2.heap.objs.size+1) S.heap h') :
  Inv X pins σ (upd H' s2.heap.objs.size (.lst ys)) { S with heap:=h' }:=by
 have g:=J.pin (s2.heap.objs.size,lobj vs) (bn _ au);have U:H' s2.heap.objs.size=none:=g.2.1;have V:H' (s2.heap.objs.size+1)=none:=J.free;have L:Un (frs X.stack) fp H2 H' s2.heap S.heap:=J.base;have Z:∀b o,s2.heap.get? b=some o->b≠s2.heap.objs.size/\b≠s2.heap.objs.size+1:=λb o e=>by
  have:=bj e;exact⟨bz this,bz (gc this)⟩
 have l:∀b,s2.heap.objs.size<=b->H2 b=none:=λb D=>I.hok.fresh D;have d:∀b o,H2 b=some o->b≠s2.heap.objs.size:=λb o e z=>by rw[z,l _ (bg _)] at e;cases e
 have m:Un (frs X.stack) fp H2 (upd H' s2.heap.objs.size (.lst ys)) s2.heap h':=by
  refine⟨λb o e n D R=>(Y.2 b (Z b o e).2).trans (L.keep b o e n D R),λb o e n D R=>?_,λb o e n R=>?_,λb o e R=>?_,λb xs e=>?_,λb o u e=>?_,λb ps e=>?_⟩
  ·obtain⟨p,q⟩:=L.slot b o e n D R
   exact⟨p,(Y.2 b (Z b o e).2).trans q⟩
  ·rw[ic (Z b o e).1];exact L.free b o e n R
  ·obtain⟨o',q⟩:=L.there b o e R
   exact⟨o',(Y.2 b (Z b o e).2).trans q⟩
  ·rw[ic (d b _ e)];exact L.tups b xs e
  ·rw[ic (d b _ e)];exact L.frzs b o u e
  ·rw[ic (d b _ e)];exact L.tbls b ps e
 have kk:∀b u,b≠s2.heap.objs.size+1->S.heap.get? b=some u->h'.get? b=some u:=λb u D q=>(Y.2 b D).trans q;have f:HOk X.prog X.w (upd H' s2.heap.objs.size (.lst ys)) h':=λb u e=>by
  by_cases D:b=s2.heap.objs.size
  ·subst D
   rw[km] at e;cases e;exact⟨k,vs,vs.length,j,kk _ _ (bz (dz _)) g.1⟩
  ·rw[ic D] at e
   have r:b≠s2.heap.objs.size+1:=λz=>by rw[z,V] at e;cases e
   refine(J.hok b u e).stay (λc v hc q=>kk c v ?_ q) (λc q=>?_) λc xs q=>?_
   ·rcases hc with rfl |hc
    ·exact r
    ·intro z;rw[z,V] at hc;cases hc
   ·rw[ic (λz=>by rw[z,U] at q;cases q)];exact q
   ·rw[ic (λz=>by rw[z,U] at q;cases q)];exact q
 refine I.call' (s':={ S with heap:=h' }) (ch:=fp) J.os m f J.bare λb D=>?_;obtain⟨_,s,_,t,y,A⟩:=h b D;exact⟨t,s,y,A⟩
variable{Q:VK}{W:Addr->Prop}{Cm:Cx->Prop}{px pos:Pos}{iter elt:Expr}{ifs:ci}{tt:TT}{te:TE}
theorem zi1{it:Addr}{F:Nat->Heap->Prop}{J:It}{R:Result->Shared->Prop}{m0:Nat}{W:Nat->Nat->Hp->ed->Prop}(hc:∀cl C s₂ H₂ fp pins σ,Inv X pins σ H₂ s₂->(∀b∈fp,FpOk X pins H₂ b)->Cm (iw X x N' sc cl C s₂ H₂ fp))(a5:∀cl C s₂ H₂ fp,Cm (iw X x N' sc cl C s₂ H₂ fp)->PIfs (iw X x N' sc cl C s₂ H₂ fp) ifs tt)(a6:∀cl C s₂ H₂ fp,Cm (iw X x N' sc cl C s₂ H₂ fp)->PE (iw X x N' sc cl C s₂ H₂ fp) elt te)(hN:N'=ix.map λi=>X.N.getD i ("" : Str))(a7:(x::N').Nodup)(hk:sc.kind=.function)(hx:sc.names.lookup x=some .local)(G:∀y∈sc.names,y.2≠.cell)(a4:∀y∈sc.names,y.2=.local->sc.names.lookup y.1=some .local)(M:∀y∈sc.names,y.2=.free->X.env.kindOf y.1=some .cell\/X.env.kindOf y.1=some .free)(a8:∀y∈N',sc.names.lookup y=some .free)(h1:∀y c,cl.lookup y=some c->X.env.cells.lookup y=some c)(h3:∀y∈sc.names,y.2=.free->∃c,cl.lookup y.1=some c)(a:Inv X pins σ H2 s2)(T:qc Cm X.prog X.w X.K (.Name x px) J fp it F)(aa:F 0 s2.heap)(s:∀b∈fp,FpOk X pins H2 b)(w0:W 0 m0 H2 [])(turn:∀i m H ys,W i m H ys ->
   (J.stop i H/\ys.length<=sizeLine/\∀D,H D=none->Q (.ref D) (upd H D (.lst ys))) \/
   (J.go i H/\∀x H',J.yld i H x H'->tt (some x::ix.map (λj=>σ.getD j none)) H' λb H2 =>
     if b=true then te (some x::ix.map (λj=>σ.getD j none)) H2 λv H3=>ys.length<sizeLine/\∃f,f<m/\W (i+1) f H3 (ys++[v]) else ∃f,f<m/\W (i+1) f H2 ys))(ag:∀b o,s2.heap.get? b=some o->h₁.get? b=some o)(g:h₁.Ns (s2.heap.objs.size+1) m₁)(al:h₁.get? s2.heap.objs.size=some (lobj []))(hR:∀s5 t ys vs h,Inv (iw X x N' sc cl (s2.heap.objs.size+1) s2 H2 fp) [(s2.heap.objs.size,lobj vs)] h t s5->Vals ys vs->ys.length<=sizeLine->(∀D,t D=none->Q (.ref D) (upd t D (.lst ys)))->R (.ok .next) s5) :
  codeAny (model X.prog X.w) X.A (.compStart (.ListComp elt [⟨.Name x px,iter,ifs,0⟩] sc pos) 0 (.ref it) (.ref s2.heap.objs.size) (compEnvC sc cl (s2.heap.objs.size+1) X.env)) R { s2 with heap:=h₁,toks:=s2.toks+([]:List (Str×Value)).length }:=by
 have an:∀b∈fp,∃o,s2.heap.get? b=some o:=λb I=>by obtain⟨o,e,_⟩:=T.obj _ _ aa b I;exact⟨o,e⟩
 have O:∀b∈fp,b<s2.heap.objs.size:=λb I=>by obtain⟨o,e⟩:=an b I;exact bj e
 have I3:=znc (x:=x) (tk:=s2.toks+([]:List (Str×Value)).length) hN hk G M a8 h1 h3 a s an ag g al;have ao:F 0 h₁:=T.keep _ _ _ aa λb I o e=>ag b o e;generalize S:iw X x N' sc cl (s2.heap.objs.size+1) s2 H2 fp=X' at I3;have eP:X'.prog=X.prog:=by rw[<-S];rfl
 have eW:X'.w=X.w:=by rw[<-S];rfl
 have eK:X'.K=X.K:=by rw[<-S];rfl
 have eA:X'.A=X.A:=by rw[<-S];rfl
 have B:X'.env=compEnvC sc cl (s2.heap.objs.size+1) X.env:=by rw[<-S];rfl
 have eC:Cm X':=by rw[<-S];exact hc _ _ _ _ _ _ _ a s
 have ap:X'.pn=[]:=by rw[<-S];rfl
 have ar:X'.xe=λ_ _=>False:=by rw[<-S];rfl
 have ax:X'.fs=frs X.stack:=by rw[<-S];rfl
 have a9:X'.ex=fp:=by rw[<-S];rfl
 have eN:X'.N=x::N':=by rw[<-S];rfl
 have eS:X'.s₀=s2:=by rw[<-S];rfl
 have bb:∀b∈fp,b∉frs X.stack:=λb I z=>by
  rcases b8.mp (a.stkSub b z) with e |z
  ·exact(s b I).2.1 e
  ·exact(s b I).2.2.1 z
 have a1:s2.heap.objs.size∉frs X.stack:=λz=>by
  rcases b8.mp (a.stkSub _ z) with e |z
  ·exact absurd (e ▸ a.lt) (f8 _)
  ·exact a.nofs (bg _) z
 have Y:∀ {H':Hp} {vs:b0},(∀b∈fp,H' b=none)->∀b∈fp,FpOk X' [(s2.heap.objs.size,lobj vs)] H' b:=λ{H' vs} hn b I=>by
  refine⟨hn b I,?_,?_,.inl (by rw[a9];exact I),λy c e=>?_,λp k=>?_⟩
  ·rw[B];exact bz (gc (O b I))
  ·rw[ax];exact bb b I
  ·rw[B] at e;exact(s b I).2.2.2.2.1 y c (h1 y c e)
  ·rw[ap] at k
   rw[de.mp (show p∈[(s2.heap.objs.size,lobj vs)] from k)];exact ky (O b I)
 have loop:∀L:Shared,L={ s2 with heap:=h₁,toks:=s2.toks+([]:List (Str×Value)).length } ->
   codeAny (model X.prog X.w) X.A (.compLoop (.ListComp elt [⟨.Name x px,iter,ifs,0⟩] sc pos) 0 (.ref it) (.ref s2.heap.objs.size) (compEnvC sc cl (s2.heap.objs.size+1) X.env))
    (R) L:=by
  rintro L rfl;refine codeAny_compLoop_tests (λn s'=>∃i U H' ys vs,Inv X' [(s2.heap.objs.size,lobj vs)] (U::ix.map (λj=>σ.getD j none)) H' s'/\Vals ys vs/\F i s'.heap/\(∀b∈fp,H' b=none)/\W i n H' ys) ?_ m0
   ⟨0,none,H2,[],[],I3,.nil,ao,λb I=>(s b I).1,w0⟩
  rintro n s4 ⟨i,U,t,ys,vs,I4,hv4,st4,fr4,w4⟩;rcases turn i n t ys w4 with⟨a2,hl,qn⟩ | ⟨go,step⟩
  ·have D:=T.done X' eP eW eK eC i _ s4 _ t (notedBy (model X.prog X.w) X.A (compEnvC sc cl (s2.heap.objs.size+1) X.env) λe s'=>R (.error e) s') I4 (Y fr4) st4 a2
   rw[eA] at D;refine thn D λr s5 l=>?_;obtain⟨hr,I5⟩:=l;subst hr;exact hR s5 t ys vs _ (S ▸ I5) hv4 hl qn
  ·have D:=T.item X' eP eW eK eC i _ s4 _ t (notedBy (model X.prog X.w) X.A (compEnvC sc cl (s2.heap.objs.size+1) X.env) λe s'=>R (.error e) s') I4 (Y fr4) st4 go
   rw[eA] at D;refine thn D λr s5 l=>?_;obtain⟨u,hr,h5⟩:=l;subst hr;have bd:wpAny (model X.prog X.w) X.A (letOwnedTupleGo (.Name x px) (.ref it) u >>= λ_=>assign (.Name x px) (compEnvC sc cl (s2.heap.objs.size+1) X.env) u) (λ_ s₂ =>
     wpAny (model X.prog X.w) X.A (forIn ifs true λc r=>if r=true then do let ok <-isTrue c (compEnvC sc cl (s2.heap.objs.size+1) X.env) (eval c (compEnvC sc cl (s2.heap.objs.size+1) X.env));pure (ForInStep.yield ok) else pure (ForInStep.yield r)) (λok L =>
      if ok=true then wpAny (model X.prog X.w) X.A (eval elt (compEnvC sc cl (s2.heap.objs.size+1) X.env)) (λx a3 =>
       wpAny (model X.prog X.w) X.A (call (.builtin "list.append") [.ref s2.heap.objs.size,x]) (λ_ E=>∃m,m<n/\∃i U H' ys vs,Inv X' [(s2.heap.objs.size,lobj vs)] (U::ix.map (λj=>σ.getD j none)) H' E/\Vals ys vs/\F i E.heap/\(∀b∈fp,H' b=none)/\W i m H' ys)
        (notedBy (model X.prog X.w) X.A (compEnvC sc cl (s2.heap.objs.size+1) X.env) λe s'=>R (.error e) s') a3)
       (notedBy (model X.prog X.w) X.A (compEnvC sc cl (s2.heap.objs.size+1) X.env) λe s'=>R (.error e) s') L
      else ∃m,m<n/\∃i U H' ys vs,Inv X' [(s2.heap.objs.size,lobj vs)] (U::ix.map (λj=>σ.getD j none)) H' L/\Vals ys vs/\F i L.heap/\(∀b∈fp,H' b=none)/\W i m H' ys)
      (notedBy (model X.prog X.w) X.A (compEnvC sc cl (s2.heap.objs.size+1) X.env) λe s'=>R (.error e) s') s₂)
     (notedBy (model X.prog X.w) X.A (compEnvC sc cl (s2.heap.objs.size+1) X.env) λe s'=>R (.error e) s') s5:=by
    refine wpAny_bind (thn h5 λ_ s6 l=>?_);obtain⟨z,H6,I6,r6,y6,P,be⟩:=l;have bf:=I6.pinned (Y be) (T.obj _ _ P);have q6:=step z H6 y6;refine wpAny_assign_Name (?_:wpAny _ _ (storeName (compEnvC sc cl (s2.heap.objs.size+1) X.env) x u) _ _ s6);rw[<-B];refine vb (i:=0) bf (by rw[eN];exact a7) (by rw[eN];rfl) (.inl (by rw[B];exact lookup_relabel_local hx)) r6 (λs7 I7=>?_) (.inr (by rw[B];exact lookup_relabel_local hx));have t7:=(S ▸ a5 cl (s2.heap.objs.size+1) s2 H2 fp (hc _ _ _ _ _ _ _ a s):PIfs X' ifs tt) _ s7 _ H6 _ I7 q6;rw[eP,eW,eA] at t7;refine wpAny_mono t7 (λb s8 l=>?_) (λe s' z=>by rw[ar] at z;exact z.elim);obtain⟨H8,I8,q8⟩:=l;have Z:∀ {s':Shared} {H':Hp} {h:St},Inv X' ([(s2.heap.objs.size,lobj vs)]++re fp s6.heap) h H' s'->F (i+1) s'.heap/\∀b∈fp,H' b=none:=λ{s' H' h} J'=>by
     refine⟨T.keep _ _ _ P λb I o e=>(J'.pin (b,o) (bn _ (bn _ (vd I e)))).1,λb I=>?_⟩;obtain⟨o,e,d⟩:=T.obj _ _ P b I;exact(J'.pin (b,o) (bn _ (bn _ (vd I e)))).2.1
    cases b with
    |false =>
      rw[if_neg bu] at q8 ⊢;obtain⟨f,hm,w8⟩:=q8;obtain⟨k1,k2⟩:=Z I8;exact⟨f,hm,i+1,some z,H8,ys,vs,I8.unpinned,hv4,k1,k2,w8⟩
    |true =>
      rw[if_pos rfl] at q8 ⊢;have t8:=(S ▸ a6 cl (s2.heap.objs.size+1) s2 H2 fp (hc _ _ _ _ _ _ _ a s):PE X' elt te) _ s8 _ H8 _ I8 q8;rw[eP,eW,eA] at t8;refine wpAny_mono t8 (λv s9 l=>?_) (λe s' z=>by rw[ar] at z;exact z.elim);obtain⟨y,H9,I9,r9,bp,f,hm,w9⟩:=l;have pD:=I9.pin (s2.heap.objs.size,lobj vs) (bn _ (db _ au));obtain⟨k1,k2⟩:=Z I9;have br:=hv4.length;refine append_at (D:=s2.heap.objs.size) (its:=vs.toArray) (n:=vs.length) pD.1 (λh' sb hD=>?_) (by rw[a0];lia);have bk:Inv X' [] (some z::ix.map (λj=>σ.getD j none)) H9 s9:=I9.pins_of λp k=>nomatch k;have cne:∀y c,X'.env.cells.lookup y=some c->c≠s2.heap.objs.size:=λy c e=>by
       rw[B] at e;obtain⟨v',q⟩:=a.cell y c (h1 y c e);exact bz q.lt
      have bl:Inv X' [] (some z::ix.map (λj=>σ.getD j none)) H9 { s9 with heap:=h' }:=bk.turned (t':=s9.toks) (it:=s2.heap.objs.size) (λb o I e=>(sb.2 b I).trans e) pD.2.1 (by rw[B];exact bz (dz _)) (.inr (by rw[eS];exact bg _)) cne (λp k=>by rw[ap] at k;exact nomatch k);have bm:Inv X' [(s2.heap.objs.size,lobj (vs++[v]))] (some z::ix.map (λj=>σ.getD j none)) H9 { s9 with heap:=h' }:=bl.pins_of λp k=>by
       rw[de.mp k];exact⟨hD.trans (congrArg some (znd vs v)),pD.2.1,by rw[B];exact bz (dz _),by rw[ax];exact a1,λv' z'=>by cases z'⟩
      exact⟨f,hm,i+1,some z,H9,ys++[y],vs++[v],bm,hv4.snoc r9,T.keep _ _ _ k1 (λb I o e=>(sb.2 b (bz (O b I))).trans e),k2,w9⟩
   exact bd
 exact codeAny_compStart_list (loop _ rfl) (T.self X.A 0 _ _ _ ao (loop _ rfl))
def Heap.SameBut.rf{h:Heap}(e:∃o,h.get? a=some o):Heap.SameBut a h h:=by
 first |exact⟨rfl,λ_ _=>rfl⟩ |exact⟨e,λ_ _=>rfl⟩
structure xz (X:Cx) (x:Str) (N':bt) (ix:b5) (sc:Scope):Prop where
 nm:N'=ix.map λi=>X.N.getD i ("" : Str)
 nd:(x::N').Nodup
 kind:sc.kind=.function
 hx:sc.names.lookup x=some .local
 cell:∀y∈sc.names,y.2≠.cell
 names:∀y∈sc.names,y.2=.local->sc.names.lookup y.1=some .local
 free:∀y∈sc.names,y.2=.free->X.env.kindOf y.1=some .cell\/X.env.kindOf y.1=some .free
 fv:∀y∈N',sc.names.lookup y=some .free
variable{wi:TI}
def znf(c:xz X x N' ix sc)(m:∀cl C s₂ H₂ fp pins σ,Inv X pins σ H₂ s₂->(∀b∈fp,FpOk X pins H₂ b)->Cm (iw X x N' sc cl C s₂ H₂ fp))(hi:PIC Cm X (.Name x px) iter wi)(U:∀cl C s₂ H₂ fp,Cm (iw X x N' sc cl C s₂ H₂ fp)->PIfs (iw X x N' sc cl C s₂ H₂ fp) ifs tt)(V:∀cl C s₂ H₂ fp,Cm (iw X x N' sc cl C s₂ H₂ fp)->PE (iw X x N' sc cl C s₂ H₂ fp) elt te)(n:∀v,foldedSetIterable iter X.env v=pure v:=by intro _;rfl) :
  PE X (.ListComp elt [⟨.Name x px,iter,ifs,0⟩] sc pos) (o6 wi ix tt te):=by
 intro pins s σ H Q I h;obtain⟨cl,Y,h1,p⟩:=zhs (sc:=sc) (env:=X.env) (λy Z q=>I.ok.has y.1 (c.free y Z q));rw[eval_ListComp];refine wpAny_comprehension_free (use:=none) rfl n Y c.kind c.names (thn (hi pins s σ H _ I h) λv K r=>thn r λt s2 h2=>?_);obtain⟨it,fp,M,J,H2,rfl,k,T,L,l,W,⟨N,u⟩,turn⟩:=h2;refine wpAny_newObj_type (wpAny_newFunctionEnv c.cell (by intro y Z;simp at Z) (λh₁ D z=>?_) c.kind);dsimp only at D z ⊢;have R:(s2.heap.push { cls:=.type "list",dict:=none,data:=.seq ([]:b0).toArray }).objs.size=s2.heap.objs.size+1:=Heap.size_push ..;rw[R] at D z ⊢;have a:∀b o,s2.heap.get? b=some o->h₁.get? b=some o:=λb o e=>z.extBut b o (bz (gc (bj e))) (bc _ (bc _ e));have S:h₁.get? s2.heap.objs.size=some (lobj []):=z.extBut _ _ (bz (dz _)) (bc _ (cb _ rfl));have d:∀b∈fp,∃o,s2.heap.get? b=some o:=λb w=>by obtain⟨o,e,_⟩:=T.obj _ _ L b w;exact⟨o,e⟩
 refine zi1 m U V c.nm c.nd c.kind c.hx c.cell c.names c.free c.fv h1 p k T L l u turn a D S λO P ys vs A f g B E=>?_;obtain⟨F,i,_⟩:=f.loc;refine⟨F,i,λh' G=>?_⟩;have j:=(f.pin (s2.heap.objs.size,lobj vs) (bn _ au)).2.1;exact⟨.ref s2.heap.objs.size,_,zkv k l d f g B G,rfl,E _ j⟩
variable{i:Nat}
def zng{V spos:Pos}(c:xz X x N' ix sc)(hc:∀cl C s₂ H₂ fp pins σ,Inv X pins σ H₂ s₂->(∀b∈fp,FpOk X pins H₂ b)->Cm (iw X x N' sc cl C s₂ H₂ fp))(k:X.N.Nodup)(l:X.N[i]?=some y)(n:Loc X.env.scope y)(hi:PIC Cm X (.Name x px) iter wi)(q:∀cl C s₂ H₂ fp,Cm (iw X x N' sc cl C s₂ H₂ fp)->PIfs (iw X x N' sc cl C s₂ H₂ fp) ifs tt)(r:∀cl C s₂ H₂ fp,Cm (iw X x N' sc cl C s₂ H₂ fp)->PE (iw X x N' sc cl C s₂ H₂ fp) elt te)(t:swapsWith (.ListComp elt [⟨.Name x px,iter,ifs,0⟩] sc pos) (some (.Name y V)) spos.line X.env=pure true)(u:X.fn y=true\/X.env.scope.names.lookup y=some .local:=by first |exact .inl rfl |exact .inr rfl |assumption)(hs:∀v,foldedSetIterable iter X.env v=pure v:=by intro _;rfl) :
  PS X (.Assign [.Name y V] (.ListComp elt [⟨.Name x px,iter,ifs,0⟩] sc pos) spos) (tAsg (o6 wi ix tt te) (kq i)):=by
 intro pins s σ H Dn I h;have h:o6 wi ix tt te σ H λv H1=>Dn.nx (σ.set i (some v)) H1:=h;obtain⟨cl,w,h1,h3⟩:=zhs (sc:=sc) (env:=X.env) (λy B u=>I.ok.has y.1 (c.free y B u));rw[exec_Assign_Name_used _ _ _ _ t];refine wpAny_bind (wpAny_standAt (wpAny_bind ?_));show wpAny _ X.A (do let _ <-comprehension (.ListComp elt [⟨.Name x px,iter,ifs,0⟩] sc pos) sc X.env _ (newList []) false (eval iter X.env) (some (assign (.Name y V) X.env))) _ _ s;refine wpAny_bind (wpAny_mono (wpAny_comprehension_free (use:=some (assign (.Name y V) X.env)) (Q:=λ_ s'=>SP X pins Dn .next s') rfl hs w c.kind c.names
  (thn (hi pins s σ H _ I h) λv s1 g1=>thn g1 λaa s2 h2=>?_)) (λ_ s' hq=>wpAny_pure (wpAny_pure hq)) λ_ _ e=>e)
 obtain⟨it,fp,tn,J,H2,rfl,U,T,Y,f2,W,⟨m0,w0⟩,turn⟩:=h2;refine wpAny_newObj_type (wpAny_newFunctionEnv c.cell (by intro y B;simp at B) (λh₁ L D=>?_) c.kind);dsimp only at L D ⊢;have Z:(s2.heap.push { cls:=.type "list",dict:=none,data:=.seq ([]:b0).toArray }).objs.size=s2.heap.objs.size+1:=Heap.size_push ..;rw[Z] at L D ⊢;have E:∀b o,s2.heap.get? b=some o->h₁.get? b=some o:=λb o e=>D.extBut b o (bz (gc (bj e))) (bc _ (bc _ e));have d:h₁.get? s2.heap.objs.size=some (lobj []):=D.extBut _ _ (bz (dz _)) (bc _ (cb _ rfl));have F:∀b∈fp,∃o,s2.heap.get? b=some o:=λb G=>by obtain⟨o,e,_⟩:=T.obj _ _ Y b G;exact⟨o,e⟩
 refine zi1 (Q:=λv H1=>Dn.nx (σ.set i (some v)) H1) hc q r c.nm c.nd c.kind c.hx c.cell c.names c.free c.fv h1 h3 U T Y f2 w0 turn E L d λf H4 ys vs ag g K hl qn=>?_;obtain⟨m5,R,_⟩:=g.loc;have R:f.heap.Ns (s2.heap.objs.size+1) m5:=R;have M:=(g.pin (s2.heap.objs.size,lobj vs) (bn _ au)).2.1;have oC:∃o,f.heap.get? (s2.heap.objs.size+1)=some o:=let ⟨o,_,_,e,_⟩:=R;⟨o,e⟩;have I6:Inv X pins σ (upd H4 s2.heap.objs.size (.lst ys)) { f with heap:=f.heap }:=zkv U f2 F g K hl (Heap.SameBut.rf oC);show wpAny _ X.A (assign (.Name y V) X.env (.ref s2.heap.objs.size)) _ _ f;have HC:upd H4 s2.heap.objs.size (.lst ys) (s2.heap.objs.size+1)=none:=by rw[ic (ky (dz _))];exact g.free
 have S:∀a o,s2.heap.get? a=some o->s2.heap.objs.size+1≠a:=λa o e=>ky (gc (bj e));have oL:∃o,s2.heap.get? X.env.locals=some o:=let ⟨m,hn,_⟩:=U.loc;let ⟨o,_,_,e,_⟩:=hn;⟨o,e⟩;have cL:s2.heap.objs.size+1≠X.env.locals:=let ⟨o,e⟩:=oL;S _ o e;have cC:∀z j,X.env.cells.lookup z=some j->j≠s2.heap.objs.size+1:=λz j e=>by
  obtain⟨v',o,e',_⟩:=U.cell z j e;exact Ne.symm (S _ o e')
 refine wpAny_assign_Name (zio (v:=.ref s2.heap.objs.size) I6 k l n rfl (λs7 I7 zq=>?_) u);obtain⟨a,sb,ha⟩:=zq;have O:s2.heap.objs.size+1≠a:=by
  rcases ha with rfl |ha
  ·exact cL
  ·exact Ne.symm (cC _ _ ha)
 refine⟨m5,R.sameBut sb O,λh' P=>?_⟩;refine⟨_,_,I7.turned (t':=s7.toks) (it:=s2.heap.objs.size+1) (λb o G e=>(P.2 b G).trans e) HC cL (.inr ?_) cC (λp hp=>?_),qn _ M⟩
 ·exact Nat.le_succ_of_le U.sz
 ·exact Ne.symm (S _ _ (U.pin p hp).1)
def zsa(X:Cx)(xs N':bt)(sc:Scope)(cl:List (Str×Addr))(C:Addr)(s₂:Shared)(H₂:Hp)(fp:b4):Cx :=
 { X with N:=xs++N',s₀:=s₂,H₀:=H₂,env:=compEnvC sc cl C X.env,outer:=X.stack,stack:=X.stack,ex:=fp,fn:=λ_=>false,pn:=[],xe:=λ_ _=>False }
structure zxe (X:Cx) (xs N':bt) (ix:b5) (sc:Scope):Prop where
 nm:N'=ix.map λi=>X.N.getD i ("" : Str)
 nd:(xs++N').Nodup
 kind:sc.kind=.function
 hx:∀y∈xs,sc.names.lookup y=some .local
 cell:∀y∈sc.names,y.2≠.cell
 names:∀y∈sc.names,y.2=.local->sc.names.lookup y.1=some .local
 free:∀y∈sc.names,y.2=.free->X.env.kindOf y.1=some .cell\/X.env.kindOf y.1=some .free
 fv:∀y∈N',sc.names.lookup y=some .free
inductive D where
 |non |bl (b:Bool) |int (i:Int) |str (s:Str) |tup (ds:List D) |lst (ds:List D)
 |dct (ks:cc) (ds:List D)
 |exc (a:Addr)
abbrev ei:=List D
abbrev el:=Option D
inductive Im where
 |t (vs:ed) |d (kvs:List (Key×V))
@[reducible] noncomputable def Im.out:Im->HO | .t vs=>.tup vs | .d kvs=>.dK kvs
def dkv(ks:cc)(vs:ed):List (Key×V):=ks.zipWith (λk v=>(Sum.inl k,v)) vs
def KL(K:dc)(a:Addr)(xs:ed):Prop :=
 ∃(o:Obj) (its:eb) (n:Nat),K.lookup a=some o/\o.cls=.type "list"/\o.dict=none/\o.data=.seq its n/\its.size<=sizeLine/\Vals xs its.toList
mutual
inductive Rep (K:dc) (H:Hp) (O:Addr->Prop):D->V->Prop
 |non:Rep K H O .non .non
 |bl (b:Bool):Rep K H O (.bl b) (.bl b)
 |int (i:Int):Rep K H O (.int i) (.int i)
 |str (s:Str):Rep K H O (.str s) (.str s)
 |tup {a:Addr} {vs:ed} {ds:ei}:H a=some (.tup vs)->Reps K H O ds vs->Rep K H O (.tup ds) (.ref a)
 |lst {a:Addr} {vs:ed} {ds:ei}:O a->Rd H a (.lst vs)->Reps K H O ds vs->Rep K H O (.lst ds) (.ref a)
 |klst {a:Addr} {vs:ed} {ds:ei}:KL K a vs->Reps K H O ds vs->Rep K H O (.lst ds) (.ref a)
 |dct {a:Addr} {ks:cc} {vs:ed} {ds:ei}:H a=some (.dK (dkv ks vs))->Reps K H O ds vs->Rep K H O (.dct ks ds) (.ref a)
 |exc (a:Addr):Rep K H O (.exc a) (.ref a)
inductive Reps (K:dc) (H:Hp) (O:Addr->Prop):ei->ed->Prop
 |nil:Reps K H O [] []
 |cons {d:D} {v:V} {ds:ei} {vs:ed}:Rep K H O d v->Reps K H O ds vs->Reps K H O (d::ds) (v::vs)
end
variable{vs:ed}{ds:ei}{O:Addr->Prop}
def Reps.ind{P:ei->ed->Prop}(n:P [] [])(c:∀ {d v ds vs},Rep K H O d v->Reps K H O ds vs->P ds vs->P (d::ds) (v::vs)):Reps K H O ds vs->P ds vs :=
 Reps.rec (motive_1:=λ_ _ _=>True) (motive_2:=λds vs _=>P ds vs) ⟨⟩ (λ_=>⟨⟩) (λ_=>⟨⟩) (λ_=>⟨⟩) (λ_ _ _=>⟨⟩) (λ_ _ _ _=>⟨⟩) (λ_ _ _=>⟨⟩) (λ_ _ _=>⟨⟩) (λ_=>⟨⟩) n λr t _=>c r t
variable{v:V}{O':Addr->Prop}
def Rep.mono(z:∀a (u:Im),H a=some u.out->H' a=some u.out)(D:∀a vs,O a->Rd H a (.lst vs)->O' a/\Rd H' a (.lst vs)):Rep K H O d v->Rep K H' O' d v :=
 Rep.rec (motive_1:=λd v _=>Rep K H' O' d v) (motive_2:=λds vs _=>Reps K H' O' ds vs) .non .bl .int .str (λh _=>.tup (z _ (.t _) h)) (λo h _=>.lst (D _ _ o h).1 (D _ _ o h).2) (λh _=>.klst h) (λh _=>.dct (z _ (.d _) h)) .exc .nil λ_ _=>.cons
def Reps.mono(z:∀a (u:Im),H a=some u.out->H' a=some u.out)(I:∀a vs,O a->Rd H a (.lst vs)->O' a/\Rd H' a (.lst vs)){ds:ei}{vs:ed}:Reps K H O ds vs->Reps K H' O' ds vs:=Reps.ind .nil λr _=>.cons (r.mono z I)
def Reps.length{ds:ei}{vs:ed}:Reps K H O ds vs->ds.length=vs.length:=Reps.ind (P:=λds vs=>ds.length=vs.length) rfl λ_ _=>congrArg Nat.succ
def Reps.get(h:Reps K H O ds vs):ds[i]?=some d->∃v,vs[i]?=some v/\Rep K H O d v :=
 Reps.ind (P:=λds vs=>∀ {i:Nat},ds[i]?=some d->∃v,vs[i]?=some v/\Rep K H O d v) nofun (λr _ q i e=>match i with
  |0=>⟨_,rfl,az e ▸ r⟩ |i+1=>q (i:=i) e) h
variable{es:ci}
def Reps.append{es:ei}{z:ed}(h:Reps K H O ds vs)(s:Reps K H O es z):Reps K H O (ds++es) (vs++z):=Reps.ind (P:=λds vs=>Reps K H O (ds++es) (vs++z)) s (λr _=>.cons r) h
def Reps.take{ds:ei}{vs:ed}(n:Nat)(h:Reps K H O ds vs):Reps K H O (ds.take n) (vs.take n) :=
 Reps.ind (P:=λds vs=>∀n,Reps K H O (ds.take n) (vs.take n)) (λn=>by cases n <;> exact .nil) (λr _ q n=>by cases n;exact .nil;exact .cons r (q _)) h n
def Reps.drop{ds:ei}{vs:ed}(n:Nat)(h:Reps K H O ds vs):Reps K H O (ds.drop n) (vs.drop n) :=
 Reps.ind (P:=λds vs=>∀n,Reps K H O (ds.drop n) (vs.drop n)) (λn=>by cases n <;> exact .nil) (λr t q n=>by cases n;exact .cons r t;exact q _) h n
def Reps.set{d:D}{v:V}(r:Rep K H O d v){ds:ei}{vs:ed}(i:Nat)(h:Reps K H O ds vs):Reps K H O (ds.set i d) (vs.set i v) :=
 Reps.ind (P:=λds vs=>∀i,Reps K H O (ds.set i d) (vs.set i v)) (λ_=>.nil) (λp t q n=>by cases n;exact .cons r t;exact .cons p (q _)) h i
def Reps.eraseIdx{ds:ei}{vs:ed}(i:Nat)(h:Reps K H O ds vs):Reps K H O (ds.eraseIdx i) (vs.eraseIdx i) :=
 Reps.ind (P:=λds vs=>∀i,Reps K H O (ds.eraseIdx i) (vs.eraseIdx i)) (λ_=>.nil) (λp t q n=>by cases n;exact t;exact .cons p (q _)) h i
def Reps.dropLast(h:Reps K H O ds vs):Reps K H O ds.dropLast vs.dropLast:=by
 rw[List.dropLast_eq_take,List.dropLast_eq_take,h.length];exact h.take _
def Rep.int_{i:Int}(h:Rep K H O (.int i) v):v=.int i:=by cases h;rfl
def Rep.bl_{i:Bool}(h:Rep K H O (.bl i) v):v=.bl i:=by cases h;rfl
def Rep.str_{i:Str}(h:Rep K H O (.str i) v):v=.str i:=by cases h;rfl
def Rep.tup_(h:Rep K H O (.tup ds) v):∃a vs,v=.ref a/\H a=some (.tup vs)/\Reps K H O ds vs:=by cases h with |tup a b=>exact⟨_,_,rfl,a,b⟩
def LsOk(K:dc)(H:Hp)(O:Addr->Prop)(a:Addr)(vs:ed):Prop:=(O a/\Rd H a (.lst vs))\/KL K a vs
def LsOk.sq(h:LsOk K H O a vs):SqL K H a vs:=h.elim (λz=>.inl z.2) .inr
def Rep.lst_(h:Rep K H O (.lst ds) v):∃a vs,v=.ref a/\LsOk K H O a vs/\Reps K H O ds vs:=by
 cases h with
 |lst o a b=>exact⟨_,_,rfl,.inl ⟨o,a⟩,b⟩ |klst a b=>exact⟨_,_,rfl,.inr a,b⟩
inductive Mo where
 |l (vs:ed) |i (C dx:Addr) (fs:List (Str×V))
@[reducible] noncomputable def Mo.out:Mo->HO | .l vs=>.lst vs | .i C dx fs=>.ins C dx fs
inductive Pt where
 |d (d:D) |o (ds:ei)
abbrev em:=List Pt
inductive AK where
 |ls |ins (b:Bool) (c:Str) (fs:bt)
inductive Sl where
 |sh (d:D) |ow (ds:ei) |o2 (dss:List ei) |ag (k:AK) (r:Option Nat) (ps:em) |al (r j:Nat) |ro (k:AK) (ps:em)
abbrev ep:=Option Sl
structure Gd where
 g:Addr->Prop
 r:Nat->b4
instance:CoeFun Gd (λ_=>Addr->Prop):=⟨Gd.g⟩
abbrev gd(g:Addr->Prop):Gd:=⟨g,λ_=>[]⟩
abbrev DE0:=List ep
def Ow(G:Gd)(W:Addr->Prop):Addr->Prop:=λa=>G a/\¬W a
def Inn(K:dc)(G:Gd)(W:Addr->Prop)(H:Hp)(dss:List ei)(ls:b4):Prop :=
 ls.length=dss.length/\∀(j:Nat) (ds:ei) (a:Addr),dss[j]?=some ds->ls[j]?=some a->W a/\∃vs,H a=some (.lst vs)/\Reps K H (Ow G W) ds vs
inductive PtsOk (K:dc) (G:Gd) (W:Addr->Prop) (H:Hp):em->b4->ed->Prop
 |nil:PtsOk K G W H [] [] []
 |d {d:D} {v:V} {ps:em} {as:b4} {us:ed}:Rep K H (Ow G W) d v->PtsOk K G W H ps as us->PtsOk K G W H (.d d::ps) as (v::us)
 |o {ds:ei} {a:Addr} {vs:ed} {ps:em} {as:b4} {us:ed}:W a->H a=some (.lst vs)->Reps K H (Ow G W) ds vs->PtsOk K G W H ps as us->PtsOk K G W H (.o ds::ps) (a::as) (.ref a::us)
inductive PtsRo (K:dc) (G:Gd) (W:Addr->Prop) (H:Hp):em->ed->Prop
 |nil:PtsRo K G W H [] []
 |d {d:D} {v:V} {ps:em} {us:ed}:Rep K H (Ow G W) d v->PtsRo K G W H ps us->PtsRo K G W H (.d d::ps) (v::us)
 |o {ds:ei} {a:Addr} {vs:ed} {ps:em} {us:ed}:¬W a->H a=some (.lst vs)->Reps K H (Ow G W) ds vs->PtsRo K G W H ps us->PtsRo K G W H (.o ds::ps) (.ref a::us)
def AkOk(K:dc)(H:Hp):AK->Addr->ed->Prop
 | .ls,p,us=>H p=some (.lst us) | .ins _ c fs,p,us=>∃C dx,PySem.W.nsIn K mainGlobals c=some (some (.ref C))/\H p=some (.ins C dx (fs.zip us))/\fs.length=us.length
def Lab:AK->b4->Addr->b4->Prop
 | .ins true _ _,l,p,_=>l=[p]
 |_,l,p,as=>l=p::as
inductive OwOk (K:dc) (G:Gd) (W:Addr->Prop) (H:Hp) (ds:ei) (v:V):Prop
 |mk (l:Addr) (vs:ed) (e:v=.ref l) (w:W l) (h:H l=some (.lst vs)) (r:Reps K H (Ow G W) ds vs):OwOk K G W H ds v
inductive O2Ok (K:dc) (G:Gd) (W:Addr->Prop) (H:Hp) (dss:List ei) (v:V):Prop
 |mk (l:Addr) (ls:b4) (e:v=.ref l) (w:W l) (h:H l=some (.lst (ls.map V.ref))) (n:(l::ls).Nodup) (r:Inn K G W H dss ls):O2Ok K G W H dss v
inductive AgOk (K:dc) (G:Gd) (W:Addr->Prop) (H:Hp) (k:AK) (r:Option Nat) (ps:em) (v:V):Prop
 |mk (p:Addr) (as:b4) (us:ed) (e:v=.ref p) (w:W p) (n:(p::as).Nodup) (l:∀n,r=some n->Lab k (G.r n) p as) (h:AkOk K H k p us) (q:PtsOk K G W H ps as us):AgOk K G W H k r ps v
def SlOk(K:dc)(G:Gd)(W:Addr->Prop)(H:Hp):Sl->V->Prop
 | .sh d,v=>Rep K H (Ow G W) d v | .ow ds,v=>OwOk K G W H ds v | .o2 dss,v=>O2Ok K G W H dss v | .ag k r ps,v=>AgOk K G W H k r ps v | .al r j,v=>∃p as a,G.r r=p::as/\as[j]?=some a/\v=.ref a | .ro k ps,v=>∃(p:Addr) (us:ed),v=.ref p/\¬W p/\AkOk K H k p us/\PtsRo K G W H ps us
def zu7:em->ed->Addr->Prop:=λps us a=>∃(j:Nat) (ds:ei),ps[j]?=some (.o ds)/\us[j]?=some (.ref a)
def AkH(H:Hp):AK->Addr->ed->Prop
 | .ls,p,us=>H p=some (.lst us) | .ins _ _ fs,p,us=>fs.length=us.length/\∃C dx,H p=some (.ins C dx (fs.zip us))
def Owns(H:Hp):Sl->V->Addr->Prop
 | .sh _,_,_=>False | .ow _,v,a=>v=.ref a | .o2 _,v,a=>v=.ref a\/∃(l:Addr) (ls:b4),v=.ref l/\H l=some (.lst (ls.map V.ref))/\a∈ls
 | .ag k _ ps,v,a=>v=.ref a\/∃(p:Addr) (us:ed),v=.ref p/\AkH H k p us/\zu7 ps us a | .al _ _,_,_=>False | .ro _ _,_,_=>False
structure Ok (K:dc) (G:Gd) (H0:Hp) (W:Addr->Prop) (env:DE0) (σ:St) (H:Hp):Prop where
 stay:Same H0 H
 good:∀a,H0 a=none->G a
 wl:∀l,W l->H0 l=none/\∃m:Mo,H l=some m.out
 slot:∀(i:Nat) (s:Sl),env[i]?=some (some s)->∃v,σ[i]?=some (some v)/\SlOk K G W H s v
 uniq:∀(i j:Nat) (s s':Sl) (v v':V) (a:Addr),env[i]?=some (some s)->env[j]?=some (some s')->σ[i]?=some (some v)->σ[j]?=some (some v')->Owns H s v a->Owns H s' v' a->i=j
 len:env.length=σ.length
variable{ls:b4}
def sj{z:b4}(h:ls.map V.ref=z.map V.ref):ls=z:=by
 induction ls generalizing z with
 |nil=>cases z with |nil=>rfl |cons b r=>cases h
 |cons a t ih=>cases z with |nil=>cases h |cons b r=>simp[List.cons.injEq,V.ref.injEq] at h;rw[h.1,ih h.2]
variable{G:Gd}{ps:em}{as:b4}{us:ed}
def PtsOk.own(h:PtsOk K G W H ps as us)(ha:a∈as):W a/\∃vs,H a=some (.lst vs):=by
 induction h with
 |nil=>cases ha
 |d _ _ ih=>exact ih ha |o hW hl _ _ ih =>
   rcases b8.mp ha with rfl |ha
   ·exact⟨hW,_,hl⟩
   ·exact ih ha
def PtsOk.parts_iff(h:PtsOk K G W H ps as us):zu7 ps us a↔a∈as:=by
 induction h with
 |nil=>exact⟨λ⟨j,ds,e,_⟩=>by simp at e,λz=>by cases z⟩
 |d _ _ ih =>
   rw[<-ih];constructor
   ·rintro⟨j,ds,I,D⟩
    cases j with
    |zero=>simp at I |succ j=>exact⟨j,ds,by simpa using I,by simpa using D⟩
   ·rintro⟨j,ds,I,D⟩
    exact⟨j+1,ds,by simpa using I,by simpa using D⟩
 |o _ _ _ _ ih =>
   rw[b8,<-ih];constructor
   ·rintro⟨j,ds,I,D⟩
    cases j with
    |zero=>simp at D;exact .inl D.symm |succ j=>exact .inr ⟨j,ds,by simpa using I,by simpa using D⟩
   ·rintro(rfl | ⟨j,ds,I,D⟩)
    ·exact⟨0,_,rfl,rfl⟩
    ·exact⟨j+1,ds,by simpa using I,by simpa using D⟩
variable{G':Gd}{W':Addr->Prop}
def PtsOk.step(h:PtsOk K G W H ps as us)(k:∀a vs,a∈as->H a=some (.lst vs)->W' a/\H' a=some (.lst vs))(r:∀d v,Rep K H (Ow G W) d v->Rep K H' (Ow G' W') d v)(z:∀ds vs,Reps K H (Ow G W) ds vs->Reps K H' (Ow G' W') ds vs):PtsOk K G' W' H' ps as us:=by
 induction h with
 |nil=>exact .nil |d q _ ih=>exact .d (r _ _ q) (ih k) |o hW hl q _ ih =>
   obtain⟨D,I⟩:=k _ _ au hl;exact .o D I (z _ _ q) (ih λa vs J=>k a vs (ak _ J))
def PtsRo.step(h:PtsRo K G W H ps us)(k:∀a vs,¬W a->H a=some (.lst vs)->¬W' a/\H' a=some (.lst vs))(r:∀d v,Rep K H (Ow G W) d v->Rep K H' (Ow G' W') d v)(z:∀ds vs,Reps K H (Ow G W) ds vs->Reps K H' (Ow G' W') ds vs):PtsRo K G' W' H' ps us:=by
 induction h with
 |nil=>exact .nil |d q _ ih=>exact .d (r _ _ q) ih |o hW hl q _ ih=>obtain⟨D,I⟩:=k _ _ hW hl;exact .o D I (z _ _ q) ih
variable{k:AK}{p:Addr}
theorem zqt{z:ed}(h:AkOk K H k p us)(h':AkH H k p z):z=us:=by
 cases k with
 |ls=>have h:H p=_:=h;have h':H p=_:=h';rw[h] at h';cases h';rfl
 |ins b c fs =>
   obtain⟨C,dx,_,D,J⟩:=h;obtain⟨L,R,I,e⟩:=h';rw[D] at e;have e:fs.zip us=fs.zip z:=by injection e with e;injection e
   have:=congrArg (List.map Prod.snd) e;rw[lz (by lia),lz (by lia)] at this;exact this.symm
protected def AkOk.o(h:AkOk K H k p us):AkH H k p us:=by
 cases k with
 |ls=>exact h |ins b c fs=>obtain⟨C,dx,_,z,D⟩:=h;exact⟨D,C,dx,z⟩
def AkOk.mo(h:AkOk K H k p us):∃m:Mo,H p=some m.out/\∀H',H' p=some m.out->AkOk K H' k p us:=by
 cases k with
 |ls=>exact⟨.l us,h,λH' e=>e⟩ |ins b c fs=>obtain⟨C,dx,z,D,I⟩:=h;exact⟨.i C dx (fs.zip us),D,λH' e=>⟨C,dx,z,e,I⟩⟩
variable{s:Sl}
def SlOk.owns(h:SlOk K G W H s v)(o:Owns H s v a):W a:=by
 cases s with
 |sh d=>exact o.elim |ow ds=>obtain⟨l,vs,e,z,_⟩:=h;rw[show v=.ref a from o] at e;cases e;exact z
 |o2 dss =>
   obtain⟨l,ls,e,z,L,R,hi⟩:=h;rcases o with o | ⟨l',ls',e',hl',ha⟩
   ·rw[o] at e;cases e;exact z
   ·rw[e] at e';cases e'
    rw[L] at hl';have:=sj (by simpa using hl');subst this;obtain⟨j,I,S⟩:=List.getElem_of_mem ha;have D:j<dss.length:=by rw[<-hi.1];exact I
    exact(hi.2 j dss[j] a (by simp[D]) (by simp[I,S])).1
 |ag k r ps =>
   obtain⟨p,as,us,e,z,R,V,U,J⟩:=h;rcases o with o | ⟨p',us',e',hk',ha⟩
   ·rw[o] at e;cases e;exact z
   ·rw[e] at e';cases e'
    rw[zqt U hk'] at ha;exact(J.own (J.parts_iff.mp ha)).1
 |al _ _=>exact o.elim |ro _ _=>exact o.elim
def SlOk.back(h:SlOk K G W H s v)(k:∀l,v=.ref l->W l->∀m:Mo,H l=some m.out->H' l=some m.out)(o:Owns H' s v a):Owns H s v a:=by
 cases s with
 |sh d=>exact o.elim |ow ds=>exact o |o2 dss =>
   obtain⟨l,ls,e,z,D,J,hi⟩:=h;rcases o with o | ⟨l',ls',e',hl',ha⟩
   ·exact .inl o
   ·rw[e] at e';cases e'
    rw[k l e z (.l _) D] at hl';have:=sj (by simpa using hl');subst this;exact .inr ⟨l,ls,e,D,ha⟩
 |ag q r ps =>
   obtain⟨p,as,us,e,z,J,S,I,U⟩:=h;rcases o with o | ⟨p',us',e',hk',ha⟩
   ·exact .inl o
   ·rw[e] at e';cases e'
    obtain⟨m,L,R⟩:=I.mo;rw[zqt (R H' (k p e z m L)) hk'] at ha;exact .inr ⟨p,us,e,I.o,ha⟩
 |al _ _=>exact o.elim |ro _ _=>exact o.elim
structure Step (W:Addr->Prop) (H:Hp) (W':Addr->Prop) (H':Hp):Prop where
 keep:∀b o,H b=some o->¬W b->H' b=some o
 ws:∀l,W' l->W l\/H l=none
def Step.refl:Step W H W H:=⟨λ_ _ e _=>e,λ_ h=>.inl h⟩
def Step.trans{W1 D:Addr->Prop}(a:Step W H W1 H1)(b:Step W1 H1 D H2):Step W H D H2 where
 keep:=λc o e n=>b.keep c o (a.keep c o e n) λz=>(a.ws c z).elim n λq=>by rw[q] at e;cases e
 ws:=λl h=>by
  rcases b.ws l h with z |z
  ·exact a.ws l z
  ·by_cases n:W l
   ·exact .inl n
   ·cases e:H l with
    |none=>exact .inr rfl |some o=>rw[a.keep l o e n] at z;cases z
def Step.same(h:Same H H'):Step W H W H':=⟨λb o e _=>h b o e,λ_ h=>.inl h⟩
variable{H0:Hp}
def Ok.wkeep(ok:Ok K G H0 W env σ H)(st:Step W H W' H'):∀b o,H b=some o->(∀m:Mo,o≠m.out)->H' b=some o:=λb o e n =>
 st.keep b o e λz=>by obtain⟨_,m,q⟩:=ok.wl b z;rw[e] at q;exact n m (az q)
def Rd.keep{u:HO}(h:Rd H a u)(k:∀o,H a=some o->H' a=some o):Rd H' a u:=by
 rcases h with h | ⟨o,h⟩
 ·exact .inl (k _ h)
 ·exact .inr ⟨o,k _ h⟩
def Ok.tstep(ok:Ok K G H0 W env σ H)(st:Step W H W' H'):∀a vs,H a=some (.tup vs)->H' a=some (.tup vs):=λ_ _ h=>ok.wkeep st _ _ h λm z=>by cases m <;> cases z
def Ok.istep(ok:Ok K G H0 W env σ H)(st:Step W H W' H'):∀a (u:Im),H a=some u.out->H' a=some u.out:=λ_ u h=>ok.wkeep st _ _ h λm z=>by cases u <;> cases m <;> cases z
def Ok.lstep(ok:Ok K G H0 W env σ H)(st:Step W H W' H'):∀a vs,Ow G W a->Rd H a (.lst vs)->Ow G W' a/\Rd H' a (.lst vs):=λa vs o h=>by
 refine⟨⟨o.1,λz=>?_⟩,h.keep λu e=>st.keep a u e o.2⟩;rcases st.ws a z with q |q
 ·exact o.2 q
 ·rcases h with h | ⟨_,h⟩ <;> rw[q] at h <;> cases h
def Ok.lsstep(ok:Ok K G H0 W env σ H)(st:Step W H W' H')(h:LsOk K H (Ow G W) a vs):LsOk K H' (Ow G W') a vs:=h.elim (λz=>.inl (ok.lstep st a vs z.1 z.2)) .inr
def Ok.rep(ok:Ok K G H0 W env σ H)(st:Step W H W' H')(r:Rep K H (Ow G W) d v):Rep K H' (Ow G W') d v:=r.mono (ok.istep st) (ok.lstep st)
def Ok.reps(ok:Ok K G H0 W env σ H)(st:Step W H W' H'){d:ei}{v:ed}(r:Reps K H (Ow G W) d v):Reps K H' (Ow G W') d v:=r.mono (ok.istep st) (ok.lstep st)
def Ok.slstep(ok:Ok K G H0 W env σ H)(st:Step W H W' H')(h:SlOk K G W H s v)(k:∀a (m:Mo),Owns H s v a->H a=some m.out->W' a/\H' a=some m.out):SlOk K G W' H' s v:=by
 cases s with
 |sh d=>exact ok.rep st h |ow ds =>
   obtain⟨l,vs,e,I,L,r⟩:=h;obtain⟨h1,h2⟩:=k l (.l vs) e L;exact⟨l,vs,e,h1,h2,ok.reps st r⟩
 |o2 dss =>
   obtain⟨l,ls,e,I,L,V,hi⟩:=h;obtain⟨h1,h2⟩:=k l (.l _) (.inl e) L;have c:∀a vs,a∈ls->H a=some (.lst vs)->W' a/\H' a=some (.lst vs):=λa vs J D=>k a (.l vs) (.inr ⟨l,ls,e,L,J⟩) D;refine⟨l,ls,e,h1,h2,V,hi.1,λj ds a f D=>?_⟩;obtain⟨_,vs,J,g⟩:=hi.2 j ds a f D;obtain⟨i,t⟩:=c a vs (bq D) J;exact⟨i,vs,t,ok.reps st g⟩
 |ag q r ps =>
   obtain⟨p,as,us,e,I,V,u,R,S⟩:=h;obtain⟨m,U,Y⟩:=R.mo;obtain⟨h1,h2⟩:=k p m (.inl e) U;exact⟨p,as,us,e,h1,V,u,Y H' h2,S.step (λa vs J D=>k a (.l vs) (.inr ⟨p,us,e,R.o,S.parts_iff.mpr J⟩) D) (λ_ _ r=>ok.rep st r) λ_ _ r=>ok.reps st r⟩
 |al _ _=>exact h |ro q ps =>
   obtain⟨p,us,e,I,R,S⟩:=h;have Z:∀a o,¬W a->H a=some o->¬W' a:=λa o n e z=>(st.ws a z).elim n λy=>by rw[y] at e;cases e
   obtain⟨m,U,Y⟩:=R.mo;exact⟨p,us,e,Z p _ I U,Y H' (st.keep p _ U I),S.step (λa vs b D=>⟨Z a _ b D,st.keep a _ D b⟩) (λ_ _ r=>ok.rep st r) λ_ _ r=>ok.reps st r⟩
def Ok.same(ok:Ok K G H0 W env σ H)(s:Same H H'):Ok K G H0 W env σ H':=by
 have st:Step W H W H':=Step.same s;have bk:∀ {i:Nat} {z:Sl} {v:V} {a:Addr},env[i]?=some (some z)->σ[i]?=some (some v)->Owns H' z v a->Owns H z v a:=λ{i z v a} e I o=>by
  obtain⟨Z,D,h⟩:=ok.slot i z e;rw[I] at D;cases D;exact h.back (λl _ _ vs q=>s l _ q) o
 refine⟨ok.stay.trans s,ok.good,λl h=>?_,λi z e=>?_,λi j R s2 S v2 a I D J L U Y=>ok.uniq i j R s2 S v2 a I D J L (bk I J U) (bk D L Y),ok.len⟩
 ·obtain⟨a,vs,b⟩:=ok.wl l h
  exact⟨a,vs,s _ _ b⟩
 ·obtain⟨v,I,h⟩:=ok.slot i z e
  exact⟨v,I,ok.slstep st h λa vs o D=>⟨h.owns o,s _ _ D⟩⟩
def si{o:HO}(h:H a=none):Same H (upd H a o):=λb u e=>by rw[ic (lh e h)];exact e
def addW(W:Addr->Prop)(l:Addr):Addr->Prop:=λa=>W a\/a=l
def Ok.fresh0(ok:Ok K G H0 W env σ H)(s:Same H H')(D:H l=none)(I:H' l=some (.lst vs)) :
  ¬W l/\H0 l=none/\Ok K G H0 (addW W l) env σ H'/\Step W H (addW W l) H':=by
 have L:H0 l=none:=ok.stay.free D;have R:¬W l:=λz=>by obtain⟨_,vs,q⟩:=ok.wl l z;rw[D] at q;cases q
 have st:Step W H (addW W l) H':=⟨λb o e _=>s b o e,λa z=>z.elim .inl λq=>.inr (by rw[q];exact D)⟩;have J:=ok.same s;refine⟨R,L,⟨ok.stay.trans s,ok.good,λa z=>?_,λi S e=>?_,J.uniq,ok.len⟩,st⟩
 ·rcases z with z |rfl
  ·obtain⟨q,us,b⟩:=ok.wl a z
   exact⟨q,us,s _ _ b⟩
  ·exact⟨L,.l vs,I⟩
 ·obtain⟨v,U,h⟩:=ok.slot i S e
  exact⟨v,U,ok.slstep st h λa vs o V=>⟨.inl (h.owns o),s _ _ V⟩⟩
def Ok.fresh(ok:Ok K G H0 W env σ H)(s:Same H H')(D:H l=none)(I:H' l=some (.lst vs))(r:Reps K H' (λa=>(Ow G W a\/H a=none)/\a≠l) ds vs) :
  ¬W l/\H0 l=none/\Ok K G H0 (addW W l) env σ H'/\Reps K H' (Ow G (addW W l)) ds vs/\Step W H (addW W l) H':=by
 have L:H0 l=none:=ok.stay.free D;have R:¬W l:=λz=>by obtain⟨_,vs,q⟩:=ok.wl l z;rw[D] at q;cases q
 have st:Step W H (addW W l) H':=⟨λb o e _=>s b o e,λa z=>z.elim .inl λq=>.inr (by rw[q];exact D)⟩;have S:∀a,W a->H a≠none:=λa z q=>by obtain⟨_,vs,e⟩:=ok.wl a z;rw[q] at e;cases e
 have J:=ok.same s;refine⟨R,L,⟨ok.stay.trans s,ok.good,λa z=>?_,λi U e=>?_,J.uniq,ok.len⟩,r.mono (λ_ _ h=>h) λa us o h=>⟨⟨?_,?_⟩,h⟩,st⟩
 ·rcases z with z |rfl
  ·obtain⟨q,us,b⟩:=ok.wl a z
   exact⟨q,us,s _ _ b⟩
  ·exact⟨L,.l vs,I⟩
 ·obtain⟨v,V,h⟩:=ok.slot i U e
  exact⟨v,V,ok.slstep st h λa vs o Y=>⟨.inl (h.owns o),s _ _ Y⟩⟩
 ·rcases o.1 with q |q
  ·exact q.1
  ·exact ok.good a (ok.stay.free q)
 ·rintro(z |z)
  ·rcases o.1 with q |q
   ·exact q.2 z
   ·exact S a z q
  ·exact o.2 z
def Ok.noOwn(ok:Ok K G H0 W env σ H)(D:¬W l):∀(j:Nat) (s:Sl) (v:V),env[j]?=some (some s)->σ[j]?=some (some v)->¬Owns H s v l:=λj s v e I o=>by
 obtain⟨J,z,h⟩:=ok.slot j s e;rw[I] at z;cases z;exact D (h.owns o)
variable{α:Type}{j:Nat}
def zpc{N:List α}(z:N.Nodup){x:α}(a:N[i]?=some x)(b:N[j]?=some x):i=j:=by
 obtain⟨h1,D⟩:=am.mp a;obtain⟨h2,I⟩:=am.mp b;exact(List.getElem_inj z).mp (D.trans I.symm)
theorem m9{xs:List α}{x y:α}(h:(xs.set i x)[j]?=some y):(i=j/\y=x/\i<xs.length)\/(i≠j/\xs[j]?=some y):=by
 by_cases z:i=j
 ·subst z
  by_cases hi:i<xs.length
  ·rw[e7 hi] at h;cases h;exact .inl ⟨rfl,rfl,hi⟩
  ·rw[cu (by rw[d8];lia)] at h;cases h
 ·rw[d3 z] at h;exact .inr ⟨z,h⟩
def Ok.put(ok:Ok K G H0 W env σ H)(h:SlOk K G W H s v)(U:∀(j:Nat) (s':Sl) (Y:V) (a:Addr),env[j]?=some (some s')->σ[j]?=some (some Y)->Owns H s v a->¬Owns H s' Y a) :
  Ok K G H0 W (env.set i (some s)) (σ.set i (some v)) H:=by
 refine⟨ok.stay,ok.good,ok.wl,λj c e=>?_,λj k Z s2 b v2 a L d z D R S=>?_,by rw[d8,d8,ok.len]⟩
 ·rcases m9 e with⟨rfl,q,hi⟩ | ⟨hj,q⟩
  ·cases q
   exact⟨v,e7 (by rw[<-ok.len];exact hi),h⟩
  ·obtain⟨u,L,r⟩:=ok.slot j c q
   exact⟨u,by rw[d3 hj];exact L,r⟩
 ·rcases m9 L with⟨a1,b1,c1⟩ | ⟨a1,b1⟩ <;> rcases m9 d with⟨I,J,f⟩ | ⟨I,J⟩
  ·rw[<-a1,<-I]
  ·subst a1
   cases b1;rw[e7 (by rw[<-ok.len];exact c1)] at z;cases z;rw[d3 I] at D;exact absurd S (U k s2 v2 a J D R)
  ·subst I
   cases J;rw[e7 (by rw[<-ok.len];exact f)] at D;cases D;rw[d3 a1] at z;exact absurd R (U j Z b a b1 z S)
  ·rw[d3 a1] at z
   rw[d3 I] at D;exact ok.uniq j k Z s2 b v2 a b1 J z D R S
def Ok.set(ok:Ok K G H0 W env σ H)(r:Rep K H (Ow G W) d v):Ok K G H0 W (env.set i (some (.sh d))) (σ.set i (some v)) H :=
 ok.put (s:=.sh d) r λ_ _ _ _ _ _ o=>o.elim
def Ok.setO(ok:Ok K G H0 W env σ H)(z:W l)(D:H l=some (.lst vs))(r:Reps K H (Ow G W) ds vs)(I:∀(j:Nat) (s:Sl) (v:V),env[j]?=some (some s)->σ[j]?=some (some v)->¬Owns H s v l) :
  Ok K G H0 W (env.set i (some (.ow ds))) (σ.set i (some (.ref l))) H :=
 ok.put (s:=.ow ds) ⟨l,vs,rfl,z,D,r⟩ λj s' J a e L o=>by
  have:l=a:=by have o:V.ref l=V.ref a:=o;simpa using o
  subst this;exact I j s' J e L
def Ok.let(ok:Ok K G H0 W env σ H)(e:env[i]?=some (some s))(S:σ[i]?=some (some v))(W':Addr->Prop)(I:∀a,W' a↔W a/\¬Owns H s v a)(r:Rep K H (Ow G W') d v) :
  Step W H W' H/\Ok K G H0 W' (env.set i (some (.sh d))) σ H:=by
 have st:Step W H W' H:=⟨λb o q _=>q,λa z=>.inl ((I a).mp z).1⟩;refine⟨st,⟨ok.stay,ok.good,λa z=>ok.wl a ((I a).mp z).1,λj U q=>?_,λj k c s2 f v2 a g J l m V Y=>?_,by rw[d8,ok.len]⟩⟩
 ·rcases m9 q with⟨rfl,D,_⟩ | ⟨hj,D⟩
  ·cases D
   exact⟨v,S,r⟩
  ·obtain⟨u,Z,h⟩:=ok.slot j U D
   exact⟨u,Z,ok.slstep st h λa vs o J=>⟨(I a).mpr ⟨h.owns o,λz=>hj (ok.uniq i j s U v u a e D S Z z o)⟩,J⟩⟩
 ·rcases m9 g with⟨_,L,_⟩ | ⟨a1,L⟩
  ·cases L;exact V.elim
  ·rcases m9 J with⟨_,R,_⟩ | ⟨a2,R⟩
   ·cases R;exact Y.elim
   ·exact ok.uniq j k c s2 f v2 a L R l m V Y
def Ok.share(ok:Ok K G H0 W env σ H)(e:env[i]?=some (some (.ow ds))) :
  ∃W' v,σ[i]?=some (some v)/\Step W H W' H/\Ok K G H0 W' (env.set i (some (.sh (.lst ds)))) σ H/\Rep K H (Ow G W') (.lst ds) v:=by
 obtain⟨v,I,l,vs,rfl,L,R,r⟩:=ok.slot i _ e;have J:Rep K H (Ow G λa=>W a/\¬Owns H (.ow ds) (.ref l) a) (.lst ds) (.ref l) :=
  .lst ⟨ok.good l (ok.wl l L).1,λz=>z.2 rfl⟩ (.inl R) (r.mono (λ_ _ h=>h) λa us o h=>⟨⟨o.1,λz=>o.2 z.1⟩,h⟩)
 obtain⟨st,D⟩:=ok.let e I _ (λa=>Iff.rfl) J;exact⟨_,.ref l,I,st,D,J⟩
def zkw:∀ {dss:List ei} {ls:b4},Inn K G W H dss ls->(∀a,a∈ls->W a->G a/\¬W' a)->(∀ds vs,Reps K H (Ow G W) ds vs->Reps K H (Ow G W') ds vs)->Reps K H (Ow G W') (dss.map D.lst) (ls.map V.ref)
 | [],[],_,_,_=>.nil |ds::dss,a::ls,h,g,r=>by
   obtain⟨J,vs,L,R⟩:=h.2 0 ds a rfl rfl;refine .cons (.lst (g a au J) (.inl L) (r _ _ R)) (zkw (dss:=dss) (ls:=ls) ⟨kx h.1,λj ds' z S U=>h.2 (j+1) ds' z (by simpa using S) (by simpa using U)⟩ (λz I=>g z (ak _ I)) r)
variable{dss:List ei}
def Ok.share2(ok:Ok K G H0 W env σ H)(e:env[i]?=some (some (.o2 dss))) :
  ∃W' v,σ[i]?=some (some v)/\Step W H W' H/\Ok K G H0 W' (env.set i (some (.sh (.lst (dss.map D.lst))))) σ H/\Rep K H (Ow G W') (.lst (dss.map D.lst)) v:=by
 obtain⟨v,J,l,ls,rfl,S,L,Y,hi⟩:=ok.slot i _ e;have R:Rep K H (Ow G λa=>W a/\¬Owns H (.o2 dss) (.ref l) a) (.lst (dss.map D.lst)) (.ref l) :=
  .lst ⟨ok.good l (ok.wl l S).1,λz=>z.2 (.inl rfl)⟩ (.inl L) (zkw hi (λa U V=>⟨ok.good a (ok.wl a V).1,λz=>z.2 (.inr ⟨l,ls,rfl,L,U⟩)⟩) λds vs r=>r.mono (λ_ _ h=>h) λa us o h=>⟨⟨o.1,λz=>o.2 z.1⟩,h⟩)
 obtain⟨st,I⟩:=ok.let e J _ (λa=>Iff.rfl) R;exact⟨_,.ref l,J,st,I,R⟩
def Ok.chg(ok:Ok K G H0 W env σ H){s':Sl}(L:Mo)(e:env[i]?=some (some s))(f:σ[i]?=some (some v))(t:Owns H s v a)(w:SlOk K G W (upd H a L.out) s' v)(g:∀b,Owns (upd H a L.out) s' v b->Owns H s v b):Ok K G H0 W (env.set i (some s')) σ (upd H a L.out)/\Step W H W (upd H a L.out):=by
 have Y:W a:=by obtain⟨N,Z,h⟩:=ok.slot i s e;rw[f] at Z;cases Z;exact h.owns t
 have st:Step W H W (upd H a L.out):=⟨λb o q n=>by rw[ic (λz:b=a=>n (by rw[z];exact Y))];exact q,λb z=>.inl z⟩;have r:∀ {j:Nat} {D:Sl} {u:V} {b:Addr},i≠j->env[j]?=some (some D)->σ[j]?=some (some u)->Owns H D u b->b≠a:=λ{j D u b} hj q I o z=>by
  subst z;exact hj (ok.uniq i j s D v u b e q f I t o)
 have bk:∀ {j:Nat} {D:Sl} {u:V} {b:Addr},i≠j->env[j]?=some (some D)->σ[j]?=some (some u)->Owns (upd H a L.out) D u b->Owns H D u b:=λ{j D u b} hj q I o=>by
  obtain⟨O,R,h⟩:=ok.slot j D q;rw[I] at R;cases R;cases D with
  |sh d=>exact o.elim |ow ds=>exact o |o2 dss=>exact h.back (λl S _ vs U=>by rw[ic (r hj q I (.inl S))];exact U) o |ag k p ps=>exact h.back (λl S _ vs U=>by rw[ic (r hj q I (.inl S))];exact U) o |al _ _=>exact o.elim |ro _ _=>exact o.elim
 refine⟨⟨λb o q=>?_,ok.good,λb z=>?_,λj D q=>?_,λj k P s2 x v2 b I R S U y o2=>?_,by rw[d8,ok.len]⟩,st⟩
 ·rw[ic (λz=>by rw[z,(ok.wl a Y).1] at q;cases q)];exact ok.stay b o q
 ·obtain⟨q,us,g⟩:=ok.wl b z
  by_cases h:b=a
  ·exact⟨q,L,by rw[h,km]⟩
  ·exact⟨q,us,by rw[ic h];exact g⟩
 ·rcases m9 q with⟨rfl,J,_⟩ | ⟨hj,J⟩
  ·cases J
   exact⟨v,f,w⟩
  ·obtain⟨u,Z,h⟩:=ok.slot j D J
   exact⟨u,Z,ok.slstep st h λb vs o R=>⟨h.owns o,by rw[ic (r hj J Z o)];exact R⟩⟩
 ·have back:∀ {m:Nat} {D:Sl} {u:V},(env.set i (some s'))[m]?=some (some D)->σ[m]?=some (some u)->Owns (upd H a L.out) D u b->∃c,env[m]?=some (some c)/\Owns H c u b:=λ{m D u} q I o=>by
   rcases m9 q with⟨rfl,J,_⟩ | ⟨hj,J⟩
   ·cases J
    rw[f] at I;cases I;exact⟨s,e,g b o⟩
   ·exact⟨D,J,bk hj J I o⟩
  obtain⟨A,B,C⟩:=back I S y;obtain⟨E,F,M⟩:=back R U o2;exact ok.uniq j k A E x v2 b B F S U C M
variable{ds':ei}{vs':ed}
def Ok.turn(ok:Ok K G H0 W env σ H)(e:env[i]?=some (some (.ow ds)))(I:σ[i]?=some (some (.ref l)))(r:Reps K H (Ow G W) ds' vs') :
  Ok K G H0 W (env.set i (some (.ow ds'))) σ (upd H l (.lst vs'))/\Step W H W (upd H l (.lst vs')):=by
 obtain⟨v,D,L,vs,rfl,J,R,_⟩:=ok.slot i _ e;rw[I] at D;cases D;have st:Step W H W (upd H l (.lst vs')):=⟨λb o q n=>by rw[ic (λz:b=l=>n (by rw[z];exact J))];exact q,λb z=>.inl z⟩;exact ok.chg (.l vs') e I (show Owns H (.ow ds) (.ref l) l from rfl) ⟨l,vs',rfl,J,km,ok.reps st r⟩ λb o=>o
def Ok.turn2(ok:Ok K G H0 W env σ H)(e:env[i]?=some (some (.o2 dss)))(h:σ[i]?=some (some (.ref l)))(R:H l=some (.lst (ls.map V.ref)))(p:dss[j]?=some ds)(S:ls[j]?=some a)(r:Reps K H (Ow G W) ds' vs'):Ok K G H0 W (env.set i (some (.o2 (dss.set j ds')))) σ (upd H a (.lst vs'))/\Step W H W (upd H a (.lst vs')):=by
 obtain⟨v,D,s,Y,rfl,t,I,Z,hi⟩:=ok.slot i _ e;rw[h] at D;cases D;rw[R] at I;have:=sj (by simpa using I);subst this;have m:a∈ls:=bq S;have J:W a:=(hi.2 j ds a p S).1;have st:Step W H W (upd H a (.lst vs')):=⟨λb o q n=>by rw[ic (λz:b=a=>n (by rw[z];exact J))];exact q,λb z=>.inl z⟩;have c:l≠a:=λz=>by subst z;exact(fy.mp Z).1 m
 have L:upd H a (.lst vs') l=some (.lst (ls.map V.ref)):=by rw[ic c];exact R
 refine ok.chg (.l vs') e h (.inr ⟨l,ls,rfl,R,m⟩) ⟨l,ls,rfl,t,L,Z,by rw[d8];exact hi.1,λk es b u U=>?_⟩ λb o=>?_
 ·rcases m9 u with⟨rfl,z,_⟩ | ⟨hk,q'⟩
  ·cases z
   rw[S] at U;cases U;exact⟨J,vs',km,ok.reps st r⟩
  ·obtain⟨d,us,f,w⟩:=hi.2 k es b q' U
   refine⟨d,us,?_,ok.reps st w⟩;have g:b≠a:=λz=>hk (by
    subst z;exact zpc (fy.mp Z).2 S U)
   rw[ic g];exact f
 ·rcases o with o | ⟨s,Y,z,q,f⟩
  ·exact .inl o
  ·cases z
   rw[L] at q;have:=sj (by simpa using q);subst this;exact .inr ⟨l,ls,rfl,R,f⟩
structure At (X:Cx) (i:Nat) (x:Str):Prop where
 n:X.N[i]?=some x
 v:Vis X.env.scope x
 d:(x==("__debug__" : Str))=false
 c:(x==("__classdict__" : Str))=false
def At.pe(h:At X i x):PE X (.Name x pos) (tVar i):=zt7 h.n h.v h.d h.c
structure To (X:Cx) (i:Nat) (x:Str):Prop where
 nd:X.N.Nodup
 n:X.N[i]?=some x
 l:Loc X.env.scope x
 f:X.fn x=true\/X.env.scope.names.lookup x=some .local
structure Bn (X:Cx) (x:Str):Prop where
 g:Gl X x
 m:X.mg x=none
structure Ats (N cs:bt) (X:Cx):Prop where
 n:X.N=N
 get:∀i x,N[i]?=some x->At X i x
 ck:∀u∈cs,X.env.kindOf u=some .cell\/X.env.kindOf u=some .free
structure Tos (N:bt) (X:Cx):Prop where
 to:∀i x,N[i]?=some x->To X i x
variable{N cs:bt}
protected def Ats.a(h:Ats N cs X)(e:N[i]?=some x):At X i x:=h.get i x e
protected def Tos.t(h:Tos N X)(e:N[i]?=some x):To X i x:=h.to i x e
def Ats.nox(h:Ats N cs X):Ats N cs X.nox:=⟨h.n,λi x e=>let z:=h.get i x e;⟨z.n,z.v,z.d,z.c⟩,h.ck⟩
def Tos.nox(h:Tos N X):Tos N X.nox:=⟨λi x e=>let z:=h.to i x e;⟨z.nd,z.n,z.l,z.f⟩⟩
def okN(x:Str):Bool:=!(x==("__debug__" : Str)) && !(x==("__classdict__" : Str))
def qm(h:okN x=true):(x==("__debug__" : Str))=false/\(x==("__classdict__" : Str))=false:=by
 unfold okN at h;rwa [ij,k4,k4] at h
variable{k:Nat}
def n9{o:Option NameKind}{k:NameKind}(h:(o==some k)=true):o=some k:=by
 cases o with
 |none=>cases h
 |some a=>cases a <;> cases k <;> first |rfl |cases h
def subN(N:bt)(ix:b5):bt:=ix.map λi=>N.getD i ("" : Str)
def n8(N cs:bt)(ix:b5)(y:Str)(sc:Scope):Bool:=decide ((y::subN N ix).Nodup) && decide (sc.kind=.function) && (sc.names.lookup y==some .local) && decide (∀z∈sc.names,z.2≠.cell) && decide (∀z∈sc.names,z.2=.local->sc.names.lookup z.1=some .local) && decide (∀z∈sc.names,z.2=.free->z.1∈subN N ix) && (subN N ix).all (λu=>(sc.names.lookup u==some .free) && cs.elem u) && (y::subN N ix).all okN
def gl_d(h:X.env.scope.names.lookup x=some .globalImplicit):Gl X x:=h
variable{s:Shared}{C:Addr}
def zu8(h:sc.names.lookup x=some .local):Vis (iw X y N' sc cl C s H fp).env.scope x:=.inl (lookup_relabel_local h)
def zu9(h:sc.names.lookup x=some .free):Vis (iw X y N' sc cl C s H fp).env.scope x:=.inr (wn h)
def uz(hA:Ats N cs X)(h:n8 N cs ix y sc=true):xz X y (subN N ix) ix sc:=by
 unfold n8 at h;simp only[ij,decide_eq_true_eq,gm] at h;obtain⟨⟨⟨⟨⟨⟨⟨h1,h2⟩,I⟩,J⟩,L⟩,R⟩,D⟩,_⟩:=h;exact⟨by rw[hA.n];rfl,h1,h2,n9 I,J,L,λz S U=>hA.ck z.1 (List.mem_of_elem_eq_true (D z.1 (R z S U)).2),λu V=>n9 (D u V).1⟩
variable{s₂:Shared}{H₂:Hp}
def u9(h:n8 N cs ix y sc=true):Ats (y::subN N ix) (subN N ix) (iw X y (subN N ix) sc cl C s₂ H₂ fp):=by
 unfold n8 at h;simp only[ij,decide_eq_true_eq,gm] at h;obtain⟨⟨⟨⟨⟨⟨⟨h1,h2⟩,I⟩,L⟩,R⟩,S⟩,z⟩,D⟩:=h;refine⟨rfl,λi x e=>⟨e,?_,(qm (D x (bq e))).1,(qm (D x (bq e))).2⟩,λu J=>?_⟩
 ·rcases b8.mp (bq e) with rfl |hm
  ·exact zu8 (n9 I)
  ·exact zu9 (n9 (z x hm).1)
 ·exact wn (env:=X.env) (n9 (z u J).1)
abbrev FE:=DE0->Option (D×DE0)
abbrev FT:=DE0->Option (Bool×DE0)
abbrev FA:=DE0->Option (ei×DE0)
inductive DP (K:dc) (G:Gd) (H0:Hp) {β:Type} (f:DE0->Option (β×DE0)) (P:(Addr->Prop)->DE0->β->DE0->Prop) (σ:St) (H:Hp):Prop
 |mk (W:Addr->Prop) (env:DE0) (d:β) (env':DE0) (ok:Ok K G H0 W env σ H) (q:f env=some (d,env')) (k:P W env d env'):DP K G H0 f P σ H
def tD(K:dc)(G:Gd)(H0:Hp)(f:FE):TE:=λσ H Q=>DP K G H0 f (λW env d env' =>
 ∀W' v H',Step W H W' H'->Ok K G H0 W' env' σ H'->Rep K H' (Ow G W') d v->Q v H') σ H
def tDT(K:dc)(G:Gd)(H0:Hp)(f:FT):TT:=λσ H Q=>DP K G H0 f (λW env b env' =>
 ∀W' H',Step W H W' H'->Ok K G H0 W' env' σ H'->Q b H') σ H
def tDA(K:dc)(G:Gd)(H0:Hp)(f:FA):TA:=λσ H Q=>DP K G H0 f (λW env ds env' =>
 ∀W' vs H',Step W H W' H'->Ok K G H0 W' env' σ H'->Reps K H' (Ow G W') ds vs->Q vs H') σ H
def tDF(K:dc)(G:Gd)(H0:Hp)(f:FA):TE:=λσ H Q=>DP K G H0 f (λW env ds env' =>
 ∀W' l vs H',Step W H (addW W' l) H'->Ok K G H0 W' env' σ H'->Ok K G H0 (addW W' l) env' σ H'->¬W' l->H' l=some (.lst vs)->Reps K H' (Ow G (addW W' l)) ds vs->Q (.ref l) H') σ H
structure DEx (X:Cx) (G:Gd) (H0:Hp) (e:Expr) (f:FE):Prop where
 out:PE X e (tD X.K G H0 f)
structure DTx (X:Cx) (G:Gd) (H0:Hp) (e:Expr) (f:FT):Prop where
 out:PT X e (tDT X.K G H0 f)
structure DAx (X:Cx) (G:Gd) (H0:Hp) (es:ci) (f:FA):Prop where
 out:PA X es (tDA X.K G H0 f)
structure DFx (X:Cx) (G:Gd) (H0:Hp) (e:Expr) (f:FA):Prop where
 out:PE X e (tDF X.K G H0 f)
variable{e:Expr}{t:TE}{t':TT}
def PE.imp{t':TE}(h:PE X e t)(i:∀σ H Q,t' σ H Q->t σ H Q):PE X e t':=λpins s σ H Q I q=>h pins s σ H Q I (i σ H Q q)
def PT.imp{t:TT}(h:PT X e t)(i:∀σ H Q,t' σ H Q->t σ H Q):PT X e t':=λpins s σ H Q I q=>h pins s σ H Q I (i σ H Q q)
def PA.imp{e:ci}{t t':TA}(h:PA X e t)(i:∀σ H Q,t' σ H Q->t σ H Q):PA X e t':=λpos pins s σ H Q I q=>h pos pins s σ H Q I (i σ H Q q)
@[simp] def fVar(i:Nat):FE:=λe=>match e[i]? with
 |some (some (.sh d))=>some (d,e) |some (some (.ow ds))=>some (.lst ds,e.set i (some (.sh (.lst ds))))
 |some (some (.o2 dss))=>some (.lst (dss.map D.lst),e.set i (some (.sh (.lst (dss.map D.lst)))))
 |_=>none
@[simp] def fC(d:D):FE:=λe=>some (d,e)
@[simp] def fBin(op:D->D->el)(f g:FE):FE:=λe=>(f e).bind λr=>(g r.2).bind λq=>(op r.1 q.1).map λd=>(d,q.2)
@[simp] def fUn(op:D->el)(f:FE):FE:=λe=>(f e).bind λr=>(op r.1).map λd=>(d,r.2)
@[simp] def fAnd(f g:FT):FT:=λe=>(f e).bind λr=>if r.1=true then g r.2 else some (false,r.2)
@[simp] def fOr(f g:FT):FT:=λe=>(f e).bind λr=>if r.1=true then some (true,r.2) else g r.2
@[simp] def fNot(f:FT):FT:=λe=>(f e).map λr=>(!r.1,r.2)
@[simp] def fTst(f:FE):FT:=λe=>(f e).bind λr=>match r.1 with | .bl b=>some (b,r.2) |_=>none
@[simp] def qi(f g:FE):FE:=λe=>(f e).bind λr=>match r.1 with | .bl true=>g r.2 | .bl false=>some (.bl false,r.2) |_=>none
@[simp] def xg(f:FE):FE:=λe=>(f e).bind λr=>match r.1 with | .bl b=>some (.bl (!b),r.2) |_=>none
@[simp] def fNil:FA:=λe=>some ([],e)
@[simp] def bw(f:FE)(g:FA):FA:=λe=>(f e).bind λr=>(g r.2).bind λq=>some (r.1::q.1,q.2)
@[simp] def fTup(g:FA):FE:=λe=>(g e).bind λr=>if r.1.length<=64 then some (.tup r.1,r.2) else none
@[simp] def gk(g:FA):FA:=λe=>(g e).bind λr=>if r.1.length<=64 then some (r.1,r.2) else none
@[simp] def fLst(g:FA):FE:=λe=>(g e).map λr=>(.lst r.1,r.2)
@[simp] def gn:D->D->el | .int i,.int j=>some (.int (i+j)) |_,_=>none
@[simp] def dSub:D->D->el | .int i,.int j=>some (.int (i-j)) |_,_=>none
def js(i:Int):Prop:=-(2 ^ 64)<i/\i<2 ^ 64
noncomputable instance (i:Int):Decidable (js i):=Classical.propDecidable _
def Few(n:Nat):Prop:=n<=2 ^ 20
noncomputable instance (n:Nat):Decidable (Few n):=Classical.propDecidable _
def Bnd(lo hi i:Int):Prop:=lo<=i/\i<hi
noncomputable instance (lo hi i:Int):Decidable (Bnd lo hi i):=Classical.propDecidable _
def dMul:D->D->el | .int i,.int j=>if js i\/js j then some (.int (i*j)) else none |_,_=>none
def dMod:D->D->el | .int i,.int j=>if 0<j then some (.int (i % j)) else none |_,_=>none
def dDiv:D->D->el | .int i,.int j=>if Bnd 1 1073741824 j then some (.int (i / j)) else none |_,_=>none
@[simp] def dNeg:D->el | .int i=>some (.int (-i)) |_=>none
@[simp] def dLt:D->D->el | .int i,.int j=>some (.bl (decide (i<j))) |_,_=>none
@[simp] def dGt:D->D->el | .int i,.int j=>some (.bl (decide (j<i))) |_,_=>none
@[simp] def dGe:D->D->el | .int i,.int j=>some (.bl (decide (j<=i))) |_,_=>none
@[simp] def dEq:D->D->el
 | .int i,.int j=>some (.bl (decide (i=j))) | .str i,.str j=>some (.bl (decide (i=j))) | .bl i,.bl j=>some (.bl (decide (i=j))) |_,_=>none
@[simp] def dNe:D->D->el
 | .int i,.int j=>some (.bl (!decide (i=j))) | .str i,.str j=>some (.bl (!decide (i=j))) | .bl i,.bl j=>some (.bl (!decide (i=j))) |_,_=>none
@[simp] def dIx:D->D->el | .tup ds,.int i=>atI ds i | .lst ds,.int i=>atI ds i |_,_=>none
def OpD(X:Cx)(G:Gd)(H0:Hp)(r:R2)(op:D->D->el):Prop :=
 ∀W env σ H x y d1 d2 d (Q:VK),Ok X.K G H0 W env σ H->Rep X.K H (Ow G W) d1 x->Rep X.K H (Ow G W) d2 y->op d1 d2=some d ->
  (∀v H',Step W H W H'->Ok X.K G H0 W env σ H'->Rep X.K H' (Ow G W) d v->Q v H')->r x y H Q
variable{r:R2}{op:D->D->el}{g:FE}
def ue(L:OpD X G H0 r op):∀σ H Q,tD X.K G H0 (fBin op f g) σ H Q->tOp r (tD X.K G H0 f) (tD X.K G H0 g) σ H Q:=by
 rintro σ H Q ⟨W,env,d,env',ok,e,k⟩;cases e1:f env with
 |none=>simp[e1] at e |some r1 =>
   cases e2:g r1.2 with
   |none=>simp[e1,e2] at e |some r2 =>
     have e:(op r1.1 r2.1).map (λd=>(d,r2.2))=some (d,env'):=by simpa[fBin,e1,e2] using e
     cases e3:op r1.1 r2.1 with
     |none=>rw[e3] at e;cases e
     |some d' =>
       rw[e3] at e;have R:(d',r2.2)=(d,env'):=az e;cases R;refine⟨W,env,r1.1,r1.2,ok,e1,λW1 S H1 U z p1=>⟨W1,r1.2,r2.1,r2.2,z,e2,λJ v2 H2 s2 D p2=>?_⟩⟩;exact L J _ σ H2 S v2 _ _ _ Q D (z.rep s2 p1) p2 e3 λv V Y I Z=>k J v V ((U.trans s2).trans Y) I Z
variable{a b:Expr}{p:D->D->el}
def rj{op:Operator}(z:OpR X (binaryOp op) r)(hd:OpD X G H0 r p)(D:DEx X G H0 a f)(I:DEx X G H0 b g):DEx X G H0 (.BinOp a op b pos) (fBin p f g) :=
 ⟨(xn z D.out I.out).imp (ue hd)⟩
def zqu{op:CmpOp}(z:OpR X (compareOp op) r)(hd:OpD X G H0 r p)(D:DEx X G H0 a f)(I:DEx X G H0 b g)(J:behindInMarks op b=false):DEx X G H0 (.Compare a [op] [b] pos) (fBin p f g) :=
 ⟨(zrt z D.out I.out J).imp (ue hd)⟩
def zva(z:IxR X r)(hd:OpD X G H0 r p)(D:DEx X G H0 a f)(I:DEx X G H0 b g)(J:sf b):DEx X G H0 (.Subscript a b pos) (fBin p f g) :=
 ⟨(xq z D.out I.out J).imp (ue hd)⟩
def zvb(h:∀σ H Q,tD X.K G H0 f σ H Q->t σ H Q):∀σ H Q,tDT X.K G H0 (fTst f) σ H Q->zuv t σ H Q:=by
 rintro σ H Q ⟨W,env,b,env',ok,e,k⟩;refine h σ H _ ?_;cases e1:f env with
 |none=>simp[e1] at e |some r1 =>
   obtain⟨d,z⟩:=r1;cases d with
   |bl b' =>
     have e:some (b',z)=some (b,env'):=by simpa[fTst,e1] using e
     cases e;exact⟨W,env,_,_,ok,e1,λW1 J H1 I D p1=>⟨_,p1.bl_,k W1 H1 I D⟩⟩
   |_=>simp[e1] at e
def rh{op:CmpOp}(z:OpR X (compareOp op) r)(hd:OpD X G H0 r p)(D:DEx X G H0 a f)(I:DEx X G H0 b g)(J:behindInMarks op b=false):DTx X G H0 (.Compare a [op] [b] pos) (fTst (fBin p f g)) :=
 ⟨(zru z D.out I.out J).imp (zvb (ue hd))⟩
variable{g:Int->Int->Int}
def od_I{C:Int->Int->Prop}(h:∀z D d,op z D=some d->∃i j,z=.int i/\D=.int j/\C i j/\d=.int (g i j)):OpD X G H0 (rI C λi j=>.int (g i j)) op:=by
 intro W env σ H x y z D d Q ok p1 p2 e k;obtain⟨i,j,rfl,rfl,I,rfl⟩:=h _ _ _ e;exact⟨i,j,p1.int_,p2.int_,I,k _ H Step.refl ok (.int _)⟩
def zvc(h:∀z D d,op z D=some d->∃i j,z=.int i/\D=.int j/\d=.int (g i j)):OpD X G H0 (rI0 λi j=>.int (g i j)) op:=by
 intro W env σ H x y z D d Q ok p1 p2 e k;obtain⟨i,j,rfl,rfl,rfl⟩:=h _ _ _ e;exact⟨i,j,p1.int_,p2.int_,k _ H Step.refl ok (.int _)⟩
variable{g:FE}
def xf{g:Int->Int->Bool}(h:∀z D d,op z D=some d->∃i j,z=.int i/\D=.int j/\d=.bl (g i j)):OpD X G H0 (rI0 λi j=>.bl (g i j)) op:=by
 intro W env σ H x y z D d Q ok p1 p2 e k;obtain⟨i,j,rfl,rfl,rfl⟩:=h _ _ _ e;exact⟨i,j,p1.int_,p2.int_,k _ H Step.refl ok (.bl _)⟩
def zvd:OpD X G H0 (rI0 λi j=>.int (i+j)) gn:=zvc λz D d e=>by
 cases z <;> try (cases e;done)
 all_goals cases D <;> first | (cases e;done) |exact⟨_,_,rfl,rfl,(az e).symm⟩
def zve:OpD X G H0 (rI0 λi j=>.int (i-j)) dSub:=zvc λz D d e=>by
 cases z <;> try (cases e;done)
 all_goals cases D <;> first | (cases e;done) |exact⟨_,_,rfl,rfl,(az e).symm⟩
def zvf:OpD X G H0 (rI CMul λi j=>.int (i*j)) dMul:=od_I λz D d e=>by
 cases z <;> try (cases e;done)
 all_goals cases D <;> first
  | (cases e;done)
  | (rename_i i j
     by_cases h:js i\/js j
     ·simp only[dMul,if_pos h] at e;exact⟨_,_,rfl,rfl,h,(az e).symm⟩
     ·simp only[dMul,if_neg h] at e;cases e)
def zvg:OpD X G H0 (rI (λ_ j=>0<j) λi j=>.int (i % j)) dMod:=od_I λz D d e=>by
 cases z <;> try (cases e;done)
 all_goals cases D <;> first
  | (cases e;done)
  | (rename_i i j
     by_cases h:0<j
     ·simp only[dMod,if_pos h] at e;exact⟨_,_,rfl,rfl,h,(az e).symm⟩
     ·simp only[dMod,if_neg h] at e;cases e)
theorem zvh:OpD X G H0 (rI CDiv λi j=>.int (i / j)) dDiv:=od_I λz D d e=>by
 cases z <;> try (cases e;done)
 all_goals cases D <;> first
  | (cases e;done)
  | (rename_i i j
     by_cases h:Bnd 1 1073741824 j
     ·simp only[dDiv,if_pos h] at e;exact⟨_,_,rfl,rfl,⟨by have:=h.1;lia,h.2⟩,(az e).symm⟩
     ·simp only[dDiv,if_neg h] at e;cases e)
def zxf:OpD X G H0 (rI0 λi j=>.bl (decide (i<j))) dLt:=xf λz D d e=>by
 cases z <;> try (cases e;done)
 all_goals cases D <;> first | (cases e;done) |exact⟨_,_,rfl,rfl,(az e).symm⟩
def zvi:OpD X G H0 (rI0 λi j=>.bl (decide (j<i))) dGt:=xf λz D d e=>by
 cases z <;> try (cases e;done)
 all_goals cases D <;> first | (cases e;done) |exact⟨_,_,rfl,rfl,(az e).symm⟩
def zxg:OpD X G H0 (rI0 λi j=>.bl (decide (j<=i))) dGe:=xf λz D d e=>by
 cases z <;> try (cases e;done)
 all_goals cases D <;> first | (cases e;done) |exact⟨_,_,rfl,rfl,(az e).symm⟩
def zqv(i j:Int):decide (V.int i=V.int j)=decide (i=j):=by simp
def zqw(i j:Str):decide (V.str i=V.str j)=decide (i=j):=by simp
def zvj(i j:Bool):decide (V.bl i=V.bl j)=decide (i=j):=by simp
def zvk:OpD X G H0 rEq dEq:=by
 intro W env σ H x y z D d Q ok p1 p2 e k;cases z <;> try (cases e;done)
 all_goals cases D <;> first
  | (cases e;done)
  | (cases p1.int_;cases p2.int_;cases e;refine⟨rfl,?_⟩;rw[zqv];exact k _ H Step.refl ok (.bl _))
  | (cases p1.str_;cases p2.str_;cases e;refine⟨rfl,?_⟩;rw[zqw];exact k _ H Step.refl ok (.bl _))
  | (cases p1.bl_;cases p2.bl_;cases e;refine⟨rfl,?_⟩;rw[zvj];exact k _ H Step.refl ok (.bl _))
def zxh:OpD X G H0 rNe dNe:=by
 intro W env σ H x y z D d Q ok p1 p2 e k;cases z <;> try (cases e;done)
 all_goals cases D <;> first
  | (cases e;done)
  | (cases p1.int_;cases p2.int_;cases e;refine⟨rfl,?_⟩;rw[zqv];exact k _ H Step.refl ok (.bl _))
  | (cases p1.str_;cases p2.str_;cases e;refine⟨rfl,?_⟩;rw[zqw];exact k _ H Step.refl ok (.bl _))
  | (cases p1.bl_;cases p2.bl_;cases e;refine⟨rfl,?_⟩;rw[zvj];exact k _ H Step.refl ok (.bl _))
def se{i:Int}(r:Reps K H O ds vs)(h:atI ds i=some d):∃v,atI vs i=some v/\Rep K H O d v:=by
 unfold atI at h ⊢;rw[<-r.length];cases q:ixN ds.length i with
 |none=>rw[q] at h;cases h
 |some j=>rw[q] at h;exact r.get h
def zxi:OpD X G H0 (rIx X.K) dIx:=by
 intro W env σ H x y I J d Q ok p1 p2 e k;cases I <;> first
  | (cases e;done)
  | (cases J <;> first
      | (cases e;done)
      | (cases p2
         first
          | (obtain⟨a, vs, rfl, h, r⟩ := p1.tup_
             obtain⟨v,z,D⟩:=se r e;exact .inr (.inl ⟨a,vs,_,v,rfl,rfl,SqT.of h,z,k _ H Step.refl ok D⟩))
          | (obtain⟨a, vs, rfl, h, r⟩ := p1.lst_
             obtain⟨v,z,D⟩:=se r e;exact .inl ⟨a,vs,_,v,rfl,rfl,h.sq,z,k _ H Step.refl ok D⟩)))
def j0(z:DEx X G H0 a f)(D:DEx X G H0 b g):DEx X G H0 (.BinOp a .Add b pos) (fBin gn f g):=rj zuo zvd z D
def kr(z:DEx X G H0 a f)(D:DEx X G H0 b g):DEx X G H0 (.BinOp a .Sub b pos) (fBin dSub f g):=rj zup zve z D
def l9(z:DEx X G H0 a f)(D:DEx X G H0 b g):DEx X G H0 (.BinOp a .Mult b pos) (fBin dMul f g):=rj zuq zvf z D
def kf(z:DEx X G H0 a f)(D:DEx X G H0 b g):DEx X G H0 (.BinOp a .Mod b pos) (fBin dMod f g):=rj zur zvg z D
def mr(z:DEx X G H0 a f)(D:DEx X G H0 b g):DEx X G H0 (.BinOp a .FloorDiv b pos) (fBin dDiv f g):=rj zrs zvh z D
def zxj(z:DEx X G H0 a f)(D:DEx X G H0 b g):DEx X G H0 (.Compare a [.Gt] [b] pos) (fBin dGt f g):=zqu zuu zvi z D (o8 _)
def zxk(z:DEx X G H0 a f)(D:DEx X G H0 b g):DEx X G H0 (.Compare a [.Eq] [b] pos) (fBin dEq f g):=zqu zut zvk z D (o8 _)
def qh(z:DEx X G H0 a f)(D:DEx X G H0 b g):DTx X G H0 (.Compare a [.Lt] [b] pos) (fTst (fBin dLt f g)):=rh zxa zxf z D (o8 _)
def o5(z:DEx X G H0 a f)(D:DEx X G H0 b g):DTx X G H0 (.Compare a [.Gt] [b] pos) (fTst (fBin dGt f g)):=rh zuu zvi z D (o8 _)
def zxl(z:DEx X G H0 a f)(D:DEx X G H0 b g):DTx X G H0 (.Compare a [.GtE] [b] pos) (fTst (fBin dGe f g)):=rh zxb zxg z D (o8 _)
def mn(z:DEx X G H0 a f)(D:DEx X G H0 b g):DTx X G H0 (.Compare a [.Eq] [b] pos) (fTst (fBin dEq f g)):=rh zut zvk z D (o8 _)
def ud(z:DEx X G H0 a f)(D:DEx X G H0 b g):DTx X G H0 (.Compare a [.NotEq] [b] pos) (fTst (fBin dNe f g)):=rh zw9 zxh z D (o8 _)
def n6(z:DEx X G H0 a f)(D:DEx X G H0 b g)(I:sf b:=by intro _ _;rfl):DEx X G H0 (.Subscript a b pos) (fBin dIx f g):=zva yb zxi z D I
variable{Nn Cn:bt}
def cj(an:Ats Nn Cn X)(I:Nn[i]?=some x:=by rfl):DEx X G H0 (.Name x pos) (fVar i):=⟨((an.a I).pe).imp λσ H Q J=>by
 obtain⟨W,env,d,env',ok,e,k⟩:=J;unfold fVar at e;cases q:env[i]? with
 |none=>rw[q] at e;cases e
 |some o =>
   cases o with
   |none=>rw[q] at e;cases e
   |some sl =>
     cases sl with
     |sh d' =>
       rw[q] at e;cases e;obtain⟨v,D,r⟩:=ok.slot i _ q;exact⟨v,D,k W v H Step.refl ok r⟩
     |ow ds =>
       rw[q] at e;cases e;obtain⟨W',v,D,st,z,r⟩:=ok.share q;exact⟨v,D,k W' v H st z r⟩
     |o2 dss =>
       rw[q] at e;cases e;obtain⟨W',v,D,st,z,r⟩:=ok.share2 q;exact⟨v,D,k W' v H st z r⟩
     |ag _ _ _=>rw[q] at e;cases e
     |al _ _=>rw[q] at e;cases e
     |ro _ _=>rw[q] at e;cases e⟩
def de_c(h:PE X e (tC v))(r:∀H O,Rep X.K H O d v):DEx X G H0 e (fC d):=⟨h.imp λσ H Q z=>by
 obtain⟨W,env,d',env',ok,q,k⟩:=z;cases q;exact k W v H Step.refl ok (r _ _)⟩
def cz{i:Int}:DEx X G H0 (.Constant (.int i) j pos) (fC (.int i)):=de_c zqo λ_ _=>.int _
def lm{i:Bool}:DEx X G H0 (.Constant (.bool i) j pos) (fC (.bl i)):=de_c zwy λ_ _=>.bl _
def ql(J:DEx X G H0 a f):DEx X G H0 (.UnaryOp .USub a pos) (fUn dNeg f):=⟨(zw8 zus J.out).imp λσ H Q L=>by
 obtain⟨W,env,d',env',ok,q,k⟩:=L;cases e1:f env with
 |none=>simp[e1] at q |some r =>
   obtain⟨d,z⟩:=r;cases d with
   |int i =>
     have q:some (D.int (-i),z)=some (d',env'):=by simpa[fUn,e1,dNeg] using q
     cases q;exact⟨W,env,_,_,ok,e1,λW1 S H1 R I p1=>⟨i,p1.int_,k W1 _ H1 R I (.int _)⟩⟩
   |_=>simp[e1] at q⟩
structure DWx (X:Cx) (G:Gd) (H0:Hp) (e:Expr) (f:FT):Prop where
 out:PW X e (tDT X.K G H0 f)
variable{t:TI}
def PW.imp{t:TT}(h:PW X e t)(i:∀σ H Q,t' σ H Q->t σ H Q):PW X e t':=λw pins s σ H Q I q=>h w pins s σ H Q I (i σ H Q q)
variable{p:FT}
def dt_w(h:DWx X G H0 e p):DTx X G H0 e p:=⟨PW.pt h.out⟩
def r8(h:DTx X G H0 a p):DWx X G H0 (.BoolOp .And [a] pos) p:=⟨zrk h.out⟩
def qk(h:DTx X G H0 a p):DWx X G H0 (.BoolOp .Or [a] pos) p:=⟨zt9 h.out⟩
variable{rest:ci}
def rg(h:DTx X G H0 a p)(h2:DWx X G H0 (.BoolOp .And (b::rest) pos) q):DWx X G H0 (.BoolOp .And (a::b::rest) pos) (fAnd p q):=⟨(zua h.out h2.out).imp λσ H Q L=>by
 obtain⟨W,env,d,env',ok,e,k⟩:=L;cases e1:p env with
 |none=>simp[e1] at e |some r =>
   obtain⟨t,z⟩:=r;refine⟨W,env,t,z,ok,e1,λW1 H1 J D=>?_⟩;cases t with
   |true =>
     exact⟨W1,z,d,env',D,by simpa[fAnd,e1] using e,λR H2 s2 I=>k R H2 (J.trans s2) I⟩
   |false =>
     have e:some (false,z)=some (d,env'):=by simpa[fAnd,e1] using e
     cases e;exact k W1 H1 J D⟩
def qg(h:DTx X G H0 a p)(h2:DWx X G H0 (.BoolOp .Or (b::rest) pos) q):DWx X G H0 (.BoolOp .Or (a::b::rest) pos) (fOr p q):=⟨(zwz h.out h2.out).imp λσ H Q L=>by
 obtain⟨W,env,d,env',ok,e,k⟩:=L;cases e1:p env with
 |none=>simp[e1] at e |some r =>
   obtain⟨t,z⟩:=r;refine⟨W,env,t,z,ok,e1,λW1 H1 J D=>?_⟩;cases t with
   |false =>
     exact⟨W1,z,d,env',D,by simpa[fOr,e1] using e,λR H2 s2 I=>k R H2 (J.trans s2) I⟩
   |true =>
     have e:some (true,z)=some (d,env'):=by simpa[fOr,e1] using e
     cases e;exact k W1 H1 J D⟩
def l8(h:DTx X G H0 a p):DTx X G H0 (.UnaryOp .Not a pos) (fNot p):=⟨(zub h.out).imp λσ H Q D=>by
 obtain⟨W,env,d,env',ok,e,k⟩:=D;cases e1:p env with
 |none=>simp[e1] at e |some r =>
   have e:some (!r.1,r.2)=some (d,env'):=by simpa[fNot,e1] using e
   cases e;exact⟨W,env,_,_,ok,e1,λW1 H1 I z=>k W1 H1 I z⟩⟩
def ln(h:DEx X G H0 a f)(D:∀whole,isTrue a X.env whole=(do let v <-whole;standAt a.pos;holding [v] (truthy v)):=by intro _;rfl):DTx X G H0 a (fTst f):=⟨(zt8 h.out D).imp (zvb λ_ _ _ z=>z)⟩
variable{op:ei->el}
def zqx{op:BoolOp}(h:DEx X G H0 a f):DEx X G H0 (.BoolOp op [a] pos) f:=⟨zuc h.out⟩
def zqy(h:DEx X G H0 a f)(h2:DEx X G H0 (.BoolOp .And (b::rest) pos) g):DEx X G H0 (.BoolOp .And (a::b::rest) pos) (qi f g):=⟨(zud h.out h2.out).imp λσ H Q R=>by
 obtain⟨W,env,d,env',ok,e,k⟩:=R;cases e1:f env with
 |none=>simp[e1] at e |some r =>
   obtain⟨t,z⟩:=r;refine⟨W,env,t,z,ok,e1,λW1 U H1 L I p1=>?_⟩;cases t with
   |bl t =>
     refine⟨t,p1.bl_,?_⟩;cases t with
     |true =>
       exact⟨W1,z,d,env',I,by simpa[qi,e1] using e,λS v2 H2 s2 J p2=>k S v2 H2 (L.trans s2) J p2⟩
     |false =>
       have e:some (D.bl false,z)=some (d,env'):=by simpa[qi,e1] using e
       cases e;exact k W1 _ H1 L I (.bl _)
   |_=>simp[e1] at e⟩
def zvl(h:DEx X G H0 a f):DEx X G H0 (.UnaryOp .Not a pos) (xg f):=⟨(zue h.out).imp λσ H Q J=>by
 obtain⟨W,env,d,env',ok,e,k⟩:=J;cases e1:f env with
 |none=>simp[e1] at e |some r =>
   obtain⟨t,z⟩:=r;refine⟨W,env,t,z,ok,e1,λW1 R H1 L I p1=>?_⟩;cases t with
   |bl t =>
     have e:some (D.bl (!t),z)=some (d,env'):=by simpa[xg,e1] using e
     cases e;exact⟨t,p1.bl_,k W1 _ H1 L I (.bl _)⟩
   |_=>simp[e1] at e⟩
def d9  : DAx X G H0 [] fNil:=⟨ma.imp λσ H Q z=>by
 obtain⟨W,env,ds,env',ok,e,k⟩:=z;cases e;exact k W [] H Step.refl ok .nil⟩
variable{F:FA}
def cy(J:DEx X G H0 e f)(L:DAx X G H0 es F)(R:starEach (e::es) X.env=(false,eval e X.env)::starEach es X.env:=by rfl):DAx X G H0 (e::es) (bw f F):=⟨(lf J.out L.out R).imp λσ H Q S=>by
 obtain⟨W,env,ds,env',ok,q,k⟩:=S;cases e1:f env with
 |none=>simp[e1] at q |some r =>
   obtain⟨d,z⟩:=r;cases e2:F z with
   |none=>simp[e1,e2] at q |some r2 =>
     have q:some (d::r2.1,r2.2)=some (ds,env'):=by simpa[bw,e1,e2] using q
     cases q;exact⟨W,env,d,z,ok,e1,λW1 Y H1 U D p1=>⟨W1,z,_,_,D,e2,λV vs H2 s2 I p2=>k V _ H2 (U.trans s2) I (.cons (D.rep s2 p1) p2)⟩⟩⟩
def le64(h:n<=64):n<=sizeLine:=bh h (by rw[sizeLine_eq];decide)
def m8{k1}(h:DAx X G H0 es F):DEx X G H0 (.Tuple es k1 pos) (fTup F):=⟨(zuw h.out).imp λσ H Q L=>by
 obtain⟨W,env,d,env',ok,q,k⟩:=L;cases e1:F env with
 |none=>simp[e1] at q |some r =>
   obtain⟨ds,z⟩:=r;by_cases J:ds.length<=64
   ·have q:some (D.tup ds,z)=some (d,env'):=by simpa[fTup,e1,J] using q
    cases q;refine⟨W,env,ds,_,ok,e1,λW1 vs H1 R I p1=>⟨by rw[<-p1.length];exact le64 J,λl S=>?_⟩⟩;have sm:Same H1 (upd H1 l (.tup vs)):=si S;have st:Step W1 H1 W1 (upd H1 l (.tup vs)):=Step.same sm;exact k W1 _ _ (R.trans st) (I.same sm) (.tup km (I.reps st p1))
   ·simp[e1,J] at q⟩
def mq(ok:Ok X.K G H0 W env σ H)(r:Reps X.K H (Ow G W) ds vs)(D:H l=none) :
  Step W H (addW W l) (upd H l (.lst vs))/\Ok X.K G H0 W env σ (upd H l (.lst vs))/\Ok X.K G H0 (addW W l) env σ (upd H l (.lst vs))/\¬W l/\upd H l (.lst vs) l=some (.lst vs)/\Reps X.K (upd H l (.lst vs)) (Ow G (addW W l)) ds vs:=by
 have sm:Same H (upd H l (.lst vs)):=si D;obtain⟨h1,h2,I,J,L⟩:=ok.fresh (l:=l) (vs:=vs) (ds:=ds) sm D km ((r.mono (O':=λa=>(Ow G W a\/H a=none)/\a≠l) (λ_ _ h=>sm _ _ h) λa us o h=>⟨⟨.inl o,λz=>by
  subst z;have h2:Rd H a (.lst us):=h;rcases h2 with h2 | ⟨_,h2⟩ <;> rw[D] at h2 <;> cases h2⟩,h.keep λo e=>sm _ o e⟩))
 exact⟨L,ok.same sm,I,h1,km,J⟩
def jk(h:DAx X G H0 es F):DFx X G H0 (.List es pos) (gk F):=⟨(zux h.out).imp λσ H Q J=>by
 obtain⟨W,env,d,env',ok,q,k⟩:=J;cases e1:F env with
 |none=>simp[e1] at q |some r =>
   obtain⟨ds,z⟩:=r;by_cases D:ds.length<=64
   ·have q:some (ds,z)=some (d,env'):=by simpa[gk,e1,D] using q
    cases q;refine⟨W,env,_,_,ok,e1,λW1 vs H1 L I p1=>⟨by rw[<-p1.length];exact le64 D,λl R=>?_⟩⟩;obtain⟨h1,h2,S,U,V,Y⟩:=mq I p1 R;exact k W1 l vs _ (L.trans h1) h2 S U V Y
   ·simp[e1,D] at q⟩
def i7(h:DFx X G H0 e F):DEx X G H0 e (fLst F):=⟨h.out.imp λσ H Q R=>by
 obtain⟨W,env,d,env',ok,q,k⟩:=R;cases e1:F env with
 |none=>simp[e1] at q |some r =>
   have q:some (D.lst r.1,r.2)=some (d,env'):=by simpa[fLst,e1] using q
   cases q;refine⟨W,env,_,_,ok,e1,λW1 l vs H1 L I J S U V=>k W1 _ H1 ⟨L.keep,λa z=>L.ws a (.inl z)⟩ I (.lst ⟨I.good l (J.wl l (.inr rfl)).1,S⟩ (.inl U) (V.mono (λ_ _ h=>h) λa us o h=>⟨⟨o.1,λz=>o.2 (.inl z)⟩,h⟩))⟩⟩
def Cal(P:Program)(w:World)(K:dc)(mg:Str->b2)(base:Heap)(CX:CXT)(x:Str)(k:Nat)(sp:Sp):Prop :=
 ∃fa fd ps,FnOk P w K mg base CX k fa fd ps sp/\mg x=some (.ref fa)/\PySem.W.keepIn K (.ref fa)=true/\Binds K fd ps []/\(x==("__debug__" : Str))=false
def dSp(K:dc)(m:ei->el):Sp:=λvs H Q _=>∃O ds d,Reps K H O ds vs/\m ds=some d/\∀v H',Same H H'->Rep K H' (λa=>O a\/H a=none) d v->Q v H'
def fSp(K:dc)(m:ei->Option ei):Sp:=λvs H Q _=>∃O ds z,Reps K H O ds vs/\m ds=some z/\∀l us H',Same H H'->H l=none->H' l=some (.lst us)->Reps K H' (λa=>(O a\/H a=none)/\a≠l) z us->Q (.ref l) H'
@[simp] def en(m:ei->el)(F:FA):FE:=λe=>(F e).bind λr=>(m r.1).map λd=>(d,r.2)
@[simp] def gs(m:ei->Option ei)(F:FA):FA:=λe=>(F e).bind λr=>(m r.1).map λd=>(d,r.2)
variable{m:ei->el}{E:XK}
def zvm:∀σ H Q,tD X.K G H0 (en m F) σ H Q->ui (dSp X.K m) [] E (tDA X.K G H0 F) σ H Q:=λσ H Q J=>by
 obtain⟨W,env,d,env',ok,q,k⟩:=J;cases e1:F env with
 |none=>simp[e1] at q |some r =>
   obtain⟨ds,I⟩:=r;cases e2:m ds with
   |none=>simp[e1,e2] at q |some d' =>
     have q:some (d',I)=some (d,env'):=by simpa[en,e1,e2] using q
     cases q;refine⟨W,env,ds,_,ok,e1,λW1 vs H1 L D p1=>?_⟩;show dSp X.K m (vs++[]) H1 Q E;rw[ca];refine⟨Ow G W1,ds,_,p1,e2,λv H2 sm R=>?_⟩;refine k W1 v H2 (L.trans (Step.same sm)) (D.same sm) (R.mono (λ_ _ h=>h) λa us o h=>⟨?_,h⟩);rcases o with o |o
     ·exact o
     ·exact⟨D.good a (D.stay.free o),λz=>by obtain⟨_,us,q⟩:=D.wl a z;rw[o] at q;cases q⟩
def zsd{m:ei->Option ei}:∀σ H Q,tDF X.K G H0 (gs m F) σ H Q->ui (fSp X.K m) [] E (tDA X.K G H0 F) σ H Q:=λσ H Q L=>by
 obtain⟨W,env,d,env',ok,q,k⟩:=L;cases e1:F env with
 |none=>simp[e1] at q |some r =>
   obtain⟨ds,z⟩:=r;cases e2:m ds with
   |none=>simp[e1,e2] at q |some d' =>
     have q:some (d',z)=some (d,env'):=by simpa[gs,e1,e2] using q
     cases q;refine⟨W,env,ds,_,ok,e1,λW1 vs H1 R I p1=>?_⟩;show fSp X.K m (vs++[]) H1 Q E;rw[ca];refine⟨Ow G W1,ds,_,p1,e2,λl us H2 sm S J U=>?_⟩;obtain⟨h1,h2,V,Y,Z⟩:=I.fresh sm S J U;exact k W1 l us H2 (R.trans Z) (I.same sm) V h1 J Y
variable{jr:Nat}{p':Pos}
def il(c:Cal X.prog X.w X.K X.mg X.base CX0 x k (dSp X.K m))(I:Room jr X.A)(J:DAx X G H0 (e::es) F)(hkj:k<=jr:=by decide)(L:Gl X x:=by walk_at "g")(R:starEach (e::es) X.env=(false,eval e X.env)::starEach es X.env:=by rfl)(z:(backTo pos (starEach es X.env)).any (·.1)=false:=by rfl) :
  DEx X G H0 (.Call (.Name x p') (e::es) [] pos) (en m F):=let ⟨_,_,_,S,U,V,Y,D⟩:=c;⟨(yl S (I.mono hkj) L U V Y .nil xp J.out D R z).imp zvm⟩
variable{mF:ei->Option ei}
def znh(c:Cal X.prog X.w X.K X.mg X.base CX0 x k (fSp X.K mF))(I:Room jr X.A)(J:DAx X G H0 (e::es) F)(hkj:k<=jr:=by decide)(L:Gl X x:=by walk_at "g")(R:starEach (e::es) X.env=(false,eval e X.env)::starEach es X.env:=by rfl)(z:(backTo pos (starEach es X.env)).any (·.1)=false:=by rfl) :
  DFx X G H0 (.Call (.Name x p') (e::es) [] pos) (gs mF F):=let ⟨_,_,_,S,U,V,Y,D⟩:=c;⟨(yl S (I.mono hkj) L U V Y .nil xp J.out D R z).imp zsd⟩
def qf(X:Cx)(G:Gd)(H0:Hp)(r:ed->Hp->VK->Prop)(op:ei->el):Prop :=
 ∀W env σ H vs ds d (Q:VK),Ok X.K G H0 W env σ H->Reps X.K H (Ow G W) ds vs->op ds=some d ->
  (∀v H',Step W H W H'->Ok X.K G H0 W env σ H'->Rep X.K H' (Ow G W) d v->Q v H')->r vs H Q
def xy(X:Cx)(G:Gd)(H0:Hp)(r:ed->Hp->VK->Prop)(op:ei->Option ei):Prop :=
 ∀W env σ H vs ds rs (Q:VK),Ok X.K G H0 W env σ H->Reps X.K H (Ow G W) ds vs->op ds=some rs ->
  (∀l us H',Step W H (addW W l) H'->Ok X.K G H0 W env σ H'->Ok X.K G H0 (addW W l) env σ H'->¬W l->H' l=some (.lst us)->Reps X.K H' (Ow G (addW W l)) rs us->Q (.ref l) H')->r vs H Q
variable{r:ed->Hp->VK->Prop}
def zxm(hd:qf X G H0 r op):∀σ H Q,tD X.K G H0 (en op F) σ H Q->tCB r (tDA X.K G H0 F) σ H Q:=λσ H Q L=>by
 obtain⟨W,env,d,env',ok,q,k⟩:=L;cases e1:F env with
 |none=>simp[e1] at q |some z =>
   obtain⟨ds,D⟩:=z;cases e2:op ds with
   |none=>simp[e1,e2] at q |some d' =>
     have q:some (d',D)=some (d,env'):=by simpa[en,e1,e2] using q
     cases q;exact⟨W,env,ds,_,ok,e1,λW1 vs H1 R I p1=>hd W1 _ σ H1 vs ds _ Q I p1 e2 λv H2 s2 J p2=>k W1 v H2 (R.trans s2) J p2⟩
def zvn{op:ei->Option ei}(hd:xy X G H0 r op):∀σ H Q,tDF X.K G H0 (gs op F) σ H Q->tCB r (tDA X.K G H0 F) σ H Q:=λσ H Q S=>by
 obtain⟨W,env,d,env',ok,q,k⟩:=S;cases e1:F env with
 |none=>simp[e1] at q |some z =>
   obtain⟨ds,I⟩:=z;cases e2:op ds with
   |none=>simp[e1,e2] at q |some d' =>
     have q:some (d',I)=some (d,env'):=by simpa[gs,e1,e2] using q
     cases q;exact⟨W,env,ds,_,ok,e1,λW1 vs H1 U J p1=>hd W1 _ σ H1 vs ds _ Q J p1 e2 λl us H2 s2 L R V Y Z=>k W1 l us H2 (U.trans s2) L R V Y Z⟩
variable{id:String}
def u8(I:l3 X (.builtin id) r)(hd:qf X G H0 r op)(J:Gl X x)(L:X.mg x=none)(R:bootBuiltins x=some (.builtin id))(S:DAx X G H0 (e::es) F)(U:x ≠ "__name__":=by decide)(z:(x==("__debug__" : Str))=false:=by decide)(V:starEach (e::es) X.env=(false,eval e X.env)::starEach es X.env:=by rfl)(D:(backTo pos (starEach es X.env)).any (·.1)=false:=by rfl):DEx X G H0 (.Call (.Name x p') (e::es) [] pos) (en op F):=⟨(va I J L R S.out U z V D).imp (zxm hd)⟩
variable{T:String}{opF:ei->Option ei}
def zpf(I:l3 X (.type T) r)(hd:xy X G H0 r opF)(J:Gl X x)(L:X.mg x=none)(R:bootBuiltins x=some (.type T))(S:DAx X G H0 (e::es) F)(U:x ≠ "__name__":=by decide)(z:(x==("__debug__" : Str))=false:=by decide)(V:starEach (e::es) X.env=(false,eval e X.env)::starEach es X.env:=by rfl)(D:(backTo pos (starEach es X.env)).any (·.1)=false:=by rfl):DFx X G H0 (.Call (.Name x p') (e::es) [] pos) (gs opF F):=⟨(y0 I J L R S.out U z V D).imp (zvn hd)⟩
def m7(h:Reps K H O [d] vs):∃v,vs=[v]/\Rep K H O d v:=by
 cases h with |cons r t=>cases t;exact⟨_,rfl,r⟩
def xb{d':D}(h:Reps K H O [d,d'] vs):∃v z,vs=[v,z]/\Rep K H O d v/\Rep K H O d' z:=by
 cases h with |cons r t=>cases t with |cons r' t=>cases t;exact⟨_,_,rfl,r,r'⟩
@[simp] def bLen:ei->el | [.tup ds]=>some (.int ds.length) | [.lst ds]=>some (.int ds.length) |_=>none
def zvo:qf X G H0 (λxs H Q=>∃p ys,xs=[.ref p]/\(SqL X.K H p ys\/SqT X.K H p ys)/\Q (.int ys.length) H) bLen:=by
 intro W env σ H vs ds d Q ok r e k;unfold bLen at e;split at e
 ·rename_i ds
  cases e;obtain⟨v,rfl,z⟩:=m7 r;have r:=z;obtain⟨a,us,rfl,h,r⟩:=r.tup_;exact⟨a,us,rfl,.inr (SqT.of h),by rw[<-r.length];exact k _ H Step.refl ok (.int _)⟩
 ·rename_i ds
  cases e;obtain⟨v,rfl,z⟩:=m7 r;have r:=z;obtain⟨a,us,rfl,h,r⟩:=r.lst_;exact⟨a,us,rfl,.inl h.sq,by rw[<-r.length];exact k _ H Step.refl ok (.int _)⟩
 ·cases e
def zvp(D:DAx X G H0 [e] F)(z:Bn X "len":=by walk_at "b")(I:starEach [e] X.env=(false,eval e X.env)::starEach [] X.env:=by rfl):DEx X G H0 (.Call (.Name "len" p') [e] [] pos) (en bLen F) :=
 u8 zf9 zvo z.g z.m PySem.boot_len D (by decide) (by decide) I rfl
@[simp] def bMax:ei->el | [.int i,.int j]=>some (.int (if j > i then j else i)) |_=>none
@[simp] def bMin:ei->el | [.int i,.int j]=>some (.int (if j<i then j else i)) |_=>none
def zvq:qf X G H0 (λxs H Q=>∃i j,xs=[.int i,.int j]/\Q (.int (if j<i then j else i)) H) bMin:=by
 intro W env σ H vs ds d Q ok r e k;unfold bMin at e;split at e
 ·cases e
  obtain⟨v,I,rfl,z,D⟩:=xb r;have r:=z;exact⟨_,_,by rw[r.int_,D.int_],k _ H Step.refl ok (.int _)⟩
 ·cases e
def zvr(I:DAx X G H0 [a,b] F)(J:X.calm=true:=by rfl)(D:Bn X "min":=by walk_at "b")(L:starEach [a,b] X.env=(false,eval a X.env)::starEach [b] X.env:=by rfl)(z:(backTo pos (starEach [b] X.env)).any (·.1)=false:=by rfl):DEx X G H0 (.Call (.Name "min" p') [a,b] [] pos) (en bMin F) :=
 u8 (zm2 J) zvq D.g D.m boot_min I (by decide) (by decide) L z
def ints?:ei->Option cc
 | []=>some [] | .int i::r=>(ints? r).map (i::·)
 |_::_=>none
def qt:∀ {ds:ei} {ns:cc},ints? ds=some ns->ds=ns.map D.int
 | [],ns,h=>by cases h;rfl
 | .int i::r,ns,h=>by
   unfold ints? at h;cases q:ints? r with
   |none=>rw[q] at h;cases h
   |some ms=>rw[q] at h;cases h;rw[qt q];rfl
 | .str _::_,_,h=>by cases h
def ints_of(ns:cc):ints? (ns.map D.int)=some ns:=by
 induction ns with
 |nil=>rfl |cons n r ih=>show(ints? (r.map D.int)).map (n::·)=_;rw[ih];rfl
def qu{K:dc}{H:Hp}{O:Addr->Prop}:∀ {ns:cc} {vs:ed},Reps K H O (ns.map D.int) vs->vs=ns.map V.int
 | [],_,h=>by cases h;rfl
 |n::r,_,h=>by cases h with |cons a t=>rw[qu t,a.int_];rfl
def zi8(L:X.calm=true):l3 X (.builtin "sum") (λxs H Q=>∃p,∃ns:cc,xs=[.ref p]/\SqL X.K H p (ns.map V.int)/\Q (.int ns.sum) H):=by
 intro pins s σ H xs us Q I r h;obtain⟨p,ns,rfl,R,q⟩:=h;obtain⟨u,rfl,S⟩:=qb r;cases S;obtain⟨its,U,pl,a⟩:=I.list R;have hi:IntsAre its ns:=y3 U;have D:=pl.isList;obtain⟨xs,z⟩:=hi.allInts.items;rw[z] at D;refine sum_intListG (I.ok.hd L) D λh' tk t' Y=>⟨.int ns.sum,H,I.kept Y,⟨t',?_⟩,q⟩;have Z:numsOf its=ns:=hi.numsOf;have J:numsOf (intItems xs).toList=ns:=by rw[<-z];exact Z
 rw[nums_intItems] at J;rw[preSum_eq,g9 (by simp),J]
def bSum:ei->el | [.lst ds]=>(ints? ds).map λns=>.int ns.sum |_=>none
def zvs:qf X G H0 (λxs H Q=>∃p,∃ns:cc,xs=[.ref p]/\SqL X.K H p (ns.map V.int)/\Q (.int ns.sum) H) bSum:=by
 intro W env σ H vs ds d Q ok r e k;unfold bSum at e;split at e
 ·rename_i ds
  cases q:ints? ds with
  |none=>rw[q] at e;cases e
  |some ns =>
    rw[q] at e;cases e;obtain⟨v,rfl,z⟩:=m7 r;have r:=z;obtain⟨a,us,rfl,h,r⟩:=r.lst_;rw[qt q] at r;rw[qu r] at h;exact⟨a,ns,rfl,h.sq,k _ H Step.refl ok (.int _)⟩
 ·cases e
def uo(D:DAx X G H0 [e] F)(I:X.calm=true:=by rfl)(z:Bn X "sum":=by walk_at "b")(J:starEach [e] X.env=(false,eval e X.env)::starEach [] X.env:=by rfl):DEx X G H0 (.Call (.Name "sum" p') [e] [] pos) (en bSum F) :=
 u8 (zi8 I) zvs z.g z.m boot_sum D (by decide) (by decide) J rfl
@[simp] def n4:ei->Option ei | [.lst ds]=>some ds | [.tup ds]=>some ds |_=>none
def zsf:xy X G H0 (λxs H Q=>∃p ys,xs=[.ref p]/\(SqL X.K H p ys\/SqT X.K H p ys)/\∀l,H l=none->Q (.ref l) (upd H l (.lst ys))) n4:=by
 intro W env σ H vs ds S Q ok r e k;unfold n4 at e;split at e
 ·cases e
  obtain⟨v,rfl,z⟩:=m7 r;have r:=z;obtain⟨a,us,rfl,h,r⟩:=r.lst_;refine⟨a,us,rfl,.inl h.sq,λl D=>?_⟩;obtain⟨h1,h2,I,J,L,R⟩:=mq ok r D;exact k l us _ h1 h2 I J L R
 ·cases e
  obtain⟨v,rfl,z⟩:=m7 r;have r:=z;obtain⟨a,us,rfl,h,r⟩:=r.tup_;refine⟨a,us,rfl,.inr (SqT.of h),λl D=>?_⟩;obtain⟨h1,h2,I,J,L,R⟩:=mq ok r D;exact k l us _ h1 h2 I J L R
 ·cases e
def y2:bootBuiltins "list" = some (.type "list"):=by decide +kernel
def zsg(D:DAx X G H0 [e] F)(z:Bn X "list":=by walk_at "b")(I:starEach [e] X.env=(false,eval e X.env)::starEach [] X.env:=by rfl):DFx X G H0 (.Call (.Name "list" p') [e] [] pos) (gs n4 F) :=
 zpf ziw zsf z.g z.m y2 D (by decide) (by decide) I rfl
def Vals.of:∀ {xs:ed} {us:b0},xs.length=us.length->(∀(j:Nat) (x:V) (u:Value),xs[j]?=some x->us[j]?=some u->RelV x u)->Vals xs us
 | [],[],_,_=>.nil |x::xs,u::us,h,r=>.cons (r 0 x u rfl rfl) (Vals.of (kx h) λj y w z D=>r (j+1) y w (by simpa using z) (by simpa using D))
def zxn(ta:TA):TE:=λσ H Q=>ta σ H λvs H1=>∃j:Int,vs=[.int j]/\∀r,H1 r=none->Q (.ref r) (upd H1 r (.rng 0 j))
def zxo(ta:TA):TE:=λσ H Q=>ta σ H λvs H1=>∃i j:Int,vs=[.int i,.int j]/\∀r,H1 r=none->Q (.ref r) (upd H1 r (.rng i j))
variable{ta:TA}
def znj(z:Bn X "range")(J:PA X [a] ta)(L:starEach [a] X.env=[(false,eval a X.env)]:=by rfl):PE X (.Call (.Name "range" p') [a] [] pos) (zxn ta):=by
 intro pins s σ H Q I h;refine Call_ (nc I z.g z.m boot_range (d4 (thn (J pos pins s σ H _ I h) λus R S=>?_) L rfl));obtain⟨vs,H1,D,U,V⟩:=S;obtain⟨j,e,q⟩:=V;subst e;obtain⟨u,rfl,t,rfl⟩:=qb U;refine call_range_1 ?_;exact⟨.ref R.heap.objs.size,_,D.laid (o:=.rng 0 j) (λb Y q=>bc _ q) (bg _) (show ObjOk X.prog X.w _ _ _ (.rng 0 j) from⟨_,_,_,cb _ rfl⟩),rfl,q _ (D.hok.fresh (bg _))⟩
def znk(D:Bn X "range")(L:PA X [a,b] ta)(R:starEach [a,b] X.env=[(false,eval a X.env),(false,eval b X.env)]:=by rfl)(z:starEach [b] X.env=[(false,eval b X.env)]:=by rfl) :
  PE X (.Call (.Name "range" p') [a,b] [] pos) (zxo ta):=by
 intro pins s σ H Q I h;refine Call_ (nc I D.g D.m boot_range (d4 (thn (L pos pins s σ H _ I h) λus S U=>?_) (by rw[R,z]) (by rw[z];rfl)));obtain⟨vs,H1,J,V,Y⟩:=U;obtain⟨i,j,e,q⟩:=Y;subst e;obtain⟨u,Z,rfl,⟨t,rfl⟩,t',rfl⟩:=xm V;refine call_range_2 ?_;exact⟨.ref S.heap.objs.size,_,J.laid (o:=.rng i j) (λb c q=>bc _ q) (bg _) (show ObjOk X.prog X.w _ _ _ (.rng i j) from⟨_,_,_,cb _ rfl⟩),rfl,q _ (J.hok.fresh (bg _))⟩
def rngL(lo hi:Int):cc:=(List.range (hi-lo).toNat).map λ(k:Nat)=>lo+(k:Int)
def zb(lo hi:Int):(rngL lo hi).length=(hi-lo).toNat:=by simp[rngL]
theorem zga(S:X.calm=true):l3 X (.type "list") (λxs H Q=>∃r lo hi,xs=[.ref r]/\H r=some (.rng lo hi)/\(-(2 ^ 62)<=lo/\lo<2 ^ 62/\-(2 ^ 62)<=hi/\hi<2 ^ 62)/\(hi-lo).toNat<=2 ^ 20 /\
  ∀l,H l=none->Q (.ref l) (upd H l (.lst ((rngL lo hi).map V.int)))):=by
 intro pins s σ H xs us Q I r h;obtain⟨p,lo,hi,rfl,U,⟨Y,Z,b3,a⟩,R,q⟩:=h;obtain⟨u,rfl,b⟩:=qb r;cases b;obtain⟨t,u,v,c⟩:=(show ObjOk X.prog X.w H s.heap p (.rng lo hi) from I.hok p _ U);refine call_list_range (n:=(hi-lo).toNat) (I.ok.hd S) (show IsRange s.heap p lo hi 1 t u v from c) (small_one Y Z b3 a) (by rw[rangeSize_one];split <;> lia) (bh R (by decide)) λh' tk z d e f D=>?_;have g:Vals ((rngL lo hi).map V.int) z.toList:=by
  obtain⟨i,m⟩:=D;refine Vals.of (by rw[ac,zb,ft,i]) λj x u J o=>?_;obtain⟨t,rfl⟩:=m j u (by simpa using o);rw[bv,rngL,bv] at J;cases q:(List.range (hi-lo).toNat)[j]? with
  |none=>rw[q] at J;cases J
  |some k =>
    rw[q] at J;have L:k=j:=by
     rw[ir] at q
     ·exact(az q).symm
     ·have:=(am.mp q).1;simpa using this
    cases J;exact⟨t,by rw[L,Int.mul_one]⟩
 exact⟨.ref s.heap.objs.size,_,I.laid e (bg _) (show ObjOk X.prog X.w _ h' _ (.lst _) from⟨by rw[ac,zb];exact bh R (by rw[sizeLine_eq];decide),z.toList,d,g,f⟩),rfl,q _ (I.hok.fresh (bg _))⟩
def xa(ds:ei):Option ei:=match ds with
 | [.int j]=>if Bnd (-(2 ^ 62)) (2 ^ 20+1) j then some ((rngL 0 j).map D.int) else none
 |_=>none
def qe(ds:ei):Option ei:=match ds with
 | [.int i,.int j]=>if Bnd (-(2 ^ 20)) (2 ^ 20+1) i/\Bnd (-(2 ^ 62)) (2 ^ 62) j/\Bnd (-(2 ^ 63)) (2 ^ 20+1) (j-i) then some ((rngL i j).map D.int) else none
 |_=>none
def vf{K:dc}{H:Hp}{O:Addr->Prop}:∀(ns:cc),Reps K H O (ns.map D.int) (ns.map V.int)
 | []=>.nil |n::r=>.cons (.int n) (vf r)
variable{lo:Int}
def zg0{hi:Int}(ok:Ok X.K G H0 W env σ H)(L:(-(2 ^ 62)<=lo/\lo<2 ^ 62/\-(2 ^ 62)<=hi/\hi<2 ^ 62))(R:(hi-lo).toNat<=2 ^ 20)(k:∀l us H',Step W H (addW W l) H'->Ok X.K G H0 W env σ H'->Ok X.K G H0 (addW W l) env σ H'->¬W l->H' l=some (.lst us)->Reps X.K H' (Ow G (addW W l)) ((rngL lo hi).map D.int) us->Q (.ref l) H')(r:Addr)(S:H r=none):∃J z I,[V.ref r]=[.ref J]/\(upd H r (.rng lo hi)) J=some (.rng z I)/\(-(2 ^ 62)<=z/\z<2 ^ 62/\-(2 ^ 62)<=I/\I<2 ^ 62)/\(I-z).toNat<=2 ^ 20 /\
   ∀l,upd H r (.rng lo hi) l=none->Q (.ref l) (upd (upd H r (.rng lo hi)) l (.lst ((rngL z I).map V.int))):=by
 refine⟨r,lo,hi,rfl,km,L,R,λl U=>?_⟩;have sm:Same H (upd H r (.rng lo hi)):=si S;obtain⟨h1,h2,Y,Z,a,b⟩:=mq (ok.same sm) (vf (rngL lo hi)) U;exact k l _ _ ((Step.same sm).trans h1) h2 Y Z a b
variable{p1 pos1:Pos}
theorem zsi(Y:DAx X G H0 [a] F)(Z:X.calm=true:=by rfl)(U:Bn X "list":=by walk_at "b")(I:Bn X "range":=by walk_at "b")(b:starEach [a] X.env=[(false,eval a X.env)]:=by rfl)(V:starEach [.Call (.Name "range" p1) [a] [] pos1] X.env=(false,eval (.Call (.Name "range" p1) [a] [] pos1) X.env)::starEach [] X.env:=by rfl) :
  DFx X G H0 (.Call (.Name "list" p') [.Call (.Name "range" p1) [a] [] pos1] [] pos) (gs xa F) :=
 ⟨(y0 (zga Z) U.g U.m y2 (lf (znj I Y.out b) ma V) (by decide) (by decide) V rfl).imp λσ H Q c=>by
  obtain⟨W,env,d,env',ok,q,k⟩:=c;cases e1:F env with
  |none=>simp[e1] at q |some z =>
    obtain⟨ds,D⟩:=z;cases e2:xa ds with
    |none=>simp[e1,e2] at q |some d' =>
      have q:some (d',D)=some (d,env'):=by simpa[gs,e1,e2] using q
      cases q;refine⟨W,env,ds,_,ok,e1,λW1 vs H1 e J p1=>?_⟩;unfold xa at e2;split at e2
      ·rename_i j
       split at e2
       ·rename_i L
        cases e2;obtain⟨v,rfl,f⟩:=m7 p1;cases f;exact⟨j,rfl,λr h=>zg0 J ⟨by lia,by lia,L.1,by have:=L.2;lia⟩ (by have:=L.2;lia) (λl us H2 s2 R S i n o=>k W1 l us H2 (e.trans s2) R S i n o) r h⟩
       ·cases e2
      ·cases e2⟩
theorem zj3(Z:DAx X G H0 [a,b] F)(c:X.calm=true:=by rfl)(V:Bn X "list":=by walk_at "b")(J:Bn X "range":=by walk_at "b")(e:starEach [a,b] X.env=[(false,eval a X.env),(false,eval b X.env)]:=by rfl)(L:starEach [b] X.env=[(false,eval b X.env)]:=by rfl)(Y:starEach [.Call (.Name "range" p1) [a,b] [] pos1] X.env=(false,eval (.Call (.Name "range" p1) [a,b] [] pos1) X.env)::starEach [] X.env:=by rfl) :
  DFx X G H0 (.Call (.Name "list" p') [.Call (.Name "range" p1) [a,b] [] pos1] [] pos) (gs qe F) :=
 ⟨(y0 (zga c) V.g V.m y2 (lf (znk J Z.out e L) ma Y) (by decide) (by decide) Y rfl).imp λσ H Q f=>by
  obtain⟨W,env,d,env',ok,q,k⟩:=f;cases e1:F env with
  |none=>simp[e1] at q |some z =>
    obtain⟨ds,D⟩:=z;cases e2:qe ds with
    |none=>simp[e1,e2] at q |some d' =>
      have q:some (d',D)=some (d,env'):=by simpa[gs,e1,e2] using q
      cases q;refine⟨W,env,ds,_,ok,e1,λW1 vs H1 h R p1=>?_⟩;unfold qe at e2;split at e2
      ·rename_i i j
       split at e2
       ·rename_i I
        cases e2;obtain⟨v,w,rfl,n,o⟩:=xb p1;cases n;cases o;exact⟨i,j,rfl,λr p=>zg0 R ⟨by have:=I.1.1;lia,by have:=I.1.2;lia,I.2.1.1,I.2.1.2⟩ (by have:=I.2.2.2;lia) (λl us H2 s2 S U s t u=>k W1 l us H2 (h.trans s2) S U s t u) r p⟩
       ·cases e2
      ·cases e2⟩
abbrev FO:=DE0->Option (da×DE0)
def tDO(K:dc)(G:Gd)(H0:Hp)(f:FO):TO:=λσ H Q=>DP K G H0 f (λW env o env'=> ∀W' H',Step W H W' H'->Ok K G H0 W' env' σ H'->Q o H') σ H
structure DOx (X:Cx) (G:Gd) (H0:Hp) (e:Option Expr) (f:FO):Prop where
 out:PO X e (tDO X.K G H0 f)
variable{t':TI}
def PO.imp{e:Option Expr}{t t':TO}(h:PO X e t)(i:∀σ H Q,t' σ H Q->t σ H Q):PO X e t':=λpins s σ H Q I q=>h pins s σ H Q I (i σ H Q q)
@[simp] def fO0:FO:=λe=>some (none,e)
@[simp] def fO1(f:FE):FO:=λe=>(f e).bind λr=>match r.1 with | .int i=>some (some i,r.2) |_=>none
def uy  : DOx X G H0 none fO0:=⟨zr0.imp λσ H Q ⟨W,env,o,env',ok,q,k⟩=>by cases q;exact k W H Step.refl ok⟩
def ux(h:DEx X G H0 e f):DOx X G H0 (some e) (fO1 f):=⟨(zr1 h.out).imp λσ H Q I=>by
 obtain⟨W,env,o,env',ok,q,k⟩:=I;cases e1:f env with
 |none=>simp[e1] at q |some r =>
   obtain⟨d,z⟩:=r;cases d with
   |int i =>
     have q:some (some i,z)=some (o,env'):=by simpa[fO1,e1] using q
     cases q;exact⟨W,env,_,_,ok,e1,λW1 L H1 J D p1=>⟨i,p1.int_,k W1 H1 J D⟩⟩
   |_=>simp[e1] at q⟩
def cutD(xs:ei)(lo hi:da):ei:=(xs.drop (HT.sIx xs.length 0 lo)).take (HT.sIx xs.length xs.length hi-HT.sIx xs.length 0 lo)
def Reps.cut(r:Reps K H O ds vs)(lo hi:da):Reps K H O (cutD ds lo hi) (cutV vs lo hi):=by
 unfold cutD cutV;rw[r.length];exact(r.drop _).take _
@[simp] def fSl(f:FE)(l h:FO):FA:=λe=>(f e).bind λr=>(l r.2).bind λz=>(h z.2).bind λD=>match r.1 with | .lst ds=>some (cutD ds z.1 D.1,D.2) |_=>none
def uc{lo hi:Option Expr}{fl L:FO}{sp:Pos}(Z:DEx X G H0 a f)(b:DOx X G H0 lo fl)(c:DOx X G H0 hi L) :
  DFx X G H0 (.Subscript a (.Slice lo hi none sp) pos) (fSl f fl L):=⟨(zo7 zr4 Z.out b.out c.out).imp λσ H Q e=>by
 obtain⟨W,env,d,env',ok,q,k⟩:=e;cases e1:f env with
 |none=>simp[e1] at q |some r =>
   obtain⟨g,z⟩:=r;cases e2:fl z with
   |none=>simp[e1,e2] at q |some r2 =>
     obtain⟨U,D⟩:=r2;cases e3:L D with
     |none=>simp[e1,e2,e3] at q |some r3 =>
       obtain⟨V,I⟩:=r3;cases g with
       |lst ds =>
         have q:some (cutD ds U V,I)=some (d,env'):=by simpa[fSl,e1,e2,e3] using q
         cases q;refine⟨W,env,_,_,ok,e1,λW1 v H1 i J p1=>⟨W1,z,_,_,J,e2,λj H2 s2 R=>⟨j,D,_,_,R,e3,λm w Y S=>?_⟩⟩⟩;obtain⟨l,us,rfl,h,r⟩:=(J.rep (s2.trans Y) p1).lst_;refine⟨l,us,rfl,h.sq,λn o=>?_⟩;obtain⟨h1,h2,p,s,t,u⟩:=mq S (r.cut U V) o;exact k m n _ _ (((i.trans s2).trans Y).trans h1) h2 p s t u
       |_=>simp[e1,e2,e3] at q⟩
def zxp(K:dc):R2:=λx y H Q=>∃l b xs z,x=.ref l/\y=.ref b/\SqL K H l xs/\SqL K H b z/\xs.length+z.length<=sizeLine/\∀p,H p=none->Q (.ref p) (upd H p (.lst (xs++z)))
theorem zsj:OpR X (binaryOp .Add) (zxp X.K):=by
 intro pins s σ H x y v u Q I c d h;obtain⟨l,b,xs,p,rfl,rfl,e,f,t,q⟩:=h;cases c;cases d;obtain⟨its,r,⟨⟨cls,w,data,g⟩,n,Y,i,R,hd⟩,z⟩:=I.list e;obtain⟨D,Z,⟨⟨a,j,data2,S⟩,k,J,U,L,V⟩,A⟩:=I.list f;subst i hd U V R L;have B:=r.length;have m:=Z.length;refine concat_meets ⟨_,Y,rfl⟩ ⟨_,J,rfl⟩ noFill_list_add seq_list_add PySem.F.slot_list_add PySem.F.entry_list_add (PySem.F.args_list_add_2 _ _) (list_addW l b its.toArray D.toArray n k none none g S (by simp;lia)) ⟨Y,J,?_⟩;have o:its.toArray++D.toArray=(its++D).toArray:=by simp
 rw[o];exact⟨.ref _,_,I.lnew (t':=s.toks) (r.append Z) (by rw[aj];lia),rfl,q _ I.fresh⟩
@[simp] def fCat(f g:FE):FA:=λe=>(f e).bind λr=>(g r.2).bind λq=>match r.1,q.1 with | .lst ds,.lst es=>if Few (ds.length+es.length) then some (ds++es,q.2) else none |_,_=>none
def um(U:DEx X G H0 a f)(V:DEx X G H0 b g):DFx X G H0 (.BinOp a .Add b pos) (fCat f g):=⟨(xn zsj U.out V.out).imp λσ H Q Y=>by
 obtain⟨W,env,d,env',ok,q,k⟩:=Y;cases e1:f env with
 |none=>simp[e1] at q |some r =>
   obtain⟨Z,z⟩:=r;cases e2:g z with
   |none=>simp[e1,e2] at q |some r2 =>
     obtain⟨c,D⟩:=r2;cases Z with
     |lst ds =>
       cases c with
       |lst es =>
         by_cases J:Few (ds.length+es.length)
         ·have q:some (ds++es,D)=some (d,env'):=by simpa only[fCat,e1,e2,ab,if_pos J] using q
          cases q;refine⟨W,env,_,_,ok,e1,λW1 u H1 e I p1=>⟨W1,z,_,_,I,e2,λi v2 H2 s2 L p2=>?_⟩⟩;obtain⟨l,us,rfl,h,r⟩:=(I.rep s2 p1).lst_;obtain⟨j,R,rfl,h',S⟩:=p2.lst_;refine⟨l,j,us,R,rfl,rfl,h.sq,h'.sq,?_,λn m=>?_⟩
          ·rw[<-r.length,<-S.length];exact bh J (by rw[sizeLine_eq];decide)
          ·obtain⟨h1,h2,o,p,s,t⟩:=mq L (r.append S) m
           exact k i n _ _ ((e.trans s2).trans h1) h2 o p s t
         ·simp only[fCat,e1,e2,ab,if_neg J] at q;cases q
       |_=>simp[e1,e2] at q
     |_=>simp[e1,e2] at q⟩
@[simp] def gw(i:Nat):FE:=λe=>match e[i]? with
 |some (some (.ow ds))=>some (.int ds.length,e) |some (some (.sh (.lst ds)))=>some (.int ds.length,e) |some (some (.sh (.tup ds)))=>some (.int ds.length,e) |_=>none
def je(an:Ats Nn Cn X)(J:Bn X "len":=by walk_at "b")(I:Nn[i]?=some x:=by rfl)(L:starEach [.Name x p1] X.env=(false,eval (.Name x p1) X.env)::starEach [] X.env:=by rfl):DEx X G H0 (.Call (.Name "len" p') [.Name x p1] [] pos) (gw i) :=
 ⟨(va zf9 J.g J.m PySem.boot_len (lf ((an.a I).pe) ma L) (by decide) (by decide) L rfl).imp λσ H Q R=>by
  obtain⟨W,env,d,env',ok,q,k⟩:=R;unfold gw at q;split at q
  ·rename_i ds z
   cases q;obtain⟨v,D,l,vs,rfl,U,S,r⟩:=ok.slot i _ z;exact⟨_,D,l,vs,rfl,.inl (.inl (.inl S)),by rw[<-r.length];exact k W _ H Step.refl ok (.int _)⟩
  ·rename_i ds z
   cases q;obtain⟨v,D,r⟩:=ok.slot i _ z;obtain⟨l,us,rfl,h,r⟩:=Rep.lst_ r;exact⟨_,D,l,us,rfl,.inl h.sq,by rw[<-r.length];exact k W _ H Step.refl ok (.int _)⟩
  ·rename_i ds z
   cases q;obtain⟨v,D,r⟩:=ok.slot i _ z;obtain⟨l,us,rfl,h,r⟩:=Rep.tup_ r;exact⟨_,D,l,us,rfl,.inr (SqT.of h),by rw[<-r.length];exact k W _ H Step.refl ok (.int _)⟩
  ·cases q⟩
@[simp] def ixSl:D->Option ep->el
 | .int k,some (some (.ow ds))=>atI ds k | .int k,some (some (.sh (.lst ds)))=>atI ds k | .int k,some (some (.sh (.tup ds)))=>atI ds k |_,_=>none
@[simp] def fIxV(i:Nat)(g:FE):FE:=λe=>match e[i]? with
 |some (some _)=>(g e).bind λr=>(ixSl r.1 r.2[i]?).map λd=>(d,r.2)
 |_=>none
def f7(e:DEx X G H0 b g)(an:Ats Nn Cn X)(f:sf b:=by intro _ _;rfl)(U:Nn[i]?=some x:=by rfl):DEx X G H0 (.Subscript (.Name x p1) b pos) (fIxV i g) :=
 ⟨(xq yb ((an.a U).pe) e.out f).imp λσ H Q j=>by
  obtain⟨W,env,d,env',ok,q,k⟩:=j;unfold fIxV at q;split at q;case h_2=>cases q
  rename_i n V;obtain⟨v,S,_⟩:=ok.slot i _ V;cases e1:g env with
  |none=>rw[e1] at q;cases q
  |some r =>
    obtain⟨Z,I⟩:=r;rw[e1,ab] at q;cases e3:ixSl Z I[i]? with
    |none=>rw[e3] at q;cases q
    |some d' =>
      rw[e3] at q;cases q;refine⟨v,S,W,env,Z,_,ok,e1,λW1 o H1 Y z p1=>?_⟩;unfold ixSl at e3;split at e3
      ·rename_i kk ds J
       obtain⟨c,D,l,vs,rfl,p,m,r⟩:=z.slot i _ J;rw[S] at D;cases D;obtain⟨u,L,R⟩:=se r e3;exact .inl ⟨l,vs,kk,u,rfl,p1.int_,.inl (.inl m),L,k W1 _ H1 Y z R⟩
      ·rename_i kk ds J
       obtain⟨c,D,r⟩:=z.slot i _ J;rw[S] at D;cases D;obtain⟨l,us,rfl,h,r⟩:=Rep.lst_ r;obtain⟨u,L,R⟩:=se r e3;exact .inl ⟨l,us,kk,u,rfl,p1.int_,h.sq,L,k W1 _ H1 Y z R⟩
      ·rename_i kk ds J
       obtain⟨c,D,r⟩:=z.slot i _ J;rw[S] at D;cases D;obtain⟨l,us,rfl,h,r⟩:=Rep.tup_ r;obtain⟨u,L,R⟩:=se r e3;exact .inr (.inl ⟨l,us,kk,u,rfl,p1.int_,SqT.of h,L,k W1 _ H1 Y z R⟩)
      ·cases e3⟩
@[simp] def tyD:D->String | .non=>"NoneType" | .bl _=>"bool" | .int _=>"int" | .str _=>"str" | .tup _=>"tuple" | .lst _=>"list" | .dct _ _=>"dict" | .exc _=>"exc"
@[simp] def isiT(t T:String):Bool:=t==T || (t=="bool" && T=="int")
def xw(T:String):Bool:=T=="int" || T=="bool" || T=="str" || T=="tuple" || T=="list"
def zph(K:dc)(d:D)(T:String)(h:xw T=true)(hd:∀a,d≠.exc a):PySem.W.kitOne K (.type (tyD d)) (.type T)=some (isiT (tyD d) T):=by
 simp only[xw,Bool.or_eq_true,beq_iff_eq] at h;rcases h with(((rfl |rfl) |rfl) |rfl) |rfl <;> cases d <;> first |rfl |exact absurd rfl (hd _)
def zpi:l3 X (.builtin "isinstance") (λxs H Q=>∃x T t b,xs=[x,.ty T]/\(TyOf X.K H x t\/(t=.type "list"/\∃a us,x=.ref a/\SqL X.K H a us))/\PySem.W.kitOne X.K t (.type T)=some b/\Q (.bl b) H):=by
 intro pins s σ H xs us Q I r h;obtain⟨x,T,t,b,rfl,D,e,q⟩:=h;obtain⟨u,L,rfl,J,rt⟩:=xm r;cases (show L=Value.type T from rt);rcases D with D | ⟨rfl,a,ws,rfl,hq⟩
 ·exact zm4 I J D e λtk=>⟨.bl b,H,I.tok tk,rfl,q⟩
 ·cases (show u=Value.ref a from J)
  obtain⟨its,_,⟨o,n,h1,h2,_⟩,_⟩:=I.list hq;exact df kw I.kIn ⟨o,h1,h2⟩ e (λz=>nomatch z) λtk=>⟨.bl b,H,I.tok tk,rfl,q⟩
def zvt(r:Rep K H O d v)(hd:∀a,d≠.exc a):TyOf K H v (.type (tyD d))\/(Value.type (tyD d)=.type "list"/\∃a us,v=.ref a/\SqL K H a us):=by
 cases r with
 |non=>exact .inl .non |bl b=>exact .inl (.bl b) |int i=>exact .inl (.int i)
 |str s=>exact .inl (.str s) |tup h _=>exact .inl (.tup h) |lst o h _=>exact .inr ⟨rfl,_,_,rfl,.inl h⟩ |klst h _=>exact .inr ⟨rfl,_,_,rfl,.inr h⟩ |dct h _=>exact .inl (.dK h) |exc a=>exact absurd rfl (hd a)
def zpj:bootBuiltins "isinstance" = some (.builtin "isinstance"):=by decide +kernel
@[simp] def fIsi(T:String)(f:FE):FE:=λe=>(f e).bind λr=>match r.1 with | .exc _=>none |d=>some (.bl (isiT (tyD d) T),r.2)
structure Ty (x:Str) (T:String):Prop where
 b:bootBuiltins x=some (.type T)
 k:xw T=true
 d:(x==("__debug__" : Str))=false
 n:x ≠ "__name__"
def oj(z:Ty x T)(V:DEx X G H0 a f)(S:Bn X "isinstance":=by walk_at "b")(D:Gl X x:=by walk_at "g")(I:X.mg x=none:=by assumption)(U:starEach [a,.Name x p1] X.env=(false,eval a X.env)::starEach [.Name x p1] X.env:=by rfl)(J:starEach [.Name x p1] X.env=(false,eval (.Name x p1) X.env)::starEach [] X.env:=by rfl)(L:(backTo pos (starEach [.Name x p1] X.env)).any (·.1)=false:=by rfl) :
  DEx X G H0 (.Call (.Name "isinstance" p') [a,.Name x p1] [] pos) (fIsi T f) :=
 ⟨(va zpi S.g S.m zpj (lf V.out (lf (zrj (v:=.ty T) D I z.b rfl z.n z.d) ma J) U) (by decide) (by decide) U L).imp λσ H Q Y=>by
  obtain⟨W,env,d,env',ok,q,k⟩:=Y;cases e1:f env with
  |none=>simp[e1] at q |some r =>
    unfold fIsi at q;rw[e1,ab] at q;split at q
    ·cases q
    ·rename_i hd
     cases q;exact⟨W,env,_,_,ok,e1,λW1 Z H1 c R p1=>⟨Z,T,_,_,rfl,zvt p1 hd,zph X.K _ T z.k hd,k W1 _ H1 c R (.bl _)⟩⟩⟩
abbrev FI:=DE0->Option (ei×DE0)
structure Walk (K:dc) (G:Gd) (J:It) (W:Addr->Prop) (H:Hp) (ds:ei):Prop where
 go:∀W' H' (i:Nat) d,Step W H W' H'->ds[i]?=some d->J.go i H'/\∀x H'',J.yld i H' x H''->H''=H'/\Rep K H' (Ow G W') d x
 stop:∀W' H',Step W H W' H'->J.stop ds.length H'
def tDI(K:dc)(G:Gd)(H0:Hp)(f:FI):TI:=λσ H R=>DP K G H0 f (λW env ds env' =>
 ∀W' J H',Step W H W' H'->Ok K G H0 W' env' σ H'->Walk K G J W' H' ds->R J H') σ H
structure DIC (Cm:Cx->Prop) (X:Cx) (G:Gd) (H0:Hp) (tg:Expr) (e:Expr) (f:FI):Prop where
 out:PIC Cm X tg e (tDI X.K G H0 f)
abbrev DIx:=DIC λX=>X.calm=true
variable{tg:Expr}
def PI.imp(h:PI X tg e t)(i:∀σ H Q,t' σ H Q->t σ H Q):PI X tg e t':=λpins s σ H Q I q=>h pins s σ H Q I (i σ H Q q)
def PIC.imp(h:PIC Cm X tg e t)(i:∀σ H Q,t' σ H Q->t σ H Q):PIC Cm X tg e t':=λpins s σ H Q I q=>h pins s σ H Q I (i σ H Q q)
def znm{a:Addr}(ok:Ok X.K G H0 W env σ H)(h:LsOk X.K H (Ow G W) a vs)(r:Reps X.K H (Ow G W) ds vs):Walk X.K G (Itl X.K a) W H ds where
 go:=λW' H' i d st e=>by
  obtain⟨v,z,D⟩:=(ok.reps st r).get e;have h':=(ok.lsstep st h).sq;exact⟨⟨vs,v,h',z⟩,λx H'' ⟨e2,y⟩=>⟨e2,by have:=y vs h';rw[z] at this;cases this;exact D⟩⟩
 stop:=λW' H' st=>⟨vs,(ok.lsstep st h).sq,by rw[r.length];exact bg _⟩
def zpk{a:Addr}(ok:Ok X.K G H0 W env σ H)(h:H a=some (.tup vs))(r:Reps X.K H (Ow G W) ds vs):Walk X.K G (Itt X.K a) W H ds where
 go:=λW' H' i d st e=>by
  obtain⟨v,z,D⟩:=(ok.reps st r).get e;have h':=ok.tstep st a vs h;exact⟨⟨vs,v,SqT.of h',z⟩,λx H'' ⟨e2,y⟩=>⟨e2,by have:=y vs (SqT.of h');rw[z] at this;cases this;exact D⟩⟩
 stop:=λW' H' st=>⟨vs,SqT.of (ok.tstep st a vs h),by rw[r.length];exact bg _⟩
def zkz:Walk X.K G (Itr lo n) W H ((List.range n).map λ(k:Nat)=>D.int (lo+(k:Int))) where
 go:=λW' H' i d st e=>by
  rw[bv] at e;have hi:i<n:=by
   have:=(am.mp (show((List.range n).map λ(k:Nat)=>D.int (lo+(k:Int)))[i]?=some d by rw[bv];exact e)).1;simpa using this
  rw[ir hi] at e;cases e;exact⟨hi,λx H'' ⟨e2,y⟩=>⟨e2,by rw[y];exact .int _⟩⟩
 stop:=λW' H' st=>by rw[ac,h9];exact bg _
@[simp] def fiS(f:FE):FI:=λe=>(f e).bind λr=>match r.1 with | .lst ds=>some (ds,r.2) | .tup ds=>some (ds,r.2) |_=>none
def PI.or(h:PI X tg e t)(h':PI X tg e t'):PI X tg e (λσ H R=>t σ H R\/t' σ H R):=λpins s σ H R I q=>q.elim (h pins s σ H R I) (h' pins s σ H R I)
def ke(h:DEx X G H0 e f):DIx X G H0 tg e (fiS f):=⟨((zrq h.out).or (zum h.out)).imp λσ H R J=>by
 obtain⟨W,env,ds,env',ok,q,k⟩:=J;cases e1:f env with
 |none=>simp[e1] at q |some r =>
   obtain⟨d,D⟩:=r;cases d with
   |lst ds' =>
     have q:some (ds',D)=some (ds,env'):=by simpa[fiS,e1] using q
     cases q;refine .inl ⟨W,env,_,_,ok,e1,λW1 L H1 I z p1=>?_⟩;obtain⟨a,vs,rfl,h.out,r⟩:=p1.lst_;exact⟨a,rfl,⟨vs,h.out.sq⟩,k W1 _ H1 I z (znm z h.out r)⟩
   |tup ds' =>
     have q:some (ds',D)=some (ds,env'):=by simpa[fiS,e1] using q
     cases q;refine .inr ⟨W,env,_,_,ok,e1,λW1 L H1 I z p1=>?_⟩;obtain⟨a,vs,rfl,h.out,r⟩:=p1.tup_;exact⟨a,rfl,⟨vs,SqT.of h.out⟩,k W1 _ H1 I z (zpk z h.out r)⟩
   |_=>simp[e1] at q⟩
def rngD(lo:Int)(n:Nat):ei:=(List.range n).map λ(k:Nat)=>D.int (lo+(k:Int))
def iR1(ds:ei):Option ei:=match ds with | [.int j]=>if Bnd (-(2 ^ 62)) (2 ^ 62) j then some (rngD 0 j.toNat) else none |_=>none
def iR2(ds:ei):Option ei:=match ds with | [.int i,.int j]=>if Bnd (-(2 ^ 62)) (2 ^ 62) i/\Bnd (-(2 ^ 62)) (2 ^ 62) j then some (rngD i (j-i).toNat) else none |_=>none
def zl5(hT:∀(it:Addr) (lo:Int) (n:Nat),qc Cm X.prog X.w X.K tg (Itr lo n) [it] it (λi h=>IsRangeIter h it (lo+(i:Nat)*1) ((n:Int)-(i:Nat)) 1))(S:DAx X G H0 [a] F)(J:Bn X "range":=by walk_at "b")(U:starEach [a] X.env=[(false,eval a X.env)]:=by rfl):DIC Cm X G H0 tg (.Call (.Name "range" p') [a] [] pos) (gs iR1 F) :=
 ⟨PIC.imp (zlv hT J.g J.m S.out U) λσ H R V=>by
  obtain⟨W,env,ds,env',ok,q,k⟩:=V;cases e1:F env with
  |none=>simp[e1] at q |some z =>
    obtain⟨as,D⟩:=z;cases e2:iR1 as with
    |none=>simp[e1,e2] at q |some d' =>
      have q:some (d',D)=some (ds,env'):=by simpa[gs,e1,e2] using q
      cases q;refine⟨W,env,as,_,ok,e1,λW1 vs H1 Y I p1=>?_⟩;unfold iR1 at e2;split at e2
      ·rename_i j
       split at e2
       ·rename_i L
        cases e2;obtain⟨v,rfl,Z⟩:=m7 p1;cases Z;exact⟨j,rfl,L.1,L.2,k W1 _ H1 Y I zkz⟩
       ·cases e2
      ·cases e2⟩
def nt(z:DAx X G H0 [a] F)(D:Bn X "range":=by walk_at "b")(I:starEach [a] X.env=[(false,eval a X.env)]:=by rfl):DIx X G H0 tg (.Call (.Name "range" p') [a] [] pos) (gs iR1 F):=zl5 (λit lo n=>zhq it lo n) z D I
def znn(U:DAx X G H0 [a,b] F)(S:Bn X "range":=by walk_at "b")(V:starEach [a,b] X.env=[(false,eval a X.env),(false,eval b X.env)]:=by rfl)(J:starEach [b] X.env=[(false,eval b X.env)]:=by rfl) :
  DIx X G H0 tg (.Call (.Name "range" p') [a,b] [] pos) (gs iR2 F) :=
 ⟨(zmx S.g S.m U.out V J).imp λσ H R Y=>by
  obtain⟨W,env,ds,env',ok,q,k⟩:=Y;cases e1:F env with
  |none=>simp[e1] at q |some z =>
    obtain⟨as,D⟩:=z;cases e2:iR2 as with
    |none=>simp[e1,e2] at q |some d' =>
      have q:some (d',D)=some (ds,env'):=by simpa[gs,e1,e2] using q
      cases q;refine⟨W,env,as,_,ok,e1,λW1 vs H1 Z L p1=>?_⟩;unfold iR2 at e2;split at e2
      ·rename_i i j
       split at e2
       ·rename_i I
        cases e2;obtain⟨v,e,rfl,c,d⟩:=xb p1;cases c;cases d;exact⟨i,j,rfl,⟨I.1.1,I.1.2,I.2.1,I.2.2⟩,k W1 _ H1 Z L zkz⟩
       ·cases e2
      ·cases e2⟩
def capt:ep->ep |some (.sh d)=>some (.sh d) |_=>none
def jy(tt:FT)(te:FE)(base:DE0):ei->Option ei
 | []=>some [] |d::r=>(tt (some (.sh d)::base)).bind λb=>if b.1=true then(te b.2).bind λv=>(jy tt te base r).map (v.1::·) else jy tt te base r
def iq(fi:FI)(ix:b5)(tt:FT)(te:FE):FA:=λe=>(fi e).bind λr=>if Few r.1.length then(jy tt te (ix.map λj=>capt (r.2.getD j none)) r.1).map λds=>(ds,r.2) else none
@[simp] def fYes:FT:=λe=>some (true,e)
def tDxT(K:dc)(f:FT):TT:=λσ H Q=>∃G H0,tDT K G H0 f σ H Q
def tDx(K:dc)(f:FE):TE:=λσ H Q=>∃G H0,tD K G H0 f σ H Q
def NoW:Addr->Prop:=λ_=>False
def yv(ok:Ok X.K G H0 W env σ H)(r:Rep X.K H (Ow G W) d v) :
  Ok X.K (gd λa=>Ow G W a\/H a=none) H NoW (some (.sh d)::ix.map λj=>capt (env.getD j none)) (some v::ix.map λj=>σ.getD j none) H:=by
 have L:∀ {d:D} {v:V},Rep X.K H (Ow G W) d v->Rep X.K H (Ow (gd λa=>Ow G W a\/H a=none) NoW) d v:=λr=>r.mono (λ_ _ h=>h) λa us o h=>⟨⟨.inl o,λz=>z⟩,h⟩;have I:∀(i:Nat) (s:Sl),(some (Sl.sh d)::ix.map λj=>capt (env.getD j none))[i]?=some (some s)->∃d',s=.sh d':=λi s z=>by
  cases i with
  |zero=>exact⟨d,by simpa using z.symm⟩ |succ i =>
    simp only[af,bv] at z;cases q:ix[i]? with
    |none=>rw[q] at z;cases z
    |some j =>
      rw[q] at z;have z:capt (env.getD j none)=some s:=az z;unfold capt at z;split at z
      ·cases z;exact⟨_,rfl⟩
      ·cases z
 refine⟨Same.refl _,λa z=>.inr z,λl z=>z.elim,λi s e=>?_,λi j R s2 U v2 a J _ _ _ o _=>by obtain⟨d',rfl⟩:=I i R J;exact o.elim,by simp⟩;cases i with
 |zero =>
   cases e;exact⟨v,rfl,L r⟩
 |succ i =>
   simp only[af,bv] at e ⊢;cases q:ix[i]? with
   |none=>rw[q] at e;cases e
   |some j =>
     rw[q] at e;have e:capt (env.getD j none)=some s:=az e;rw[ae] at e;cases q2:env[j]? with
     |none=>rw[q2] at e;cases e
     |some o =>
       rw[q2] at e;have e:capt o=some s:=e;unfold capt at e;split at e
       ·rename_i d'
        cases e;obtain⟨u,J,S⟩:=ok.slot j _ q2;exact⟨u,by simp only[aq];rw[ae,J];rfl,L S⟩
       ·cases e
inductive CInv (K:dc) (O:Addr->Prop) (H1:Hp) (ds d:ei) (f:ei->Option ei) (i m:Nat) (H':Hp) (ys:ed):Prop
 |mk (rest done:ei) (hm:m=ds.length-i) (hi:i<=ds.length) (sm:Same H1 H') (rp:Reps K H' O done ys) (hd:done.length<=i) (ec:f (ds.drop i)=some rest) (hz:d=done++rest):CInv K O H1 ds d f i m H' ys
def u7:2 ^ 20<=sizeLine:=by rw[sizeLine_eq];decide
variable{te:FE}{fi:FI}
def zqz{tt:FT}:∀σ H Q,tDF X.K G H0 (iq fi ix tt te) σ H Q->o6 (tDI X.K G H0 fi) ix (tDxT X.K tt) (tDx X.K te) σ H Q:=λσ H Q z=>by
 obtain⟨W,env,d,env',ok,q,k⟩:=z;obtain⟨⟨ds,Y⟩,B,q⟩:=cv.mp q;by_cases g:Few ds.length;case neg=>cases (if_neg g).symm.trans q
 obtain⟨t,C,q⟩:=g8.mp ((if_pos g).symm.trans q);cases q;refine⟨W,env,ds,_,ok,B,λW1 J H1 E p u=>⟨CInv X.K (Ow G W1) H1 ds d (jy tt te (ix.map λj=>capt (Y.getD j none))),⟨ds.length,d,[],rfl,eh _,Same.refl _,.nil,bg _,C,rfl⟩,λi m H' ys z=>?_⟩⟩;obtain⟨rest,R,F,hi,sm,Z,hd,L,r⟩:=z;subst F;have D:=p.same sm;by_cases I:i<ds.length
 ·rw[fg I] at L
  obtain⟨⟨b,S⟩,M,L⟩:=cv.mp L;obtain⟨N,O⟩:=u.go W1 H' i ds[i] (Step.same sm) (ai I);refine .inr ⟨N,λx s y=>?_⟩;obtain⟨e,P⟩:=O x s y;subst e;refine⟨_,_,NoW,_,b,S,yv (ix:=ix) D P,M,λT H2 s2 U=>?_⟩;have n:ds.length-(i+1)<ds.length-i:=j1 _ _ I;cases b with
  |false=>exact⟨_,n,rest,R,rfl,I,sm.trans U.stay,D.reps (Step.same U.stay) Z,Nat.le_succ_of_le hd,L,r⟩ |true =>
    obtain⟨⟨A,c⟩,e4,L⟩:=cv.mp L;obtain⟨V,e5,e6⟩:=g8.mp L;refine⟨_,_,T,S,A,c,U,e4,λW3 v H3 s3 f r3=>⟨?_,_,n,V,R++[A],rfl,I,sm.trans f.stay,(D.reps (Step.same f.stay) Z).append (.cons (r3.mono (λ_ _ h=>h) λa us o h=>⟨?_,h⟩) .nil),?_,e5,?_⟩⟩
    ·rw[<-Z.length];exact ba (Nat.lt_of_le_of_lt hd (ba I g)) u7
    ·rcases o.1 with z |z
     ·exact z
     ·exact⟨D.good a (D.stay.free z),λw=>by obtain⟨_,us,q⟩:=D.wl a w;rw[z] at q;cases q⟩
    ·rw[aj];exact lr hd
    ·rw[r,<-e6,b9];rfl
 ·cases mz hi (jf I)
  rw[ii] at L;cases L;refine .inl ⟨u.stop W1 H' (Step.same sm),by rw[<-Z.length];exact bh hd (bh g u7),λl n=>?_⟩;obtain⟨h1,h2,h3,h4,h5,h6⟩:=mq D Z n;rw[r,ca] at k;exact k W1 l _ _ ((E.trans (Step.same sm)).trans h1) h2 h3 h4 h5 h6
variable{X':Cx}
def ub(D:X'.K=X.K):PIfs X' [] (tDxT X.K fYes):=λpins s σ H Q I z=>by
 obtain⟨G,H0,W,env,b,env',ok,e,k⟩:=z;cases e;exact zpb pins s σ H Q I (k W H Step.refl ok)
def el_x(z:X'.K=X.K)(h:∀G H0,DEx X' G H0 e te):PE X' e (tDx X.K te):=λpins s σ H Q I ⟨G,H0,q⟩=>(h G H0).out pins s σ H Q I (by rw[z];exact q)
def qs(an:Ats Nn Cn X)(hi:DIx X G H0 (.Name x px) a fi)(D:∀cl C s₂ H₂ fp G H0,Ats (x::(subN Nn ix)) (subN Nn ix) (iw X x (subN Nn ix) sc cl C s₂ H₂ fp)->DEx (iw X x (subN Nn ix) sc cl C s₂ H₂ fp) G H0 e te)(z:n8 Nn Cn ix x sc=true:=by decide +kernel)(I:X.calm=true:=by rfl)(J:∀v,foldedSetIterable a X.env v=pure v:=by intro _;rfl) :
  DFx X G H0 (.ListComp e [⟨.Name x px,a,[],0⟩] sc pos) (iq fi ix fYes te) :=
 ⟨(znf (uz an z) (λ_ _ _ _ _ _ _ _ _=>I) hi.out (λcl C s₂ H₂ fp _=>ub (X:=X) rfl) (λcl C s₂ H₂ fp _=>el_x (X:=X) rfl (λG H0=>D cl C s₂ H₂ fp G H0 (u9 z))) J).imp zqz⟩
structure XOk (B:Heap) (l:cd) (e:Addr) (cls fl:Value) (h:Heap):Prop where
 stay:B.StaysIn h
 new:B.get? e=none
 fr:h.FunFrames B l
 tr:∃oe vs T oT ts,h.get? e=some oe/\oe.cls=cls/\oe.dict=none/\oe.data=.fields vs/\vs[1]?=some (.ref T)/\vs[2]?=some .none/\B.get? T=none/\T≠e/\h.get? T=some oT/\oT.data=.fields ts/\ts[3]?=some fl
end L2
namespace L2
open PySem PySem.Spec PyProof.Rows PySem.W
def Cl(K:dc)(c:Str)(C:Addr):Prop:=PySem.W.nsIn K mainGlobals c=some (some (.ref C))
def Fly(P:Program)(w:World)(l:cd)(H:Hp)(s:Shared)(C e:Addr)(H':Hp)(s':Shared):Prop :=
 ∃B,XOk B l e (.ref C) .none s'.heap/\(∀b o,s.heap.get? b=some o->H b=none->b∉frs l->B.get? b=some o)/\HOk P w H' B/\Un (frs l) [] H H' s.heap s'.heap/\s'.os=s.os/\AllBare s'.gens
def XS(X:Cx)(pins:dt)(σ:St)(H:Hp)(C e:Addr)(s':Shared):Prop :=
 (∃s H1,Inv X pins σ H1 s/\Fly X.prog X.w X.stack H1 s C e H s')\/∃s args,Inv X pins σ H s/\Heap.MadeExcOf s.heap s'.heap e (.ref C) args/\s'={ s with heap:=s'.heap }
variable{CX:CXT}{P:Program}{w:World}{K:dc}{mg:Str->b2}{base:Heap}{x qual:Str}{st:Stmt}{f:Addr}{fd:FuncData}{N ps:bt}{k:Nat}{sp:Sp}
theorem Fun.okX(F:Fun K x qual st f fd)(S:pw N ps (gv st))(len:∀vs H Q E,sp vs H Q E->vs.length=ps.length)(z:∀(cdv:Value) (A:Around) (outer:cd) (s:Shared) (H:Hp) (vs:ed) (Q:VK) (E:XK),Room k (A.deeper (envOfC qual (gv st) s.heap.objs.size f cdv))->sp vs H Q E ->
   ∃t,PSs (cxOf CX P w K mg base N qual (gv st) f cdv A outer s H E) (ka st) t/\t { nx:=λ_ H'=>Q .non H',rt:=Q } (start N vs) H):FnOk P w K mg base CX (k+1) f fd ps sp:=by
 obtain⟨oc,od,kV,J,U,an,cdv,ct,osl,rfl,L,D⟩:=F.ex;exact zxc L D S len λA outer s H vs Q E R I=>z cdv A outer s H vs Q E R I
theorem Fun.okC(F:Fun K x qual st f fd)(S:pw N ps (gv st))(len:∀vs H Q E,sp vs H Q E->vs.length=ps.length)(z:∀(cdv:Value) (A:Around) (outer:cd) (s:Shared) (H:Hp) (vs:ed) (Q:VK) (E:XK),Room k (A.deeper (envOfC qual (gv st) s.heap.objs.size f cdv))->sp vs H Q E ->
   ∃t,PSs (cxOf CX P w K mg base N qual (gv st) f cdv A outer s H E).nox (ka st) t/\t { nx:=λ_ H'=>Q .non H',rt:=Q } (start N vs) H):FnOk P w K mg base CX (k+1) f fd ps sp :=
 F.okX S len λcdv A outer s H vs Q E D h=>let ⟨t,p,q⟩:=z cdv A outer s H vs Q E D h;⟨t,p.nox,q⟩
end L2
namespace L2
open PySem PySem.Spec PyProof.Rows
inductive Fl where
 |nx |bk |ct |rt (d:D) |rf (ds:ei) |r2 (dss:List ei) |xc (c:Str) |ra (k:AK) (ps:em)
abbrev FS:=DE0->Option (Fl×DE0)
structure N2 (K:dc) (G:Gd) (H0 H:Hp) (l:Addr) (ls:b4) (dss:List ei):Prop where
 nd:(l::ls).Nodup
 new:∀a∈l::ls,H0 a=none
 top:H l=some (.lst (ls.map V.ref))
 len:ls.length=dss.length
 inn:∀(j:Nat) (ds:ei) (a:Addr),dss[j]?=some ds->ls[j]?=some a->∃vs,H a=some (.lst vs)/\Reps K H (λb=>G b/\b∉l::ls) ds vs
def EndOk(X:Cx)(G:Gd)(H0:Hp)(W:Addr->Prop)(H:Hp)(Dn:Ends)(env':DE0):Fl->Prop
 | .nx=>∀W' z H',Step W H W' H'->Ok X.K G H0 W' env' z H'->Dn.nx z H' | .bk=>∀W' z H',Step W H W' H'->Ok X.K G H0 W' env' z H'->Dn.bk z H' | .ct=>∀W' z H',Step W H W' H'->Ok X.K G H0 W' env' z H'->Dn.ct z H' | .rt d=>∀W' z v H',Step W H W' H'->Ok X.K G H0 W' env' z H'->Rep X.K H' (Ow G W') d v->Dn.rt v H' | .rf ds=>∀l vs H',Same H0 H'->H0 l=none->H' l=some (.lst vs)->Reps X.K H' (λa=>G a/\a≠l) ds vs->Dn.rt (.ref l) H'
 | .r2 dss=>∀l ls H',Same H0 H'->N2 X.K G H0 H' l ls dss->Dn.rt (.ref l) H'
 | .xc c=>∀W' z H' C,Cl X.K c C->Step W H W' H'->Ok X.K G H0 W' env' z H'->∀pins e s',XS X pins z H' C e s'->X.xe (.ref e) s' | .ra k ps=>∀W' z p H',Step W H W' H'->Ok X.K G H0 W' env' z H'->SlOk X.K G W' H' (.ag k none ps) (.ref p)->Dn.rt (.ref p) H'
def tDS(X:Cx)(G:Gd)(H0:Hp)(g:FS):TS:=λDn σ H=>DP X.K G H0 g (λW env fl env'=> EndOk X G H0 W H Dn env' fl) σ H
structure DSx (X:Cx) (G:Gd) (H0:Hp) (s:Stmt) (g:FS):Prop where
 out:PS X s (tDS X G H0 g)
structure DBx (X:Cx) (G:Gd) (H0:Hp) (s:List Stmt) (g:FS):Prop where
 out:PSs X s (tDS X G H0 g)
variable{X:Cx}{e:Expr}{t t':TS}
def PS.imp{e:Stmt}(h:PS X e t)(i:∀D σ H,t' D σ H->t D σ H):PS X e t':=λpins s σ H D I q=>h pins s σ H D I (i D σ H q)
def PSs.imp{e:List Stmt}(h:PSs X e t)(i:∀D σ H,t' D σ H->t D σ H):PSs X e t':=λpins s σ H D I q=>h pins s σ H D I (i D σ H q)
variable{G:Gd}{W W1:Addr->Prop}{H0 H H1:Hp}{Dn:Ends}{env':DE0}{fl:Fl}
def EndOk.step(st:Step W H W1 H1)(h:EndOk X G H0 W H Dn env' fl):EndOk X G H0 W1 H1 Dn env' fl:=by
 cases fl with
 |nx=>exact λW' D H' s o=>h W' D H' (st.trans s) o |bk=>exact λW' D H' s o=>h W' D H' (st.trans s) o |ct=>exact λW' D H' s o=>h W' D H' (st.trans s) o |rt d=>exact λW' D v H' s o=>h W' D v H' (st.trans s) o |rf ds=>exact h |r2 dss=>exact h |xc c=>exact λW' D H' C z s o=>h W' D H' C z (st.trans s) o |ra k ps=>exact λW' D p H' s o=>h W' D p H' (st.trans s) o
def Fl.out:Fl->Bool | .rt _=>true | .rf _=>true | .r2 _=>true | .xc _=>true | .ra _ _=>true |_=>false
variable{Dn':Ends}
protected def EndOk.go(I:fl.out=true)(h:EndOk X G H0 W H Dn env' fl)(e:Dn'.rt=Dn.rt)(st:Step W H W1 H1):EndOk X G H0 W1 H1 Dn' env' fl:=by
 cases fl with
 |nx=>cases I
 |bk=>cases I
 |ct=>cases I
 |rt d=>intro W' D v H' s o r;rw[e];exact h W' D v H' (st.trans s) o r
 |rf ds=>intro v vs H' s n l r;rw[e];exact h v vs H' s n l r
 |r2 dss=>intro v ls H' s n;rw[e];exact h v ls H' s n
 |xc c=>exact λW' D H' C z s o=>h W' D H' C z (st.trans s) o |ra k ps=>intro W' D p H' s o r;rw[e];exact h W' D p H' (st.trans s) o r
@[simp] def sNil:FS:=λe=>some (.nx,e)
@[simp] def sSeq(g h:FS):FS:=λe=>(g e).bind λr=>match r.1 with | .nx=>h r.2 |_=>some r
@[simp] def sSet(i:Nat)(f:FE):FS:=λe=>(f e).map λr=>(.nx,r.2.set i (some (.sh r.1)))
@[simp] def sOwn(i:Nat)(f:FA):FS:=λe=>(f e).map λr=>(.nx,r.2.set i (some (.ow r.1)))
@[simp] def sRet(f:FE):FS:=λe=>(f e).map λr=>(.rt r.1,r.2)
@[simp] def wz(f:FA):FS:=λe=>(f e).map λr=>(.rf r.1,r.2)
@[simp] def sIf(c:FT)(g h:FS):FS:=λe=>(c e).bind λr=>if r.1=true then g r.2 else h r.2
@[simp] def jj(f:FE):FS:=λe=>(f e).map λr=>(.nx,r.2)
@[simp] def rd:FS:=λ_=>none
def forL(i:Nat)(g:FS):ei->DE0->Option (Fl×DE0)
 | [],e=>some (.nx,e) |d::r,e=>(g (e.set i (some (.sh d)))).bind λq=>match q.1 with | .nx=>forL i g r q.2 | .ct=>forL i g r q.2 | .bk=>some (.nx,q.2) | .rt d=>some (.rt d,q.2) | .rf ds=>some (.rf ds,q.2) | .r2 ds=>some (.r2 ds,q.2) | .xc c=>some (.xc c,q.2) | .ra k ps=>some (.ra k ps,q.2)
@[simp] def sFor(i:Nat)(fi:FI)(g:FS):FS:=λe=>(fi e).bind λr=>forL i g r.1 r.2
def j9(c:FT)(g:FS):Nat->DE0->Option (Fl×DE0)
 |0,_=>none |n+1,e=>(c e).bind λr=>if r.1=true then(g r.2).bind λq=>match q.1 with | .nx=>j9 c g n q.2 | .ct=>j9 c g n q.2 | .bk=>some (.nx,q.2) | .rt d=>some (.rt d,q.2) | .rf ds=>some (.rf ds,q.2) | .r2 ds=>some (.r2 ds,q.2) | .xc c=>some (.xc c,q.2) | .ra k ps=>some (.ra k ps,q.2) else some (.nx,r.2)
def jc  : DBx X G H0 [] sNil:=⟨zrl.imp λDn σ H z=>by
 obtain⟨W,env,fl,env',ok,q,k⟩:=z;cases q;exact k W σ H Step.refl ok⟩
variable{s:Stmt}{ss:List Stmt}{u v:FS}
def ek(h1:DSx X G H0 s u)(h2:DBx X G H0 ss v):DBx X G H0 (s::ss) (sSeq u v):=⟨(zo2 h1.out h2.out).imp λDn σ H J=>by
 obtain⟨W,env,fl,env',ok,q,k⟩:=J;cases e1:u env with
 |none=>simp[e1] at q |some r =>
   obtain⟨D,z⟩:=r;refine⟨W,env,D,z,ok,e1,?_⟩;cases D with
   |nx =>
     have q:v z=some (fl,env'):=by simpa[sSeq,e1] using q
     exact λW1 L H1 R I=>⟨W1,z,fl,env',I,q,k.step R⟩
   |bk =>
     have q:some (Fl.bk,z)=some (fl,env'):=by simpa[sSeq,e1] using q
     cases q;exact k
   |ct =>
     have q:some (Fl.ct,z)=some (fl,env'):=by simpa[sSeq,e1] using q
     cases q;exact k
   |rt d =>
     have q:some (Fl.rt d,z)=some (fl,env'):=by simpa[sSeq,e1] using q
     cases q;exact k
   |rf d =>
     have q:some (Fl.rf d,z)=some (fl,env'):=by simpa[sSeq,e1] using q
     cases q;exact k
   |r2 d =>
     have q:some (Fl.r2 d,z)=some (fl,env'):=by simpa[sSeq,e1] using q
     cases q;exact k
   |xc d =>
     have q:some (Fl.xc d,z)=some (fl,env'):=by simpa[sSeq,e1] using q
     cases q;exact k
   |ra d d' =>
     have q:some (Fl.ra d d',z)=some (fl,env'):=by simpa[sSeq,e1] using q
     cases q;exact k⟩
def fb(h:DSx X G H0 s u):DBx X G H0 [s] u:=⟨zrm h.out⟩
variable{f:FE}{pos p':Pos}{x:Str}{i:Nat}
def zvu(J:X.N.Nodup)(hi:X.N[i]?=some x:=by rfl)(L:DEx X G H0 e f)(ps:PS X (.Assign [.Name x p'] e pos) (tAsg (tD X.K G H0 f) (kq i))):DSx X G H0 (.Assign [.Name x p'] e pos) (sSet i f):=⟨ps.imp λDn σ H D=>by
 obtain⟨W,env,fl,env',ok,q,k⟩:=D;cases e1:f env with
 |none=>simp[e1] at q |some r =>
   have q:some (Fl.nx,r.2.set i (some (Sl.sh r.1)))=some (fl,env'):=by simpa[sSet,e1] using q
   cases q;exact⟨W,env,_,_,ok,e1,λW1 R H1 I z p1=>k W1 _ H1 I (z.set p1)⟩⟩
variable{F:FA}
def l6(ps:PS X (.Assign [.Name x p'] e pos) (tAsg (tDF X.K G H0 F) (kq i))):DSx X G H0 (.Assign [.Name x p'] e pos) (sOwn i F):=⟨ps.imp λDn σ H I=>by
 obtain⟨W,env,fl,env',ok,q,k⟩:=I;cases e1:F env with
 |none=>simp[e1] at q |some r =>
   have q:some (Fl.nx,r.2.set i (some (Sl.ow r.1)))=some (fl,env'):=by simpa[sOwn,e1] using q
   cases q;exact⟨W,env,_,_,ok,e1,λW1 l vs H1 J z D L R S=>k (addW W1 l) _ H1 J (D.setO (.inr rfl) R S (z.noOwn L))⟩⟩
def ib(D:DEx X G H0 e f):DSx X G H0 (.Return (some e) pos) (sRet f):=⟨(ya D.out).imp λDn σ H I=>by
 obtain⟨W,env,fl,env',ok,q,k⟩:=I;cases e1:f env with
 |none=>simp[e1] at q |some r =>
   have q:some (Fl.rt r.1,r.2)=some (fl,env'):=by simpa[sRet,e1] using q
   cases q;exact⟨W,env,_,_,ok,e1,λW1 J H1 L z p1=>k W1 σ J H1 L z p1⟩⟩
def zsl(J:DFx X G H0 e F):DSx X G H0 (.Return (some e) pos) (wz F):=⟨(ya J.out).imp λDn σ H L=>by
 obtain⟨W,env,fl,env',ok,q,k⟩:=L;cases e1:F env with
 |none=>simp[e1] at q |some r =>
   have q:some (Fl.rf r.1,r.2)=some (fl,env'):=by simpa[wz,e1] using q
   cases q;exact⟨W,env,_,_,ok,e1,λW1 l vs H1 U D I V R S=>k l vs H1 D.stay (I.wl l (.inr rfl)).1 R (S.mono (λ_ _ h=>h) λa us o h=>⟨⟨o.1,λz=>o.2 (.inr z)⟩,h⟩)⟩⟩
def fOwn(i:Nat):FA:=λe=>match e[i]? with |some (some (.ow ds))=>some (ds,e.set i none) |_=>none
@[simp] def ua(i:Nat):FS:=λe=>match e[i]? with |some (some (.ow ds))=>some (.rf ds,e) |_=>none
variable{Nn Cn:bt}
def zsm(an:Ats Nn Cn X)(D:Nn[i]?=some x:=by rfl):DSx X G H0 (.Return (some (.Name x p')) pos) (ua i):=⟨(ya ((an.a D).pe)).imp λDn σ H J=>by
 obtain⟨W,env,fl,env',ok,q,k⟩:=J;unfold ua at q;split at q
 ·rename_i ds L
  cases q;obtain⟨v,R,l,vs,rfl,I,S,r⟩:=ok.slot i _ L;exact⟨_,R,k l vs H ok.stay (ok.wl l I).1 S (r.mono (λ_ _ h=>h) λa us o h=>⟨⟨o.1,λz=>o.2 (z ▸ I)⟩,h⟩)⟩
 ·cases q⟩
variable{c:Expr}{p:FT}
def jb{I J:List Stmt}(R:DTx X G H0 c p)(S:DBx X G H0 I u)(U:DBx X G H0 J v):DSx X G H0 (.If c I J pos) (sIf p u v):=⟨(zw4 R.out S.out U.out).imp λDn σ H V=>by
 obtain⟨W,env,fl,env',ok,q,k⟩:=V;cases e1:p env with
 |none=>simp[e1] at q |some r =>
   obtain⟨t,z⟩:=r;refine⟨W,env,t,z,ok,e1,λW1 H1 L D=>?_⟩;cases t with
   |true=>rw[if_pos rfl];exact⟨W1,z,fl,env',D,by simpa[sIf,e1] using q,k.step L⟩ |false=>rw[if_neg bu];exact⟨W1,z,fl,env',D,by simpa[sIf,e1] using q,k.step L⟩⟩
def u6  : DSx X G H0 s rd:=⟨zo3.imp λDn σ H ⟨W,env,fl,env',ok,q,k⟩=>by cases q⟩
def lp(D:DEx X G H0 e f)(I:swapsWith e none pos.line X.env=pure false:=by rfl):DSx X G H0 (.Expr e pos) (jj f):=⟨(zrn D.out I).imp λDn σ H J=>by
 obtain⟨W,env,fl,env',ok,q,k⟩:=J;cases e1:f env with
 |none=>simp[e1] at q |some r =>
   have q:some (Fl.nx,r.2)=some (fl,env'):=by simpa[jj,e1] using q
   cases q;exact⟨W,env,_,_,ok,e1,λW1 R H1 L z p1=>k W1 σ H1 L z⟩⟩
structure zvv (K:dc) (G:Gd) (J:It) (W:Addr->Prop) (H:Hp) (ds:ei):Prop where
 go:∀W' H' (i:Nat) d,Step W H W' H'->ds[i]?=some d->J.go i H'/\∀x H'',J.yld i H' x H''->Same H' H''/\Rep K H'' (Ow G W') d x
 stop:∀W' H',Step W H W' H'->J.stop ds.length H'
def tDJ(K:dc)(G:Gd)(H0:Hp)(f:FI):TI:=λσ H R=>DP K G H0 f (λW env ds env' =>
 ∀W' J H',Step W H W' H'->Ok K G H0 W' env' σ H'->zvv K G J W' H' ds->R J H') σ H
structure DJx (X:Cx) (G:Gd) (H0:Hp) (tg:Expr) (e:Expr) (f:FI):Prop where
 out:PI X tg e (tDJ X.K G H0 f)
variable{tg a:Expr}
def DIC.dj{f:FI}(h:DIx X G H0 tg a f):DJx X G H0 tg a f:=⟨h.out.imp λσ H R z=>by
 obtain⟨W,env,ds,env',ok,q,k⟩:=z;exact⟨W,env,ds,env',ok,q,λW' J H' st D w=>k W' J H' st D ⟨λI H2 i d s e=>⟨(w.go I H2 i d s e).1,λx L y=>by
  obtain⟨S,r⟩:=(w.go I H2 i d s e).2 x L y;cases S;exact⟨Same.refl _,r⟩⟩,w.stop⟩⟩⟩
def forK(k:DE0->Option (Fl×DE0))(q:Fl×DE0):Option (Fl×DE0):=match q.1 with | .nx=>k q.2 | .ct=>k q.2 | .bk=>some (.nx,q.2) | .rt d=>some (.rt d,q.2) | .rf ds=>some (.rf ds,q.2) | .r2 ds=>some (.r2 ds,q.2) | .xc c=>some (.xc c,q.2) | .ra k ps=>some (.ra k ps,q.2)
variable{W':Addr->Prop}{H':Hp}{N:bt}
def EndOk.loop{L:Fl}{D:DE0}{N:St->Hp->Prop}{kk:DE0->Option (Fl×DE0)}(k:EndOk X G H0 W H Dn env' fl)(st:Step W H W' H')(R:forK kk (L,D)=some (fl,env'))(S:∀J z H2,Step W' H' J H2->Ok X.K G H0 J D z H2->kk D=some (fl,env')->N z H2) :
  EndOk X G H0 W' H' { Dn with nx:=N,ct:=N,bk:=Dn.nx } D L:=by
 cases L with
 |nx=>exact λJ z H2 s2 I=>S J z H2 s2 I R |ct=>exact λJ z H2 s2 I=>S J z H2 s2 I R |bk=>cases R;exact λJ z H2 s2 I=>k J z H2 (st.trans s2) I
 |_=>cases R;exact k.go rfl rfl st
inductive FInv (X:Cx) (G:Gd) (H0:Hp) (W1:Addr->Prop) (H1:Hp) (ds:ei) (L:ei->DE0->Option (Fl×DE0)) (r:Option (Fl×DE0)) (n m:Nat) (σ:St) (H:Hp):Prop
 |mk (W:Addr->Prop) (env:DE0) (hm:m=ds.length-n) (hn:n<=ds.length) (st:Step W1 H1 W H) (ok:Ok X.K G H0 W env σ H) (ef:L (ds.drop n) env=r):FInv X G H0 W1 H1 ds L r n m σ H
variable{g:FS}{body:List Stmt}{fi:FI}{b:Expr}{q:FT}
def zno{g:TG}{b:D->DE0->Option DE0}{L:ei->DE0->Option (Fl×DE0)}(hi:DJx X G H0 tg a fi)(f:PG X tg g)(E:DBx X G H0 body u)(F:∀ {W env env' σ H d x} {Q:St->Hp->Prop},Ok X.K G H0 W env σ H->Rep X.K H (Ow G W) d x->b d env=some env'->(∀R,Ok X.K G H0 W env' R H->Q R H)->g x σ H Q)(M:∀e,L [] e=some (.nx,e))(h1:∀d r e,L (d::r) e=(b d e).bind λe'=>(u e').bind λq=>forK (L r) q)(N:PassesOwn (model X.prog X.w) X.A X.env X.xe)(O:X.calm=true)(P:∀x,foldedSetIterable a X.env x=pure x):DSx X G H0 (.For tg a body [] pos) (λe=>(fi e).bind λr=>L r.1 r.2):=⟨(zun N O hi.out f E.out P).imp λDn σ H z=>by
 obtain⟨W,env,fl,env',ok,q,k⟩:=z;obtain⟨⟨ds,S⟩,T,q⟩:=cv.mp q;refine⟨W,env,ds,S,ok,T,λW1 J H1 s i t=>⟨FInv X G H0 W1 H1 ds L (some (fl,env')),⟨ds.length,W1,S,rfl,eh _,Step.refl,i,q⟩,λn m R H' z=>?_⟩⟩;obtain⟨W',v,hm,hn,st,Y,U⟩:=z;subst hm;by_cases I:n<ds.length
 ·rw[fg I,h1] at U
  obtain⟨Z,e2,U⟩:=cv.mp U;obtain⟨⟨j,V⟩,e3,U⟩:=cv.mp U;obtain⟨f,hy⟩:=t.go W' H' n ds[n] st (ai I);refine .inr ⟨f,λc H2=>∃B,B<ds.length-n/\FInv X G H0 W1 H1 ds L (some (fl,env')) (n+1) B c H2,λ_ _ h=>h,λx l y=>?_⟩;obtain⟨sm,rx⟩:=hy x l y;have C:=st.trans (Step.same sm);exact F (Y.same sm) rx e2 λaa o=>⟨W',Z,j,V,o,e3,k.loop (s.trans C) U λW2 c H2 s2 p e=>⟨_,j1 _ _ I,W2,V,rfl,I,C.trans s2,p,e⟩⟩
 ·cases mz hn (jf I)
  rw[ii,M] at U;cases U;exact .inl ⟨t.stop W' H' st,k W' R H' (s.trans st) Y⟩⟩
variable{px:Pos}
def k9{tg:Str}(hi:DIx X G H0 (.Name tg px) a fi)(z:PG X (.Name tg px) (kq i))(D:DBx X G H0 body u)(I:PassesOwn (model X.prog X.w) X.A X.env X.xe:=by passes_own)(J:X.calm=true:=by rfl)(R:∀x,foldedSetIterable a X.env x=pure x:=by intro _;rfl):DSx X G H0 (.For (.Name tg px) a body [] pos) (sFor i fi u) :=
 zno (b:=λd e=>some (e.set i (some (.sh d)))) (L:=forL i u) hi.dj z D (λok r e k=>by cases e;exact k _ (ok.set r)) (λ_=>rfl) (λ_ _ _=>rfl) I J R
inductive WInv (X:Cx) (G:Gd) (H0:Hp) (W1:Addr->Prop) (H1:Hp) (L:Nat->DE0->Option (Fl×DE0)) (r:Option (Fl×DE0)) (m:Nat) (σ:St) (H:Hp):Prop
 |mk (W:Addr->Prop) (env:DE0) (st:Step W1 H1 W H) (ok:Ok X.K G H0 W env σ H) (ef:L m env=r):WInv X G H0 W1 H1 L r m σ H
variable{n:Nat}
def zk0(f:DTx X G H0 c p)(g:DBx X G H0 body u)(i:PassesOwn (model X.prog X.w) X.A X.env X.xe:=by passes_own):DSx X G H0 (.While c body [] pos) (j9 p u n):=⟨(zo5 i f.out g.out).imp λDn σ H z=>by
 obtain⟨W,env,fl,env',ok,q,k⟩:=z;refine⟨WInv X G H0 W H (j9 p u) (some (fl,env')),⟨n,W,env,Step.refl,ok,q⟩,λm U H' z=>?_⟩;obtain⟨W',L,st,V,J⟩:=z;cases m with
 |zero=>cases J
 |succ m =>
   obtain⟨⟨t,D⟩,j,J⟩:=cv.mp J;refine⟨W',L,t,D,V,j,λa H2 s2 R=>?_⟩;cases t with
   |false =>
     cases J;exact k a U H2 (st.trans s2) R
   |true =>
     obtain⟨⟨Y,I⟩,l,J⟩:=cv.mp J;exact⟨λS b=>∃d,d<m+1/\WInv X G H0 W H (j9 p u) (some (fl,env')) d S b,λ_ _ h=>h,a,D,Y,I,R,l,k.loop (kk:=j9 p u m) (st.trans s2) J λo S b r Z e=>⟨m,dz _,o,I,(st.trans s2).trans r,Z,e⟩⟩⟩
def lt20(h:n<2 ^ 20):n<sizeLine:=ba h (by rw[sizeLine_eq];decide)
@[simp] def o4(d:D)(e:DE0)(i:Nat):Option (D×DE0):=match e[i]? with
 |some (some (.ow ds))=>if Few (ds.length+1) then some (.non,e.set i (some (.ow (ds++[d])))) else none
 |_=>none
@[simp] def kv(i:Nat)(f:FE):FE:=λe=>match e[i]? with
 |some (some (.ow _))=>(f e).bind λr=>o4 r.1 r.2 i
 |_=>none
variable{p1:Pos}
def sw(e:DEx X G H0 a f)(an:Ats Nn Cn X)(S:Nn[i]?=some x:=by rfl)(z:attributeBase (.Name x p') "append" X.env (eval (.Name x p') X.env)=eval (.Name x p') X.env:=by rfl)(I:((backTo pos (starEach [a] X.env)).all (λx=>!x.1) && (backToKw pos (keywordEach [] X.env)).all (λx=>x.1.isSome)
   && decide ([a].length+([]:List Keyword).length+(if ([]:List Keyword).isEmpty then 0 else 1)<30))=true:=by rfl)(D:(p1.endLine==pos.line)=true:=by rfl)(Z:starEach [a] X.env=(false,eval a X.env)::starEach [] X.env:=by rfl) :
  DEx X G H0 (.Call (.Attribute (.Name x p') "append" p1) [a] [] pos) (kv i f):=⟨(qa dy qy qx ziz ((an.a S).pe) (lf e.out ma Z) z I D Z rfl).imp λσ H Q g=>by
 obtain⟨W,env,d,env',ok,q,k⟩:=g;unfold kv at q;split at q;case h_2=>cases q
 rename_i h U;obtain⟨v,V,l,j,rfl,m,Y,_⟩:=ok.slot i _ U;cases e1:f env with
 |none=>rw[e1] at q;cases q
 |some r =>
   obtain⟨n,J⟩:=r;rw[e1,ab] at q;unfold o4 at q;split at q;case h_2=>cases q
   rename_i ds b;split at q;case isFalse=>cases q
   rename_i L;cases q;refine⟨_,V,.inl ⟨rfl,_,.inl (.inl Y)⟩,W,env,n,J,ok,e1,λW1 o H1 p R s=>?_⟩;obtain⟨A,c,B,vs,t,C,u,r⟩:=R.slot i _ b;rw[V] at c;cases c;cases t;obtain⟨w,y⟩:=R.turn b V (r.append (.cons s .nil));exact⟨l,vs,o,rfl,rfl,u,by rw[<-r.length];exact lt20 (kz L),k W1 _ _ (p.trans y) w .non⟩⟩
@[simp] def fPop(i:Nat):FE:=λe=>match e[i]? with
 |some (some (.ow ds))=>(ds[ds.length-1]?).map λd=>(d,e.set i (some (.ow ds.dropLast)))
 |_=>none
def zvw(an:Ats Nn Cn X)(I:Nn[i]?=some x:=by rfl)(z:attributeBase (.Name x p') "pop" X.env (eval (.Name x p') X.env)=eval (.Name x p') X.env:=by rfl)(D:(p1.endLine==pos.line)=true:=by rfl) :
  DEx X G H0 (.Call (.Attribute (.Name x p') "pop" p1) [] [] pos) (fPop i):=⟨(zu3 dy PySem.F.slot_list_pop PySem.F.type_list_pop zu4 ((an.a I).pe) z D).imp λσ H Q U=>by
 obtain⟨W,env,d,env',ok,q,k⟩:=U;unfold fPop at q;split at q;case h_2=>cases q
 rename_i ds J;obtain⟨v,L,l,vs,rfl,b,R,r⟩:=ok.slot i _ J;cases e1:ds[ds.length-1]? with
 |none=>rw[e1] at q;cases q
 |some d' =>
   rw[e1] at q;cases q;obtain⟨u,V,Y⟩:=r.get e1;obtain⟨Z,S⟩:=ok.turn J L r.dropLast;exact⟨_,L,.inl ⟨rfl,_,.inl (.inl R)⟩,l,vs,u,rfl,rfl,R,by rw[<-r.length];exact V,k W _ _ S Z (ok.rep S Y)⟩⟩
def wy(k:D)(e:DE0)(i:Nat):Option (D×DE0):=match k,e[i]? with
 | .int k,some (some (.ow ds))=>if Few ds.length then(ixN ds.length k).bind λj=>(ds[j]?).map λd=>(d,e.set i (some (.ow (ds.eraseIdx j)))) else none
 |_,_=>none
def rc(i:Nat)(f:FE):FE:=λe=>match e[i]? with
 |some (some (.ow _))=>(f e).bind λr=>wy r.1 r.2 i
 |_=>none
theorem zpn(g:DEx X G H0 a f)(an:Ats Nn Cn X)(S:Nn[i]?=some x:=by rfl)(D:attributeBase (.Name x p') "pop" X.env (eval (.Name x p') X.env)=eval (.Name x p') X.env:=by rfl)(L:((backTo pos (starEach [a] X.env)).all (λx=>!x.1) && (backToKw pos (keywordEach [] X.env)).all (λx=>x.1.isSome)
   && decide ([a].length+([]:List Keyword).length+(if ([]:List Keyword).isEmpty then 0 else 1)<30))=true:=by rfl)(I:(p1.endLine==pos.line)=true:=by rfl)(Z:starEach [a] X.env=(false,eval a X.env)::starEach [] X.env:=by rfl) :
  DEx X G H0 (.Call (.Attribute (.Name x p') "pop" p1) [a] [] pos) (rc i f):=⟨(qa dy PySem.F.slot_list_pop PySem.F.type_list_pop zo9 ((an.a S).pe) (lf g.out ma Z) D L I Z rfl).imp λσ H Q h=>by
 obtain⟨W,env,d,env',ok,q,k⟩:=h;unfold rc at q;split at q;case h_2=>cases q
 rename_i m U;obtain⟨v,V,l,n,rfl,o,Y,_⟩:=ok.slot i _ U;cases e1:f env with
 |none=>rw[e1] at q;cases q
 |some r =>
   obtain⟨E,R⟩:=r;rw[e1,ab] at q;unfold wy at q;dsimp only at q;split at q;case h_2=>cases q
   rename_i kk ds b;split at q;case isFalse=>cases q
   rename_i z;cases e2:ixN ds.length kk with
   |none=>rw[e2] at q;cases q
   |some j =>
     rw[e2,ab] at q;cases e3:ds[j]? with
     |none=>rw[e3] at q;cases q
     |some d' =>
       rw[e3] at q;cases q;obtain⟨p,K,M,N⟩:=yk e2;refine⟨_,V,.inl ⟨rfl,_,.inl (.inl Y)⟩,W,env,_,R,ok,e1,λW1 O H1 s J t=>?_⟩;obtain⟨P,c,T,vs,w,hW,y,r⟩:=J.slot i _ b;rw[V] at c;cases c;cases w;obtain⟨u,A,B⟩:=r.get e3;obtain⟨C,e⟩:=J.turn b V (r.eraseIdx j);exact⟨l,vs,kk,j,u,rfl,by rw[t.int_],y,by have:ds.length<=2 ^ 20:=z;lia,by have:ds.length<=2 ^ 20:=z;lia,by rw[<-r.length];exact p,A,k W1 _ _ (s.trans e) C (J.rep e B)⟩⟩
@[simp] def zvx(d k:D)(e:DE0)(i:Nat):Option (Fl×DE0):=match k,e[i]? with
 | .int k,some (some (.ow ds))=>(ixN ds.length k).map λj=>(.nx,e.set i (some (.ow (ds.set j d))))
 |_,_=>none
@[simp] def zq0(i:Nat)(z D:FE):FS:=λe=>(D e).bind λr=>match r.2[i]? with
 |some (some (.ow _))=>(z r.2).bind λq=>zvx r.1 q.1 q.2 i
 |_=>none
def jd(n:Nat)(ds:ei):DE0:=ds.map (λd=>some (Sl.sh d))++List.replicate (n-ds.length) none
def runD(n ar:Nat)(g:FS):ei->el:=λds=>if ds.length=ar then(match g (jd n ds) with |some (.rt d,_)=>some d |some (.nx,_)=>some .non |_=>none) else none
def runF(n ar:Nat)(g:FS):ei->Option ei:=λds=>if ds.length=ar then(match g (jd n ds) with |some (.rf d,_)=>some d |_=>none) else none
def zhw:∀ {n:Nat} {ds:ei} {i:Nat} {s:Sl},(jd n ds)[i]?=some (some s)->∃d,ds[i]?=some d/\s=.sh d:=λ{n ds i s} h=>by
 unfold jd at h;by_cases hi:i<ds.length
 ·rw[ce (by simpa using hi),bv] at h
  cases e:ds[i]? with
  |none=>rw[e] at h;cases h
  |some d=>rw[e] at h;cases h;exact⟨d,rfl,rfl⟩
 ·rw[gh (by simpa using hi),t4] at h
  split at h <;> cases h
variable{O:Addr->Prop}{ds:ei}{vs:ed}{K:dc}
def yu(r:Reps K H O ds vs):Ok K (gd λa=>O a\/H a=none) H NoW (jd N.length ds) (start N vs) H:=by
 refine⟨Same.refl _,λa z=>.inr z,λl z=>z.elim,λi s e=>?_,λi j L s2 R v2 a D _ _ _ o _=>?_,?_⟩
 ·obtain⟨d,D,rfl⟩:=zhw e
  obtain⟨v,I,J⟩:=r.get D;refine⟨v,?_,J.mono (λ_ _ h=>h) λa us o h=>⟨⟨.inl o,λz=>z⟩,h⟩⟩;unfold start;rw[ce (by simpa using(am.mp I).1),bv,I];rfl
 ·obtain⟨d,_,z⟩:=zhw D
  subst z;exact o.elim
 ·unfold jd start
  rw[aj,aj,ac,ac,ff,ff,r.length]
variable{f:Addr}{CX:CXT}{qual:Str}{st:Stmt}{fd:FuncData}{ps:bt}{k ar:Nat}{P:Program}{w:World}{mg:Str->b2}{base:Heap}
theorem fn_D(F:Fun K x qual st f fd)(S:pw N ps (gv st))(L:n=N.length)(R:ar=ps.length)(z:∀(cdv:Value) (A:Around) (outer:cd) (s:Shared) (H:Hp) (E:XK) (G:Gd) (H0:Hp),Room k (A.deeper (envOfC qual (gv st) s.heap.objs.size f cdv)) ->
   DBx (cxOf CX P w K mg base N qual (gv st) f cdv A outer s H E).nox G H0 (ka st) g):FnOk P w K mg base CX (k+1) f fd ps (dSp K (runD n ar g)):=by
 subst L R;refine F.okC S (λvs H Q E h=>?_) (λcdv A outer s H vs Q E U h=>?_)
 ·obtain⟨O,ds,d,r,e,_⟩:=h
  rw[<-r.length];unfold runD at e;split at e
  ·assumption
  ·cases e
 ·obtain⟨O,ds,d,r,e,k⟩:=h
  refine⟨_,(z cdv A outer s H E (gd λa=>O a\/H a=none) H U).out,?_⟩;unfold runD at e;split at e;case isFalse=>cases e
  split at e
  ·rename_i d' env' I
   cases e;exact⟨NoW,_,_,env',yu r,I,λW' J v H' st D V=>k v H' D.stay (V.mono (λ_ _ h=>h) λa us o h=>⟨o.1,h⟩)⟩
  ·rename_i env' I
   cases e;exact⟨NoW,_,_,env',yu r,I,λW' J H' st D=>k .non H' D.stay .non⟩
  ·cases e
theorem fn_F(F:Fun K x qual st f fd)(S:pw N ps (gv st))(D:n=N.length)(I:ar=ps.length)(z:∀(cdv:Value) (A:Around) (outer:cd) (s:Shared) (H:Hp) (E:XK) (G:Gd) (H0:Hp),Room k (A.deeper (envOfC qual (gv st) s.heap.objs.size f cdv)) ->
   DBx (cxOf CX P w K mg base N qual (gv st) f cdv A outer s H E).nox G H0 (ka st) g):FnOk P w K mg base CX (k+1) f fd ps (fSp K (runF n ar g)):=by
 subst D I;refine F.okC S (λvs H Q E h=>?_) (λcdv A outer s H vs Q E J h=>?_)
 ·obtain⟨O,ds,d,r,e,_⟩:=h
  rw[<-r.length];unfold runF at e;split at e
  ·assumption
  ·cases e
 ·obtain⟨O,ds,d,r,e,k⟩:=h
  refine⟨_,(z cdv A outer s H E (gd λa=>O a\/H a=none) H J).out,?_⟩;unfold runF at e;split at e;case isFalse=>cases e
  split at e
  ·rename_i d' env' L
   cases e;exact⟨NoW,_,_,env',yu r,L,λl vs' H' sm R U V=>k l vs' H' sm R U V⟩
  ·cases e
def ur(K:dc):Sp:=λvs H Q _=>∃(a:Addr) (ns:cc),vs=[.ref a]/\SqL K H a (ns.map V.int)/\ns.length<=63/\∀H',Q (.bl true) H'
variable{m:ei->el}
theorem zxq(F:FnOk P w K mg base CX k f fd ps (dSp K m))(h:∀ns:cc,ns.length<=63->m [.lst (ns.map D.int)]=some (.bl true)) :
  FnOk P w K mg base CX k f fd ps (ur K):=F.imp λvs H Q E I=>by
 obtain⟨a,ns,e,J,L,q⟩:=I;subst e;exact⟨λ_=>True,[.lst (ns.map D.int)],.bl true,.cons (J.elim (λz=>.lst trivial z (vf ns)) λz=>.klst z (vf ns)) .nil,h ns L,λv H' _ r=>by rw[r.bl_];exact q H'⟩
def fr_D:∀σ H Q,tD X.K G H0 (fLst F) σ H Q->tDF X.K G H0 F σ H Q:=λσ H Q R=>by
 obtain⟨W,env,d,env',ok,q,k⟩:=R;cases e1:F env with
 |none=>simp[e1] at q |some r =>
   have q:some (D.lst r.1,r.2)=some (d,env'):=by simpa[fLst,e1] using q
   cases q;refine⟨W,env,_,_,ok,e1,λW1 l vs H1 L I J S U V=>k W1 _ H1 ⟨L.keep,λa z=>L.ws a (.inl z)⟩ I (.lst ⟨I.good l (J.wl l (.inr rfl)).1,S⟩ (.inl U) (V.mono (λ_ _ h=>h) λa us o h=>⟨⟨o.1,λz=>o.2 (.inl z)⟩,h⟩))⟩
variable{f:FE}
def g7(D:Tos Nn X)(I:DEx X G H0 e f)(z:Nn[i]?=some x:=by rfl)(J:swapsWith e (some (.Name x p')) pos.line X.env=pure false:=by rfl):DSx X G H0 (.Assign [.Name x p'] e pos) (sSet i f):=zvu (D.t z).nd (D.t z).n I (zqp (D.t z).nd (D.t z).n (D.t z).l I.out J (D.t z).f)
def znp(ps:PS X (.Assign [.Name x p'] e pos) (tAsg (tDF X.K G H0 F) (kq i))):DSx X G H0 (.Assign [.Name x p'] e pos) (sSet i (fLst F)):=⟨(PS.imp ps (t':=tAsg (tD X.K G H0 (fLst F)) (kq i)) λDn σ H h=>fr_D σ H _ h).imp λDn σ H D=>by
 obtain⟨W,env,fl,env',ok,q,k⟩:=D;cases e1:fLst F env with
 |none=>simp only[sSet,e1,Option.map_none] at q;cases q
 |some r =>
   have q:some (Fl.nx,r.2.set i (some (Sl.sh r.1)))=some (fl,env'):=by simpa only[sSet,e1,aq] using q
   cases q;exact⟨W,env,_,_,ok,e1,λW1 J H1 I z p1=>k W1 _ H1 I (z.set p1)⟩⟩
variable{y:Str}{ix:b5}{sc:Scope}{spos:Pos}{te:FA}
def u5{S:Pos}{te:FE}(an:Ats Nn Cn X)(J:Tos Nn X)(hi:DIx X G H0 (.Name x px) a fi)(L:∀cl C s₂ H₂ fp G H0,Ats (x::(subN Nn ix)) (subN Nn ix) (iw X x (subN Nn ix) sc cl C s₂ H₂ fp)->DEx (iw X x (subN Nn ix) sc cl C s₂ H₂ fp) G H0 e te)(I:n8 Nn Cn ix x sc=true:=by decide +kernel)(U:X.calm=true:=by rfl)(z:Nn[i]?=some y:=by rfl)(R:swapsWith (.ListComp e [⟨.Name x px,a,[],0⟩] sc pos) (some (.Name y S)) spos.line X.env=pure true:=by rfl)(V:∀v,foldedSetIterable a X.env v=pure v:=by intro _;rfl) :
  PS X (.Assign [.Name y S] (.ListComp e [⟨.Name x px,a,[],0⟩] sc pos) spos) (tAsg (tDF X.K G H0 (iq fi ix fYes te)) (kq i)) :=
 (zng (uz an I) (λ_ _ _ _ _ _ _ _ _=>U) (J.t z).nd (J.t z).n (J.t z).l hi.out (λcl C s₂ H₂ fp _=>ub (X:=X) rfl) (λcl C s₂ H₂ fp _=>el_x (X:=X) rfl (λG H0=>L cl C s₂ H₂ fp G H0 (u9 I))) R (J.t z).f V).imp λD σ H h=>zqz σ H _ h
abbrev FA2:=DE0->Option (List ei×DE0)
def tDF2(K:dc)(G:Gd)(H0:Hp)(f:FA2):TE:=λσ H Q=>DP K G H0 f (λW env dss env' =>
 ∀W' l H',Step W H W' H'->Ok K G H0 W' env' σ H'->SlOk K G W' H' (.o2 dss) (.ref l) ->
  (∀(j:Nat) (s:Sl) (v:V) (a:Addr),env'[j]?=some (some s)->σ[j]?=some (some v)->Owns H' (.o2 dss) (.ref l) a->¬Owns H' s v a)->Q (.ref l) H') σ H
structure DF2x (X:Cx) (G:Gd) (H0:Hp) (e:Expr) (f:FA2):Prop where
 out:PE X e (tDF2 X.K G H0 f)
@[simp] def t9(i:Nat)(f:FA2):FS:=λe=>(f e).map λr=>(.nx,r.2.set i (some (.o2 r.1)))
def zso{z:FA2}(ps:PS X (.Assign [.Name x p'] e pos) (tAsg (tDF2 X.K G H0 z) (kq i))):DSx X G H0 (.Assign [.Name x p'] e pos) (t9 i z):=⟨ps.imp λDn σ H I=>by
 obtain⟨W,env,fl,env',ok,q,k⟩:=I;cases e1:z env with
 |none=>simp[e1] at q |some r =>
   have q:some (Fl.nx,r.2.set i (some (Sl.o2 r.1)))=some (fl,env'):=by simpa[t9,e1] using q
   cases q;exact⟨W,env,_,_,ok,e1,λW1 l H1 J D h1 L=>k W1 _ H1 J (D.put h1 L)⟩⟩
def qj(te:FA)(base:DE0):ei->Option (List ei)
 | []=>some [] |d::r=>(te (some (.sh d)::base)).bind λv=>(qj te base r).map (v.1::·)
def pf(fi:FI)(ix:b5)(te:FA):FA2:=λe=>(fi e).bind λr=>if Few r.1.length then(qj te (ix.map λj=>capt (r.2.getD j none)) r.1).map λds=>(ds,r.2) else none
def tDxF(K:dc)(f:FA):TE:=λσ H Q=>∃G H0,tDF K G H0 f σ H Q
def zxr{X':Cx}(z:X'.K=X.K)(h:∀G H0,DFx X' G H0 e te):PE X' e (tDxF X.K te):=λpins s σ H Q I ⟨G,H0,q⟩=>(h G H0).out pins s σ H Q I (by rw[z];exact q)
inductive zvy (X:Cx) (G:Gd) (H0:Hp) (env:DE0) (σ:St) (W1:Addr->Prop) (H1:Hp) (ds:ei) (d:List ei) (f:ei->Option (List ei)) (i m:Nat) (H':Hp) (ys:ed):Prop
 |mk (Wi:Addr->Prop) (rest done:List ei) (ls:b4) (hm:m=ds.length-i) (hi:i<=ds.length) (sm:Same H1 H') (st:Step W1 H1 Wi H') (ok:Ok X.K G H0 Wi env σ H') (hy:ys=ls.map V.ref) (inn:Inn X.K G Wi H' done ls) (nd:ls.Nodup) (fr:∀a∈ls,H1 a=none) (hd:done.length<=i) (ec:f (ds.drop i)=some rest) (hz:d=done++rest):zvy X G H0 env σ W1 H1 ds d f i m H' ys
theorem zsp:∀σ H Q,tDF2 X.K G H0 (pf fi ix te) σ H Q->o6 (tDI X.K G H0 fi) ix (tDxT X.K fYes) (tDxF X.K te) σ H Q:=λσ H Q z=>by
 obtain⟨W,env,d,env',ok,q,k⟩:=z;obtain⟨⟨ds,Z⟩,e1,q⟩:=cv.mp q;by_cases P:Few ds.length;case neg=>cases (if_neg P).symm.trans q
 obtain⟨ao,e2,q⟩:=g8.mp ((if_pos P).symm.trans q);cases q;refine⟨W,env,ds,_,ok,e1,λW1 J H1 s1 g wk=>⟨zvy X G H0 Z σ W1 H1 ds d (qj te (ix.map λj=>capt (Z.getD j none))),⟨ds.length,W1,d,[],[],rfl,eh _,Same.refl _,Step.refl,g,rfl,⟨rfl,λj ds a e=>by cases e⟩,List.nodup_nil,(λa h=>by cases h),bg _,e2,rfl⟩,λi m H' ys z=>?_⟩⟩;obtain⟨A,rest,D,ls,hm,hi,sm,st,R,hy,S,nd,fr,hd,u,T⟩:=z;subst hm hy;have I:ls.length=D.length:=S.1;have B:∀a∈ls,∃vs,H' a=some (.lst vs):=λa C=>by
  obtain⟨j,hj,e⟩:=List.getElem_of_mem C;obtain⟨_,vs,h,_⟩:=S.2 j (D[j]'(I ▸ hj)) a (ai _) (e ▸ ai hj);exact⟨vs,h⟩
 by_cases L:i<ds.length
 ·rw[fg L] at u
  obtain⟨⟨dv,E⟩,e4,u⟩:=cv.mp u;obtain⟨n,e5,e6⟩:=g8.mp u;obtain⟨hg,hy⟩:=wk.go A H' i ds[i] st (ai L);refine .inr ⟨hg,λx U y=>?_⟩;obtain⟨e,rx⟩:=hy x U y;subst e;refine⟨_,_,NoW,_,true,_,yv (ix:=ix) R rx,rfl,λW2 H2 s2 aa=>?_⟩;refine⟨_,_,W2,_,dv,E,aa,e4,λW3 l vs H3 s3 ag F nW M rp=>⟨?_,ds.length-(i+1),j1 _ _ L,?_⟩⟩
  ·rw[ac,I];exact ba (Nat.lt_of_le_of_lt hd (ba L P)) u7
  ·have p:Same U H3:=ag.stay
   have c:U l=none:=(F.wl l (.inr rfl)).1;obtain⟨q1,q2,q3,q4,q5⟩:=R.fresh p c M (rp.mono (O':=λa=>(Ow G A a\/U a=none)/\a≠l) (λ_ _ h=>h) λa us o h=>⟨⟨o.1,λz=>o.2 (.inr z)⟩,h⟩);have nl:l∉ls:=λz=>by obtain⟨us,h⟩:=B l z;rw[c] at h;cases h
   refine⟨addW A l,n,D++[dv],ls++[l],rfl,L,sm.trans p,st.trans q5,q3,by simp,⟨by simp[I],λj es a Y f=>?_⟩,?_,λa C=>?_,by rw[aj,cr];lia,e5,by rw[T,<-e6,b9];rfl⟩
   ·by_cases hj:j<D.length
    ·rw[ce hj] at Y
     rw[ce (by lia)] at f;obtain⟨w,us,h,r⟩:=S.2 j es a Y f;exact⟨.inl w,us,p _ _ h,R.reps q5 r⟩
    ·rw[gh (by lia)] at Y
     rw[gh (by lia),I] at f;have T:j-D.length=0:=by
      have:=(am.mp Y).1;simp at this;lia
     rw[T] at Y f;simp[Option.some.injEq] at Y f;subst Y f;exact⟨.inr rfl,vs,M,q4⟩
   ·rw[List.nodup_append]
    exact⟨nd,by simp,λa C b hb=>by simp only[de] at hb;subst hb;intro z;subst z;exact nl C⟩
   ·rcases dh.mp C with z |z
    ·exact fr a z
    ·rw[de.mp z];exact sm.free c
 ·cases mz hi (jf L)
  rw[ii] at u;cases u;refine .inl ⟨wk.stop A H' st,by rw[ac,I];exact bh hd (bh P u7),λl c=>?_⟩;have t:Same H' (upd H' l (.lst (ls.map V.ref))):=si c;obtain⟨q1,q2,q3,q4⟩:=R.fresh0 (vs:=ls.map V.ref) t c km;have nl:l∉ls:=λz=>by obtain⟨us,h⟩:=B l z;rw[c] at h;cases h
  have al:Same H1 (upd H' l (.lst (ls.map V.ref))):=sm.trans t;rw[T,ca] at k;refine k (addW A l) l _ ((s1.trans st).trans q4) q3 ⟨l,ls,rfl,.inr rfl,km,fy.mpr ⟨nl,nd⟩,S.1,λj es a Y f=>?_⟩ λj s v a ej ev o1 o2=>?_
  ·obtain⟨w,us,h,r⟩:=S.2 j es a Y f
   exact⟨.inl w,us,t _ _ h,R.reps q4 r⟩
  ·obtain⟨v',N,hs⟩:=g.slot j s ej
   rw[ev] at N;cases N;have an:Owns H1 s v a:=hs.back (λl' _ _ vs q=>al _ _ q) o2;have wa:W1 a:=hs.owns an;have O:H1 a≠none:=λz=>by obtain⟨_,us,q⟩:=g.wl a wa;rw[z] at q;cases q
   rcases o1 with o1 | ⟨l',ls',z,q,hb⟩
   ·cases o1;exact O (sm.free c)
   ·cases z
    rw[km] at q;have:=sj (by simpa using q);subst this;exact O (fr a hb)
def zpp{S:Pos}(an:Ats Nn Cn X)(J:Tos Nn X)(hi:DIx X G H0 (.Name x px) a fi)(L:∀cl C s₂ H₂ fp G H0,Ats (x::(subN Nn ix)) (subN Nn ix) (iw X x (subN Nn ix) sc cl C s₂ H₂ fp)->DFx (iw X x (subN Nn ix) sc cl C s₂ H₂ fp) G H0 e te)(I:n8 Nn Cn ix x sc=true:=by decide +kernel)(U:X.calm=true:=by rfl)(z:Nn[i]?=some y:=by rfl)(R:swapsWith (.ListComp e [⟨.Name x px,a,[],0⟩] sc pos) (some (.Name y S)) spos.line X.env=pure true:=by rfl)(V:∀v,foldedSetIterable a X.env v=pure v:=by intro _;rfl) :
  PS X (.Assign [.Name y S] (.ListComp e [⟨.Name x px,a,[],0⟩] sc pos) spos) (tAsg (tDF2 X.K G H0 (pf fi ix te)) (kq i)) :=
 (zng (uz an I) (λ_ _ _ _ _ _ _ _ _=>U) (J.t z).nd (J.t z).n (J.t z).l hi.out (λcl C s₂ H₂ fp _=>ub (X:=X) rfl) (λcl C s₂ H₂ fp _=>zxr (X:=X) rfl (λG H0=>L cl C s₂ H₂ fp G H0 (u9 I))) R (J.t z).f V).imp λD σ H h=>zsp σ H _ h
variable{env:DE0}{σ:St}
def zsq(ok:Ok X.K G H0 W env σ H):Ok X.K (gd λa=>Ow G W a\/H a=none) H NoW (env.map capt) σ H:=by
 have L:∀ {d:D} {v:V},Rep X.K H (Ow G W) d v->Rep X.K H (Ow (gd λa=>Ow G W a\/H a=none) NoW) d v:=λr=>r.mono (λ_ _ h=>h) λa us o h=>⟨⟨.inl o,λz=>z⟩,h⟩;have I:∀(i:Nat) (s:Sl),(env.map capt)[i]?=some (some s)->∃d',s=.sh d'/\env[i]?=some (some (.sh d')):=λi s z=>by
  rw[bv] at z;cases q:env[i]? with
  |none=>rw[q] at z;cases z
  |some o =>
    rw[q] at z;have z:capt o=some s:=az z;unfold capt at z;split at z
    ·cases z;exact⟨_,rfl,rfl⟩
    ·cases z
 refine⟨Same.refl _,λa z=>.inr z,λl z=>z.elim,λi s e=>?_,λi j R s2 S v2 a J _ _ _ o _=>by obtain⟨d',rfl,_⟩:=I i R J;exact o.elim,by rw[ac];exact ok.len⟩;obtain⟨d',rfl,e'⟩:=I i s e;obtain⟨v,J,r⟩:=ok.slot i _ e';exact⟨v,J,L r⟩
variable{v:V}{d:D}
def zvz{D:Addr->Prop}{H2:Hp}(ok:Ok X.K G H0 W env σ H)(r:Rep X.K H2 (Ow (gd λa=>Ow G W a\/H a=none) D) d v):Rep X.K H2 (Ow G W) d v:=r.mono (λ_ _ h=>h) λa us o h=>⟨by
 rcases o.1 with z |z
 ·exact z
 ·exact⟨ok.good a (ok.stay.free z),λw=>by obtain⟨_,us,q⟩:=ok.wl a w;rw[z] at q;cases q⟩,h⟩
variable{α:Type}{j:Nat}
def zv0{xs:List α}{k:Int}{y:α}(h:ixN xs.length k=some j)(h2:xs[j]?=some y):atI xs k=some y:=by
 unfold atI;rw[h];exact h2
def zpq{dss:List ei}{k:Int}(ok:Ok X.K G H0 W env σ H)(L:env[i]?=some (some (.o2 dss)))(R:σ[i]?=some (some v))(S:ixN dss.length k=some j)(I:dss[j]?=some ds) :
  ∃(l:Addr) (ls:b4) (a:Addr) (vs:ed),v=.ref l/\H l=some (.lst (ls.map V.ref))/\ls[j]?=some a/\atI (ls.map V.ref) k=some (.ref a)/\H a=some (.lst vs)/\Reps X.K H (Ow G W) ds vs:=by
 obtain⟨Y,J,l,ls,rfl,Z,U,b,hi⟩:=ok.slot i _ L;rw[R] at J;cases J;have z:j<ls.length:=by rw[hi.1];exact(am.mp I).1
 obtain⟨_,vs,h,r⟩:=hi.2 j ds ls[j] I (by simp[z]);exact⟨l,ls,ls[j],vs,rfl,U,by simp[z],zv0 (j:=j) (by rw[ac,hi.1];exact S) (by simp[z]),h,r⟩
@[simp] def app2(k d:D)(e:DE0)(i:Nat):Option (D×DE0):=match k,e[i]? with
 | .int k,some (some (.o2 dss))=>(ixN dss.length k).bind λj=>(dss[j]?).bind λds=>if Few (ds.length+1) then some (.non,e.set i (some (.o2 (dss.set j (ds++[d]))))) else none
 |_,_=>none
@[simp] def u4(i:Nat)(g f:FE):FE:=λe=>match e[i]? with
 |some (some (.o2 _))=>(g e).bind λr=>(f (r.2.map capt)).bind λq=>app2 r.1 q.1 r.2 i
 |_=>none
variable{g:FE}{p2:Pos}
theorem zl6(u:DEx X G H0 b g)(w:∀G H0,DEx X G H0 a f)(an:Ats Nn Cn X)(Y:sf b:=by intro _ _;rfl)(Z:Nn[i]?=some x:=by rfl)(J:attributeBase (.Subscript (.Name x p') b p2) "append" X.env (eval (.Subscript (.Name x p') b p2) X.env)=eval (.Subscript (.Name x p') b p2) X.env:=by rfl)(R:((backTo pos (starEach [a] X.env)).all (λx=>!x.1) && (backToKw pos (keywordEach [] X.env)).all (λx=>x.1.isSome)
   && decide ([a].length+([]:List Keyword).length+(if ([]:List Keyword).isEmpty then 0 else 1)<30))=true:=by rfl)(L:(p1.endLine==pos.line)=true:=by rfl)(o:starEach [a] X.env=(false,eval a X.env)::starEach [] X.env:=by rfl) :
  DEx X G H0 (.Call (.Attribute (.Subscript (.Name x p') b p2) "append" p1) [a] [] pos) (u4 i g f) :=
 ⟨(qa dy qy qx ziz (xq yb ((an.a Z).pe) u.out Y) (lf (el_x (X:=X) rfl w) ma o) J R L o rfl).imp λσ H Q y=>by
  obtain⟨W,env,d,env',ok,q,k⟩:=y;unfold u4 at q;split at q;case h_2=>cases q
  rename_i A c;obtain⟨v,e,_⟩:=ok.slot i _ c;cases e1:g env with
  |none=>rw[e1] at q;cases q
  |some r =>
    obtain⟨N,I⟩:=r;rw[e1,ab] at q;dsimp only at q;cases e2:f (I.map capt) with
    |none=>rw[e2] at q;cases q
    |some h =>
      obtain⟨B,S⟩:=h;rw[e2,ab] at q;unfold app2 at q;split at q;case h_2=>cases q
      rename_i kk dss p;cases e3:ixN dss.length kk with
      |none=>rw[e3] at q;cases q
      |some j =>
        rw[e3,ab] at q;cases e4:dss[j]? with
        |none=>rw[e4] at q;cases q
        |some ds =>
          rw[e4,ab] at q;split at q;case isFalse=>cases q
          rename_i U;cases q;refine⟨v,e,W,env,_,I,ok,e1,λW1 O H1 C z E=>?_⟩;obtain⟨l,ls,a,vs,rfl,s,m,n,t,r⟩:=zpq z p e e3 e4;refine .inl ⟨l,_,kk,.ref a,rfl,E.int_,.inl (.inl s),n,.inl ⟨rfl,vs,.inl (.inl t)⟩,?_⟩;refine⟨_,_,NoW,_,B,S,zsq z,e2,λP v2 H2 s2 D h=>?_⟩;have V:=z.same D.stay;have F:=z.reps (Step.same D.stay) r;obtain⟨K,M⟩:=V.turn2 p e (D.stay _ _ s) e4 m (F.append (.cons (zvz z h) .nil));exact⟨a,vs,v2,rfl,rfl,D.stay _ _ t,by rw[<-r.length];exact lt20 (kz U),k W1 _ _ ((C.trans (Step.same D.stay)).trans M) K .non⟩⟩
def zb1{env:Env}:∀ {names:List (Str×NameKind)} {x:Str},names.lookup x=some .globalImplicit ->
  (names.map λ(n,k)=>if (k==NameKind.free && env.scope.kind==.function && env.kindOf n==some .cell) then(n,NameKind.cell) else(n,k)).lookup x=some .globalImplicit
 | (n,k)::r,x,h=>by
   have z:=@zb1 env r x;show List.lookup x ((if (k==NameKind.free && env.scope.kind==.function && env.kindOf n==some .cell)=true then(n,NameKind.cell) else(n,k))::_)=_;cases hx:x==n with
   |true =>
     simp only[b6,hx] at h;cases h;simp[b6,hx]
   |false =>
     simp only[b6,hx] at h;by_cases D:(k==NameKind.free && env.scope.kind==.function && env.kindOf n==some .cell)=true
     ·rw[if_pos D];simp only[b6,hx];exact z h
     ·rw[if_neg D];simp only[b6,hx];exact z h
variable{s:Shared}{N':bt}{cl:List (Str×Addr)}{C:Addr}{fp:b4}
def gl_c(h:sc.names.lookup x=some .globalImplicit):Gl (iw X y N' sc cl C s H fp) x:=zb1 h
def zv1:Ty "int" "int":=⟨by decide +kernel,by decide +kernel,by decide +kernel,by decide +kernel⟩
def zsr:Ty "bool" "bool":=⟨by decide +kernel,by decide +kernel,by decide +kernel,by decide +kernel⟩
def xv:Ty "str" "str":=⟨by decide +kernel,by decide +kernel,by decide +kernel,by decide +kernel⟩
def znr:Ty "list" "list":=⟨by decide +kernel,by decide +kernel,by decide +kernel,by decide +kernel⟩
def zpr:Ty "tuple" "tuple":=⟨by decide +kernel,by decide +kernel,by decide +kernel,by decide +kernel⟩
def zss(l:List α)(k:Nat)(y:α):(l.toArray.extract 0 k).push y++l.toArray.extract k=(l.take k++y::l.drop k).toArray:=by
 simp;exact g9 (by simp)
def zst:V->ed->Hp->VK->Prop:=λx vs H Q=>∃(l:Addr) (xs:ed) (i:Int) (y:V),x=.ref l/\vs=[.int i,y]/\H l=some (.lst xs)/\0<=i/\i<=xs.length/\i<2 ^ 62/\xs.length<sizeLine/\Q .non (upd H l (.lst (xs.take i.toNat++y::xs.drop i.toNat)))
def Vals.ins{xs:ed}{its:b0}{y:V}{u:Value}(r:Vals xs its)(z:Vals [y] [u])(k:Nat):Vals (xs.take k++y::xs.drop k) (its.take k++u::its.drop k):=by
 have:=(r.take k).append (z.append (r.drop k));simpa using this
theorem zns:MtM X "list.insert" zst:=by
 intro pins s σ H x vs v us Q I S U h;obtain⟨l,xs,i,y,rfl,rfl,L,Y,h1,h2,Z,q⟩:=h;cases S;obtain⟨a,R,rfl,D,J⟩:=U.two;obtain⟨t,rfl⟩:=D;obtain⟨z,its,n,r,b,e⟩:=I.lstM L;refine call_meets F.slot_list_insert ⟨_,e,rfl⟩ F.entry_list_insert (F.args_list_insert_3 _ _ _) (PySem.AutoSeq1.list_insert_list_int_val_1 l its.toArray n i t R (by rw[fitsIndex_both (k:=i) (by lia) (by lia)];decide) (by rw[a0];lia)) ⟨e,?_⟩;refine⟨.non,_,I.lset (its':=its.take i.toNat++R::its.drop i.toNat) L e ?_ (Vals.ins r (.cons J .nil) _) ?_,rfl,q⟩
 ·have V:(if i<0 then(i+(its.toArray.size:Int)).toNat else min i.toNat its.toArray.size)=i.toNat:=by
   rw[if_neg (by lia),a0]
   lia
  rw[V,zss]
 ·rw[aj,av,dn,l0]
  lia
def wx(k d:D)(e:DE0)(i:Nat):Option (D×DE0):=match k,e[i]? with
 | .int k,some (some (.ow ds))=>if 0<=k/\k<=ds.length/\Few (ds.length+1) then some (.non,e.set i (some (.ow (ds.take k.toNat++d::ds.drop k.toNat)))) else none
 |_,_=>none
def uw(i:Nat)(f g:FE):FE:=λe=>match e[i]? with
 |some (some (.ow _))=>(bw f (bw g fNil) e).bind λr=>match r.1 with | [k,d]=>wx k d r.2 i |_=>none
 |_=>none
theorem znt(n:DEx X G H0 a f)(o:DEx X G H0 b g)(an:Ats Nn Cn X)(S:Nn[i]?=some x:=by rfl)(D:attributeBase (.Name x p') "insert" X.env (eval (.Name x p') X.env)=eval (.Name x p') X.env:=by rfl)(J:((backTo pos (starEach [a,b] X.env)).all (λx=>!x.1) && (backToKw pos (keywordEach [] X.env)).all (λx=>x.1.isSome)
   && decide ([a,b].length+([]:List Keyword).length+(if ([]:List Keyword).isEmpty then 0 else 1)<30))=true:=by rfl)(I:(p1.endLine==pos.line)=true:=by rfl)(e:starEach [a,b] X.env=(false,eval a X.env)::starEach [b] X.env:=by rfl)(U:starEach [b] X.env=(false,eval b X.env)::starEach [] X.env:=by rfl)(V:(backTo pos (starEach [b] X.env)).any (·.1)=false:=by rfl) :
  DEx X G H0 (.Call (.Attribute (.Name x p') "insert" p1) [a,b] [] pos) (uw i f g):=⟨(qa dy PySem.F.slot_list_insert PySem.F.type_list_insert zns ((an.a S).pe) (cy n (cy o d9 U) e).out D J I e V).imp λσ H Q p=>by
 obtain⟨W,env,d,env',ok,q,k⟩:=p;unfold uw at q;split at q;case h_2=>cases q
 rename_i s Y;obtain⟨v,Z,l,t,rfl,u,c,_⟩:=ok.slot i _ Y;cases e1:bw f (bw g fNil) env with
 |none=>rw[e1] at q;cases q
 |some r =>
   obtain⟨w,L⟩:=r;rw[e1,ab] at q;dsimp only at q;split at q;case h_2=>cases q
   unfold wx at q;split at q;case h_2=>cases q
   rename_i kk ds h;split at q;case isFalse=>cases q
   rename_i y;obtain⟨A,B,j⟩:=y;cases q;refine⟨_,Z,.inl ⟨rfl,_,.inl (.inl c)⟩,W,env,_,L,ok,e1,λW1 C H1 E R K=>?_⟩;obtain⟨v',m,l',vs,M,hW,N,r⟩:=R.slot i _ h;rw[Z] at m;cases m;cases M;cases K with
   |cons q1 r2 =>
   cases r2 with
   |cons q2 r3 =>
   cases r3;cases q1;obtain⟨O,P⟩:=R.turn h Z ((r.take kk.toNat).append (.cons q2 (r.drop kk.toNat)));have z:=r.length;have T:ds.length<sizeLine:=lt20 (kz j);have c4:ds.length+1<=2 ^ 20:=j;exact⟨l,vs,kk,_,rfl,rfl,N,A,by rw[<-z];exact B,by lia,by rw[<-z];exact T,k W1 _ _ (E.trans P) O .non⟩⟩
def oh:b5->ei->DE0->DE0
 |i::ix,d::ds,e=>oh ix ds (e.set i (some (.sh d)))
 |_,_,e=>e
def gIs:b5->TGs
 | []=>gNil |i::ix=>zug (kq i) (gIs ix)
def sUnp(ix:b5)(f:FE):FS:=λe=>(f e).bind λr=>match r.1 with
 | .tup ds=>if ds.length=ix.length then some (.nx,oh ix ds r.2) else none
 |_=>none
def unp(ix:b5)(d:D)(e:DE0):Option DE0:=match d with
 | .tup ds=>if ds.length=ix.length then some (oh ix ds e) else none
 |_=>none
def forU(ix:b5)(g:FS):ei->DE0->Option (Fl×DE0)
 | [],e=>some (.nx,e) |d::r,e=>(unp ix d e).bind λz=>(g z).bind λq=>match q.1 with | .nx=>forU ix g r q.2 | .ct=>forU ix g r q.2 | .bk=>some (.nx,q.2) | .rt d=>some (.rt d,q.2) | .rf ds=>some (.rf ds,q.2) | .r2 ds=>some (.r2 ds,q.2) | .xc c=>some (.xc c,q.2) | .ra k ps=>some (.ra k ps,q.2)
@[simp] def l4(ix:b5)(fi:FI)(g:FS):FS:=λe=>(fi e).bind λr=>forU ix g r.1 r.2
def zq1{K:dc}{W:Addr->Prop}{H:Hp}:∀(ix:b5) (ds:ei) (vs:ed) (env:DE0) (σ:St) (Q:St->Hp->Prop),Ok K G H0 W env σ H->Reps K H (Ow G W) ds vs->ds.length=ix.length ->
  (∀z,Ok K G H0 W (oh ix ds env) z H->Q z H)->gIs ix vs σ H Q
 | [],ds,vs,env,σ,Q,ok,r,hl,k=>by
   cases r with
   |nil=>exact⟨rfl,k σ ok⟩ |cons _ _=>cases hl
 |i::ix,ds,vs,env,σ,Q,ok,r,hl,k=>by
   cases r with
   |nil=>cases hl
   | @cons d v ds vs r0 r =>
     refine⟨v,vs,rfl,?_⟩;exact zq1 ix ds vs _ _ Q (ok.set r0) r (kx hl) k
def uq  : PGs X [] (gIs []):=zro
variable{es:ci}
def me(D:Tos Nn X)(h:PGs X es (gIs ix))(z:Nn[i]?=some x:=by rfl)(I:(assignEach (.Name x pos::es) X.env).map (·.2)=assign (.Name x pos) X.env::(assignEach es X.env).map (·.2):=by rfl):PGs X (.Name x pos::es) (gIs (i::ix)):=zo4 (zmu (D.t z).nd (D.t z).n (D.t z).l (D.t z).f) h I
def yo(hi:DJx X G H0 (.Tuple es k p1) a fi)(h:PGs X es (gIs ix))(J:DBx X G H0 body u)(R:PassesOwn (model X.prog X.w) X.A X.env X.xe:=by passes_own)(D:X.calm=true:=by rfl)(S:(assignEach es X.env).length=ix.length:=by rfl)(z:(assignEach es X.env).findIdx? (·.1)=none:=by rfl)(U:∀x,foldedSetIterable a X.env x=pure x:=by intro _;rfl):DSx X G H0 (.For (.Tuple es k p1) a body [] pos) (l4 ix fi u) :=
 zno (b:=unp ix) (L:=forU ix u) hi (zuh (n:=ix.length) D h S z) J (λ{W env env' σ H d x Q} ok r e k=>by
  unfold unp at e;split at e;case h_2=>cases e
  split at e;case isFalse=>cases e
  rename_i I;cases e;cases r with
  | @tup a vs _ ht rr=>exact⟨a,vs,rfl,.inl (.inl ht),by rw[<-rr.length];exact I,zq1 ix _ vs _ σ _ ok rr I k⟩) (λ_=>rfl) (λ_ _ _=>rfl) R D U
def znu(hi:DIx X G H0 (.Tuple es k p1) a fi)(h:PGs X es (gIs ix))(D:DBx X G H0 body u)(I:PassesOwn (model X.prog X.w) X.A X.env X.xe:=by passes_own)(J:X.calm=true:=by rfl)(L:(assignEach es X.env).length=ix.length:=by rfl)(z:(assignEach es X.env).findIdx? (·.1)=none:=by rfl)(R:∀x,foldedSetIterable a X.env x=pure x:=by intro _;rfl):DSx X G H0 (.For (.Tuple es k p1) a body [] pos) (l4 ix fi u):=yo hi.dj h D I J L z R
def fRep(F:FA)(g:FE):FA:=λe=>(F e).bind λr=>(g r.2).bind λq=>match q.1 with
 | .int k=>if Few (r.1.length*k.toNat)/\Bnd (-(2 ^ 62)) (2 ^ 62) k then some ((List.replicate k.toNat r.1).flatten,q.2) else none
 |_=>none
def Reps.rep{K:dc}{H:Hp}{O:Addr->Prop}{ds:ei}{vs:ed}(r:Reps K H O ds vs):∀k:Nat,Reps K H O (List.replicate k ds).flatten (List.replicate k vs).flatten
 |0=>.nil |k+1=>by
   exact r.append (Reps.rep r k)
theorem zv2(e:DFx X G H0 a F)(f:DEx X G H0 b g):DFx X G H0 (.BinOp a .Mult b pos) (fRep F g):=⟨(xn zu6 e.out f.out).imp λσ H Q i=>by
 obtain⟨W,env,d,env',ok,q,k⟩:=i;unfold fRep at q;cases e1:F env with
 |none=>rw[e1] at q;cases q
 |some r =>
   obtain⟨ds,D⟩:=r;rw[e1,ab] at q;cases e2:g D with
   |none=>rw[e2] at q;cases q
   |some r2 =>
     obtain⟨C,V⟩:=r2;rw[e2,ab] at q;dsimp only at q;split at q;case h_2=>cases q
     rename_i kk;split at q;case isFalse=>cases q
     rename_i j;obtain⟨m,p,s⟩:=j;cases q;refine⟨W,env,_,_,ok,e1,λW1 l vs H1 Y I Z t u c=>⟨W1,D,_,_,I,e2,λv v2 H2 s2 J p2=>?_⟩⟩;have L:Step W H W1 H1:=⟨Y.keep,λa h=>Y.ws a (.inl h)⟩;have R:Reps X.K H1 (Ow G W1) ds vs:=c.mono (λ_ _ h=>h) λa us o h=>⟨⟨o.1,λz=>o.2 (.inl z)⟩,h⟩;have S:=I.reps s2 R;have U:H2 l=some (.lst vs):=s2.keep l _ u t;cases p2;refine⟨l,kk,vs,rfl,rfl,U,by lia,by lia,?_,λn w=>?_⟩
     ·rw[<-c.length];exact bh m (by rw[sizeLine_eq];decide)
     ·obtain⟨h1,h2,x,y,A,B⟩:=mq J (Reps.rep S kk.toNat) w
      exact k v n _ _ ((L.trans s2).trans h1) h2 x y A B⟩
variable{wr:b4}{pins:dt}{h2:Heap}
def Inv.tupled{tk:Nat}{T:Addr}{us:eb}(I:Inv X pins σ H s)(L:∀b∈wr,FpOk X pins H b)(hT:s.heap.objs.size<=T)(f:T∉wr)(k:∀b o,b∉wr->s.heap.get? b=some o->h2.get? b=some o)(U:h2.IsTuple T us)(V:Vals vs us.toList)(Y:vs.length<=sizeLine) :
  Inv X pins σ (upd H T (.tup vs)) { s with heap:=h2,toks:=tk }:=by
 have R:H T=none:=I.hok.fresh hT;have S:∀b u,H b=some u->b∉wr:=λb u e z=>by rw[(L b z).1] at e;cases e
 have neT:∀b o,s.heap.get? b=some o->b≠T:=λb o e=>bz (ba (bj e) hT);refine I.step (g':=s.gens) (d':=s.drawn) (ch:=wr) (λb D=>⟨(L b D).2.2.2.1,(L b D).2.1,(L b D).2.2.2.2.1,(L b D).2.2.2.2.2⟩) (λb o _ _ J e _=>k b o J e) (λb o _ _ J e _=>⟨o.slots,k b o J e⟩)
  (λb o _ e n=>by rw[ic (neT b o e)];exact n) (λb o J e=>⟨o,k b o J e⟩) (λb xs e=>by rw[ic (lh e R)];exact e) (λb o u e=>by rw[ic (lh e R)];exact e)
  (λb ps e=>⟨#[],by rw[ic (lh e R),e];simp⟩) (λm Z=>?_) (λb u e=>?_) I.bare
 ·obtain⟨o,es,a,d,r⟩:=Z
  exact⟨o,es,a,k _ o (λz=>(L _ z).2.1 rfl) d,r⟩
 ·by_cases D:b=T
  ·subst D
   rw[km] at e;cases e;exact⟨Y,us.toList,V,by rw[Array.toArray_toList];exact U⟩
  ·rw[ic D] at e
   refine(I.hok b u e).stay (λc v J q=>k c v ?_ q) (λc q=>by rw[ic (lh q R)];exact q) λc xs q=>by rw[ic (lh q R)];exact q
   rcases J with z |z
   ·rw[z];exact S b u e
   ·exact S c _ z
def Inv.turnedL{tk:Nat}(I:Inv X pins σ H s)(J:∀b∈wr,FpOk X pins H b)(k:∀b o,b∉wr->s.heap.get? b=some o->h2.get? b=some o) :
  Inv X pins σ H { s with heap:=h2,toks:=tk }:=by
 have L:∀b u,H b=some u->b∉wr:=λb u e z=>by rw[(J b z).1] at e;cases e
 refine I.step (g':=s.gens) (d':=s.drawn) (ch:=wr) (λb R=>⟨(J b R).2.2.2.1,(J b R).2.1,(J b R).2.2.2.2.1,(J b R).2.2.2.2.2⟩) (λb o _ _ D e _=>k b o D e) (λb o _ _ D e _=>⟨o.slots,k b o D e⟩)
  (λ_ _ _ _ n=>n) (λb o D e=>⟨o,k b o D e⟩) (λ_ _ e=>e) (λ_ _ _ e=>e) (λb ps e=>⟨#[],by rw[e];simp⟩) (λm S=>?_) (λb u e=>?_) I.bare
 ·obtain⟨o,es,U,V,r⟩:=S
  exact⟨o,es,U,k _ o (λz=>(J _ z).2.1 rfl) V,r⟩
 ·refine(I.hok b u e).stay (λc v D q=>k c v ?_ q) (λ_ q=>q) λ_ _ q=>q
  rcases D with z |z
  ·rw[z];exact L b u e
  ·exact L c _ z
def Itp(go:Nat->Hp->Prop)(pr:Nat->Hp->ed->Prop)(z:Nat->Hp->Prop):It :=
 ⟨go,λi H x H'=>∃t vs,H t=none/\x=.ref t/\H'=upd H t (.tup vs)/\pr i H vs,z⟩
variable{it:Addr}
def zv3{L:Nat->Heap->Prop}{go:Nat->Hp->Prop}{pr:Nat->Hp->ed->Prop}{D:Nat->Hp->Prop}(mem:it∈fp)(obj:∀i h,L i h->∀b∈fp,∃o,h.get? b=some o/\∀v,o.data≠.cell v)(keep:∀i h h',L i h->(∀b∈fp,∀o,h.get? b=some o->h'.get? b=some o)->L i h')(r:∀(X:Cx),X.prog=P->X.w=w->X.K=K->X.A.handled=none->∀(i:Nat) (pins:dt) (s:Shared) (σ:St) (H:Hp),Inv X pins σ H s->(∀b∈fp,FpOk X pins H b)->L i s.heap->(go i H\/D i H) ->
   ∃R wr n Pt St S j,WalksT P w X.A it R wr n Pt St S/\St j s.heap/\(∀b∈wr,b∈fp)/\(∀h,St (j+1) h->L (i+1) h)/\(go i H->j<n)/\(D i H->j=n) /\
    (go i H->∀z,Pt j z->∃vs,Vals vs z.toList/\vs.length<=sizeLine/\pr i H vs))(self:∀(A:Around) (i:Nat) (s:Shared) (Q:Value->Shared->Prop) (E:Value->Shared->Prop),L i s.heap->Q (.ref it) s->wpAny (model P w) A (pyIter (.ref it)) Q E s) :
  Turn P w K (.Tuple es k pos) (Itp go pr D) fp it L where
 mem:=mem
 obj:=obj
 keep:=keep
 item:=by
  intro X hP g l m i pins s σ H E I Y st Z;obtain⟨R,wr,n,Pt,St,S,j,W,p,U,a,lt,_,q⟩:=r X hP g l (I.ok.hd m) i pins s σ H I Y st (.inl Z);refine W.item j s _ _ (lt Z) p λT z h1 tk t hT u c kk=>⟨_,rfl,?_⟩;obtain⟨vs,x,y,B⟩:=q Z z t;have d:T∉wr:=W.apart j T h1 c;refine W.go es k pos j T _ _ _ c λh2 s2 f=>?_;refine⟨.ref T,upd H T (.tup vs),?_,rfl,⟨T,vs,I.hok.fresh hT,rfl,rfl,B⟩,a h2 s2,λb J=>?_⟩
  ·exact I.tupled (λb J=>Y b (U b J)) hT d (λb o J e=>f b o J (kk b o J e)) (u.at λo e=>f T o d e) x y
  ·obtain⟨o,C,_⟩:=obj i _ st b J
   rw[ic (bz (ba (bj C) hT))];exact(Y b J).1
 done:=by
  intro X hP g l m i pins s σ H E I Y st Z;obtain⟨R,wr,n,Pt,St,S,j,W,p,U,a,_,F,_⟩:=r X hP g l (I.ok.hd m) i pins s σ H I Y st (.inr Z);cases F Z;exact W.done s _ _ p λh1 tk kk=>⟨rfl,I.turnedL (λb J=>Y b (U b J)) kk⟩
 self:=self
variable{A:Around}{l:Addr}
theorem zl7(D:A.handled=none)(I:l≠it)(c:Nat)(its:eb) :
  Draws P w A.in1 it [it,l] (c+its.size) (λj x=>∃i,j=c+i/\its[i]?=some x) (λj h=>∃i,j=c+i/\i<=its.size/\h.IsListIter it l i/\h.IsList l its) where
 live:=λj h ⟨i,_,_,⟨o,e,_⟩,_⟩=>⟨o,e⟩
 frame:=λj h h' ⟨i,e,hi,a,b⟩ k=>⟨i,e,hi,a.at λo e=>k it (by simp) o e,b.at λo e=>k l (by simp) o e⟩
 item:=λj s Q E hj ⟨i,e,hi,a,b⟩ hQ=>by
  subst e;have hi:i<its.size:=by lia
  refine wpAny_nextOf_list_item a b (x:=its[i]) (by simp[hi]) λh' J z=>?_;exact hQ _ h' s.toks ⟨i,rfl,by simp[hi]⟩ ⟨i+1,by lia,hi,J,b.extBut z.extBut I⟩ z
 done:=λs Q E ⟨i,e,hi,a,b⟩ hE=>by
  have hi:i=its.size:=by lia
  subst hi;exact wpAny_nextOf_list_end D a b (by simp) hE
def Ite(K:dc)(a:Addr)(c:Nat):It :=
 Itp (λi H=>∃xs x,SqL K H a xs/\xs[i]?=some x) (λi H vs=>∃y,vs=[.int (c+i:Nat),y]/\∀xs,SqL K H a xs->xs[i]?=some y) (λi H=>∃xs,SqL K H a xs/\xs.length=i)
theorem zjc(a it e:Addr)(c:Nat)(N:e≠it) :
  Turn P w K (.Tuple es k pos) (Ite K a c) [e,it] e (λi h=>(∃J,IsEnum h e it (c+i:Nat) J)/\h.IsListIter it a i):=by
 refine zv3 (by simp) (λi h st b r=>?_) (λi h h' st kk=>?_) ?_ λA i s Q E st W=>?_
 ·obtain⟨⟨J,L⟩,o,ho,_,hd⟩:=st
  rcases b8.mp r with z |z
  ·subst z
   exact⟨_,L,λv z=>by cases (show Data.fields _=Data.cell v from z)⟩
  ·cases de.mp z
   exact⟨o,ho,λv z=>by rw[hd] at z;cases z⟩
 ·exact⟨st.1.imp λJ L=>kk e (by simp) _ L,st.2.at λo x=>kk it (by simp) o x⟩
 ·intro X hP hw hK hh i pins s σ H I hf st U
  subst hP hw hK;obtain⟨⟨J,L⟩,V⟩:=st;have B:∃xs,SqL X.K H a xs/\i<=xs.length:=by
   rcases U with⟨xs,x,q,Y⟩ | ⟨xs,q,Y⟩
   ·exact⟨xs,q,k3 (am.mp Y).1⟩
   ·exact⟨xs,q,Nat.le_of_eq Y.symm⟩
  obtain⟨xs,q,C⟩:=B;obtain⟨its,O,p,hz⟩:=I.list q;have hl:=O.length;obtain⟨ol,S,Z,_⟩:=id p.isList;obtain⟨oi,d,f,_⟩:=id V;have F:a≠it:=λz=>by
   subst z;rw[S] at d;cases d;rw[Z] at f;exact absurd f (by decide)
  have G:e≠a:=λz=>by
   subst z;rw[L] at S;cases S;exact absurd (show Value.type "enumerate" = Value.type "list" from Z) (by decide)
  have D:=zl7 (P:=X.prog) (w:=X.w) hh F c its.toArray;refine⟨_,_,_,_,_,_,c+i,WalksT.enumerateD D e N (by simp[N,G]) (by simp),⟨⟨J,L⟩,i,rfl,by simpa[<-hl] using C,V,p.isList⟩,λb r=>r,λh st=>?_,λU=>?_,λhs=>?_,λU T hv=>?_⟩
  ·obtain⟨⟨g,M⟩,j,e',_,l,_⟩:=st
   have:j=i+1:=by lia
   subst this;exact⟨⟨g,M⟩,l⟩
  ·obtain⟨ys,y,m,R⟩:=U
   rw[I.list_inj m q] at R;have:=(am.mp R).1;simp
   lia
  ·obtain⟨ys,m,R⟩:=hs
   rw[I.list_inj m q] at R;simp
   lia
  ·obtain⟨t,x,⟨j,e',Y⟩,rfl⟩:=hv
   have:j=i:=by lia
   subst this;obtain⟨ys,y,m,R⟩:=U;rw[I.list_inj m q] at R;obtain⟨u,hu,ru⟩:=O.get R;have:u=x:=by
    have n:its[j]?=some x:=by simpa using Y
    rw[hu] at n;cases n;rfl
   subst this;exact⟨[.int (c+j:Nat),y],.cons ⟨t,rfl⟩ (.cons ru .nil),by show 2<=sizeLine;rw[sizeLine_eq];decide,y,rfl,λzs B=>by rw[I.list_inj B q];exact R⟩
 ·obtain⟨⟨J,L⟩,_⟩:=st
  exact wpAny_pyIter_enum L W
structure ZNe (z ti to i1 i2:Addr):Prop where
 a1:ti≠z
 a2:to≠z
 a3:i1≠z
 a4:i2≠z
 a5:ti≠to
 a6:ti≠i1
 a7:ti≠i2
 a8:to≠i1
 a9:to≠i2
 aA:i1≠i2
abbrev enH(h:Heap)(l:Addr):Heap:=h.push { cls:=.type "list_iterator",data:=.fields #[.ref l,.int 0 0] }
abbrev enHs(h:Heap)(l:Addr):Heap:=(enH h l).push { cls:=.type "enumerate",data:=.fields #[.none,.bool false,.ref h.objs.size,rawInt 1,.none,.none] }
def zl8(v:Value)(t:Tok):checkTypeCall "enumerate" ⟨[v],[("start",.int 1 t)]⟩=pure ():=by kernel_rfl
def znv(v:Value)(t:Tok):checkBuiltinCall "enumerate.__new__" ⟨[.type "enumerate",v],[("start",.int 1 t)]⟩=pure ():=by kernel_rfl
def znw(l:Addr)(z:eb)(n:Nat)(I:Option Addr)(S:Array b2)(t:Tok) :
  Meets (Builtin.«enumerate.__new__» ⟨[.type "enumerate",.ref l],[("start",.int 1 t)]⟩) (λ_ R s=>s.heap.get? l=some ⟨.type "list",I,.seq z n,S⟩/\R (.ok (.ret (.ref (enH s.heap l).objs.size))) { s with heap:=enHs s.heap l }) :=
 .of_wp λprog w A R s h=>by
  obtain⟨U,g,d,tk,os⟩:=s;obtain⟨D,h⟩:=h;have J:=sub_enumerate;have L:Heap.IsList (Shared.heap ⟨U,g,d,tk,os⟩) l z:=⟨_,D,rfl,n,rfl⟩
  wp_walk using AutoSeq1.wpAny_loadPart' D
  refine wpAny_stack_any λst=>wpAny_pure ?_;split
  ·rename_i c _ _ _ _ _
   cases (c==Value.type "enumerate") <;> (refine wpAny_bind (wpAny_of_eq (a:=(Value.ref l,some (Value.int 1 t))) (by rfl) ?_);wp_walk using AutoSeq1.wpAny_loadPart' D,wpAny_pyIter_list L;exact⟨_,rfl,h⟩)
  ·refine wpAny_bind (wpAny_of_eq (a:=(Value.ref l,some (Value.int 1 t))) (by rfl) ?_);wp_walk using AutoSeq1.wpAny_loadPart' D,wpAny_pyIter_list L;exact⟨_,rfl,h⟩
variable{t:Tok}
theorem zps{v x:Value}:Meets (Builtin.«object.__init__» ⟨[v,x],[("start",.int 1 t)]⟩) (λ_ R s=>s.TypeIs v "enumerate"/\R (.ok (.ret .none)) s) :=
 .of_wp λprog w A R s z=>by
  obtain⟨hT,h⟩:=z;have D:=F.called_enumerate.made;have I:=F.called_enumerate.init.lookup;repeat (any_goals (first |assumption |wp_step))
  exact⟨_,rfl,h⟩
theorem zpt(a b:Value)(t:Tok):argsOk "object.__init__" ⟨[a,b],[("start",.int 1 t)]⟩:=by
 unfold argsOk;rw[signature?_of (id:="object.__init__") (n:=['_','_','t','i','n','i','_','_']) (o:=['t','c','e','j','b','o']) (by kernel_rfl) F.owner_object];kernel_rfl
variable{prog:Program}{E:Value->Shared->Prop}
theorem zpu{z:eb}{Q:Value->Shared->Prop}(V:s.heap.IsList l z)(h:Q (.ref (enH s.heap l).objs.size) { s with heap:=enHs s.heap l }):wpAny (model prog w) A (call (.type "enumerate") [.ref l] [("start",.int 1 t)]) Q E s:=by
 obtain⟨⟨c,I,Y,Z⟩,a,J,n,hd⟩:=V;replace J:c=.type "list":=J;replace hd:Y=.seq z n:=hd;subst J hd;have L:=F.called_enumerate.made;have U:=F.called_enumerate.sub;have b:=zl8 (.ref l) t;refine wpAny_call (codeAny_of_tree (show wpAny _ _ (callAny (.type "enumerate") _) _ _ _ from wpAny_pure ⟨Code.quiet_builtin _ (by decide +kernel),codeAny_builtin F.entry_type_call ?_⟩));repeat (any_goals (first |assumption |wp_step))
 refine codeAny_mono (codeAny_call_builtin (R:=λr D=>r=.ok (.ret (.ref (enH s.heap l).objs.size))/\D={ s with heap:=enHs s.heap l }) F.called_enumerate.plain F.entry_enumerate_new (wpAny_of_eq (znv _ t) (znw l z n I Z t prog w A.in1 (λr D=>r=.ok (.ret (.ref (enH s.heap l).objs.size))/\D={ s with heap:=enHs s.heap l }) s ⟨a,rfl,rfl⟩))) λr D d=>?_;obtain⟨rfl,rfl⟩:=d;have hT:Shared.TypeIs { s with heap:=enHs s.heap l } (.ref (enH s.heap l).objs.size) "enumerate":=⟨_,cb _ rfl,rfl⟩;have e:=F.called_enumerate.init.lookup;have f:=F.called_enumerate.init.bind (.ref (enH s.heap l).objs.size);repeat (any_goals (first |assumption |wp_step))
 refine codeAny_mono (codeAny_call_builtin (R:=λr s2=>r=.ok (.ret .none)/\s2={ s with heap:=enHs s.heap l }) F.called_enumerate.init.plain F.entry_object_init (F.called_enumerate.init.check _ _ _ _ _ _ _ _ hT (zpt _ _ t) (zps prog w A.in1 (λr s2=>r=.ok (.ret .none)/\s2={ s with heap:=enHs s.heap l }) _ ⟨hT,rfl,rfl⟩))) λg s2 S=>?_;obtain⟨rfl,rfl⟩:=S;repeat (any_goals (first |assumption |wp_step))
variable{c:Nat}
theorem mem2(h:c∈[n+1,n]):n<=c:=by simp at h;lia
def zjd:bootBuiltins "enumerate" = some (.type "enumerate"):=by decide +kernel
def ww(K:dc)(c:Nat)(ta:TA):TI:=λσ H R=>ta σ H λvs H1=>∃l xs,vs=[.ref l]/\SqL K H1 l xs/\R (Ite K l c) H1
variable{p:Pos}{ta:TA}
def zsw(S:Bn X "enumerate")(V:PA X [a] ta)(Y:starEach [a] X.env=[(false,eval a X.env)]:=by rfl) :
  PI X (.Tuple es k p1) (.Call (.Name "enumerate" p) [a] [] pos) (ww X.K 0 ta):=by
 intro pins s σ H R I h;refine Call_ (nc I S.g S.m zjd (d4 (thn (V pos pins s σ H _ I h) λus z Z=>?_) Y rfl));obtain⟨vs,H1,D,b,d⟩:=Z;obtain⟨l,xs,e,f,q⟩:=d;subst e;cases b with
 |cons r rr =>
   cases rr;cases r;obtain⟨its,n,pl,o⟩:=D.list f;refine call_enumerate_list pl.isList λh' U L i j=>wpAny_pyIter_enum U ?_;refine⟨z.heap.objs.size+1,[z.heap.objs.size+1,z.heap.objs.size],_,_,H1,rfl,D.kept (t':=z.toks) j,zjc l _ _ 0 (Nat.succ_ne_self _),⟨⟨.none,U⟩,L⟩,λc J=>?_,q⟩;have J:z.heap.objs.size<=c:=mem2 J;exact D.fpOk J (D.hok.fresh J)
variable{kp:Pos}
def zpv(U:Bn X "enumerate")(Z:PA X [a] ta)(b:starEach [a] X.env=(false,eval a X.env)::starEach [] X.env:=by rfl)(L:(backTo pos (starEach [a] X.env)).any (·.1)=false:=by rfl) :
  PI X (.Tuple es k p1) (.Call (.Name "enumerate" p) [a] [⟨some "start",.Constant (.int 1) j p2,kp⟩] pos) (ww X.K 1 ta):=by
 intro pins s σ H R I h;refine wpAny_Call_Name_kw (nc I U.g U.m zjd ?_);refine PySem.W.callWith_of (P:=λ_=>True) (by rw[L];rfl) (λ_ _=>⟨Keeper.machine,.inr (.inl rfl),PySem.W.Looks.of_pure rfl⟩) (evalArgs_kw2 rfl (thn (Z pos pins s σ H _ I h) λus d S=>?_) b);obtain⟨vs,H1,f,n,u⟩:=S;refine thn (zry (nm:=some "start") (kpos:=kp) (zqo (i:=1) (j:=j) (pos:=p2)) zuz pos pins d σ H1 (λV H2=>H2=H1/\V=[.int 1]) f ⟨rfl,rfl⟩) λV s2 S=>?_;obtain⟨A,H2,J,v,w,x⟩:=S;refine⟨trivial,?_⟩;subst w x;obtain⟨l,xs,e,y,q⟩:=u;subst e;cases n with
 |cons r rr =>
   cases rr;cases r;cases v with
   |cons r' rr' =>
   obtain⟨t,rfl⟩:=r';obtain⟨its,B,pl,C⟩:=J.list y;refine zpu (t:=t) pl.isList ?_;have Y:IsEnum (enHs s2.heap l) (enH s2.heap l).objs.size s2.heap.objs.size 1 .none:=cb _ rfl;have z:(enH s2.heap l).objs.size=s2.heap.objs.size+1:=Heap.size_push ..;refine wpAny_pyIter_enum Y ?_;refine⟨(enH s2.heap l).objs.size,[(enH s2.heap l).objs.size,s2.heap.objs.size],_,_,H2,rfl,J.kept (t':=s2.toks) (λc o e=>bc _ (bc _ e)),zjc l _ _ 1 (by rw[z];exact Nat.succ_ne_self _),⟨⟨.none,Y⟩,⟨_,bc _ (cb _ rfl),rfl,rfl⟩⟩,λc D=>?_,q⟩;have D:s2.heap.objs.size<=c:=by rw[z] at D;exact mem2 D
   exact J.fpOk D (J.hok.fresh D)
def k7:Nat->ei->ei
 |_,[]=>[] |c,d::r=>.tup [.int c,d]::k7 (c+1) r
def zipD:ei->ei->ei
 |d::r,d'::r'=>.tup [d,d']::zipD r r' |_,_=>[]
theorem zje:∀(ds:ei) (c i:Nat),(k7 c ds)[i]?=ds[i]?.map λd=>.tup [.int (c+i:Nat),d]
 | [],c,i=>by simp[k7]
 |d::r,c,0=>by simp[k7] |d::r,c,i+1=>by
   simp only[k7,af];rw[zje r (c+1) i];rw[show c+1+i=c+(i+1) by lia]
def zjf:∀(ds:ei) (c:Nat),(k7 c ds).length=ds.length
 | [],_=>rfl |d::r,c=>by simp[k7,zjf r]
@[simp] def iEn(c:Nat)(ds:ei):Option ei:=match ds with | [.lst ds]=>some (k7 c ds) |_=>none
@[simp] def iZp(ds:ei):Option ei:=match ds with | [.lst ds,.lst es]=>some (zipD ds es) |_=>none
def zsx{t:Addr}(r:Reps K H' (Ow G W') ds vs)(z:H' t=none):Rep K (upd H' t (.tup vs)) (Ow G W') (.tup ds) (.ref t):=by
 refine .tup (km ..) (r.mono (λa us e=>by rw[ic (lh e z)];exact e) λa us o h=>⟨o,?_⟩);exact h.keep λo e=>by rw[ic (lh e z)];exact e
def znx(c:Nat)(ok:Ok X.K G H0 W env σ H)(h:LsOk X.K H (Ow G W) l vs)(r:Reps X.K H (Ow G W) ds vs):zvv X.K G (Ite X.K l c) W H (k7 c ds) where
 go:=λW' H' i d st e=>by
  rw[zje] at e;cases e0:ds[i]? with
  |none=>rw[e0] at e;cases e
  |some d0 =>
    rw[e0] at e;cases e;obtain⟨v,z,D⟩:=(ok.reps st r).get e0;have h':=(ok.lsstep st h).sq;refine⟨⟨vs,v,h',z⟩,λx H'' ⟨t,us,hn,ex,eH,y,eu,hy⟩=>?_⟩;subst ex eH eu;have:=hy vs h';rw[z] at this;cases this;exact⟨si hn,zsx (.cons (.int _) (.cons D .nil)) hn⟩
 stop:=λW' H' st=>⟨vs,(ok.lsstep st h).sq,by rw[zjf,r.length]⟩
def zk3(J:PI X tg e (ww X.K c (tDA X.K G H0 F))):DJx X G H0 tg e (gs (iEn c) F):=⟨J.imp λσ H R L=>by
 obtain⟨W,env,ds,env',ok,q,k⟩:=L;cases e1:F env with
 |none=>simp[e1] at q |some z =>
   obtain⟨as,D⟩:=z;cases e2:iEn c as with
   |none=>rw[gs,e1] at q;simp only[ab,e2] at q;cases q
   |some d' =>
     have q:some (d',D)=some (ds,env'):=by rw[gs,e1] at q;simp only[ab,e2] at q;exact q
     cases q;refine⟨W,env,as,_,ok,e1,λW1 vs H1 S I p1=>?_⟩;unfold iEn at e2;split at e2
     ·rename_i xs
      cases e2;obtain⟨v,rfl,U⟩:=m7 p1;obtain⟨l,us,rfl,h,r⟩:=U.lst_;exact⟨l,us,rfl,h.sq,k W1 _ H1 S I (znx c I h r)⟩
     ·cases e2⟩
def zsy(z:DAx X G H0 [a] F)(D:Bn X "enumerate":=by walk_at "b")(I:starEach [a] X.env=[(false,eval a X.env)]:=by rfl) :
  DJx X G H0 (.Tuple es k p1) (.Call (.Name "enumerate" p) [a] [] pos) (gs (iEn 0) F):=zk3 (zsw D z.out I)
def zpw(D:DAx X G H0 [a] F)(I:Bn X "enumerate":=by walk_at "b")(J:starEach [a] X.env=(false,eval a X.env)::starEach [] X.env:=by rfl)(z:(backTo pos (starEach [a] X.env)).any (·.1)=false:=by rfl) :
  DJx X G H0 (.Tuple es k p1) (.Call (.Name "enumerate" p) [a] [⟨some "start",.Constant (.int 1) j p2,kp⟩] pos) (gs (iEn 1) F):=zk3 (zpv I D.out J z)
def zpx{env0:DE0}{z:Int}(h:fVar i env=some (.int z,env0)):env[i]?=some (some (.sh (.int z)))/\env0=env:=by
 unfold fVar at h;split at h
 ·rename_i d hd
  cases h;exact⟨hd,rfl⟩
 all_goals cases h
variable{op:D->D->el}{o:Int->Int->Int}
def zxs(R:∀z D d,op z D=some d->∃u v,z=.int u/\D=.int v/\d=.int (o u v)):∀Dn σ H,tDS X G H0 (sSet i (fBin op (fVar i) f)) Dn σ H->tAug i (tD X.K G H0 f) (ipI o) Dn σ H :=
 λDn σ H S=>by
 obtain⟨W,env,fl,env',ok,q,k⟩:=S;unfold sSet fBin at q;cases e0:fVar i env with
 |none=>rw[e0] at q;cases q
 |some r0 =>
   obtain⟨U,env0⟩:=r0;rw[e0,ab] at q;cases e1:f env0 with
   |none=>rw[e1] at q;cases q
   |some I =>
     obtain⟨z,L⟩:=I;rw[e1,ab] at q;cases e2:op U z with
     |none=>rw[e2] at q;cases q
     |some D =>
       rw[e2] at q;cases q;obtain⟨u,v,rfl,rfl,rfl⟩:=R _ _ _ e2;obtain⟨V,rfl⟩:=zpx e0;obtain⟨y,Y,Z⟩:=ok.slot i _ V;refine⟨y,Y,W,env0,_,_,ok,e1,λW1 b H1 a J I=>⟨u,v,Rep.int_ Z,I.int_,k W1 _ H1 a (J.set (.int _))⟩⟩
def yn(D:Tos Nn X)(I:DEx X G H0 e f)(z:Nn[i]?=some x:=by rfl) :
  DSx X G H0 (.AugAssign (.Name x p') .Add e pos) (sSet i (fBin gn (fVar i) f)):=⟨(zui (D.t z).nd (D.t z).n (D.t z).l I.out zqq (D.t z).f).imp (zxs λJ L d h=>by
 cases J <;> try (cases h;done)
 all_goals cases L <;> first | (cases h;done) |exact⟨_,_,rfl,rfl,(az h).symm⟩)⟩
def zv4:V->V->Hp->VK->Prop:=λo i H Q=>∃l xs k v,o=.ref l/\i=.int k/\H l=some (.lst xs)/\0<=k/\xs[k.toNat]?=some v/\Q v H
theorem zk4:PGet X zv4:=by
 intro pins s σ H o i V Y Q I J L h;obtain⟨l,xs,k,v,rfl,rfl,R,S,D,q⟩:=h;cases J;obtain⟨t,rfl⟩:=L;obtain⟨its,r,pl,Z⟩:=I.list (.inl (.inl R));obtain⟨w,U,z⟩:=r.get D;have a:=(am.mp D).1;have b:=qo;exact wpAny_getItem_list pl.isList S (by lia) (by simpa using U) ⟨v,H,I,z,q⟩
def t6(i:Nat)(op:D->D->el)(k:Int)(d v:D)(e:DE0):Option (Fl×DE0):=match e[i]? with
 |some (some (.ow ds))=>if k.toNat<ds.length then(op d v).map λr=>(.nx,e.set i (some (.ow (ds.set k.toNat r)))) else none
 |_=>none
def og(i:Nat)(op:D->D->el)(J L:FE):FS:=λe=>match e[i]? with
 |some (some (.ow _))=>(J e).bind λz=>match z.1,z.2[i]? with
   | .int k,some (some (.ow ds))=>if 0<=k then(ds[k.toNat]?).bind λd=>(L z.2).bind λI=>t6 i op k d I.1 I.2 else none
   |_,_=>none
 |_=>none
theorem zq2(s:∀m n d,op m n=some d->∃u v,m=.int u/\n=.int v/\d=.int (o u v)) :
  ∀Dn σ H,tDS X G H0 (og i op g f) Dn σ H->zuj (tVar i) (tD X.K G H0 g) (tD X.K G H0 f) zv4 (ipI o) zu2 Dn σ H:=λDn σ H t=>by
 obtain⟨W,env,fl,env',ok,q,k⟩:=t;unfold og at q;split at q;case h_2=>cases q
 rename_i x Y;obtain⟨v,U,l,y,rfl,A,B,_⟩:=ok.slot i _ Y;cases e1:g env with
 |none=>rw[e1] at q;cases q
 |some V =>
 obtain⟨dk,D⟩:=V;rw[e1,ab] at q;dsimp only at q;split at q;case h_2=>cases q
 rename_i kk ds C;split at q;case isFalse=>cases q
 rename_i I;cases e2:ds[kk.toNat]? with
 |none=>rw[e2] at q;cases q
 |some dd =>
 rw[e2,ab] at q;cases e3:f D with
 |none=>rw[e3] at q;cases q
 |some r3 =>
 obtain⟨E,p⟩:=r3;rw[e3,ab] at q;unfold t6 at q;split at q;case h_2=>cases q
 rename_i F J;split at q;case isFalse=>cases q
 cases e4:op dd E with
 |none=>rw[e4] at q;cases q
 |some dr =>
 rw[e4] at q;cases q;obtain⟨u,w,rfl,rfl,rfl⟩:=s _ _ _ e4;refine⟨_,U,W,env,_,_,ok,e1,λW1 v1 H1 M L V=>?_⟩;obtain⟨N,z,O,Z,P,Q,a,b⟩:=L.slot i _ C;rw[U] at z;cases z;cases P;obtain⟨T,c,e⟩:=b.get e2;refine⟨l,Z,kk,T,rfl,V.int_,a,I,c,W1,D,_,_,L,e3,λW2 v2 H2 s2 R r2=>?_⟩;refine⟨u,w,e.int_,r2.int_,?_⟩;obtain⟨N,z,O,h,e6,aa,j,S⟩:=R.slot i _ J;rw[U] at z;cases z;cases e6;obtain⟨t1,t2⟩:=R.turn J U (Reps.set (.int (o u w)) kk.toNat S);have r:=S.length;refine⟨l,h,kk,kk.toNat,rfl,V.int_,j,?_,k W2 _ _ ((M.trans s2).trans t2) t1⟩;unfold ixN;rw[if_pos I,if_pos (by lia)]
def zpz(L:DEx X G H0 b g)(R:DEx X G H0 e f)(an:Ats Nn Cn X)(J:Nn[i]?=some x:=by rfl)(S:∀D I z,augStore b D I z=(do holding [z,D,I] (setItem D I z);release [z,D,I] [];pure .next):=by intros;rfl) :
  DSx X G H0 (.AugAssign (.Subscript (.Name x p') b p1) .Add e pos) (og i gn g f):=⟨(zmv ((an.a J).pe) L.out zk4 R.out zqq zkt S).imp (zq2 λU V d h=>by
 cases U <;> try (cases h;done)
 all_goals cases V <;> first | (cases h;done) |exact⟨_,_,rfl,rfl,(az h).symm⟩)⟩
def zp0(L:DEx X G H0 b g)(R:DEx X G H0 e f)(an:Ats Nn Cn X)(J:Nn[i]?=some x:=by rfl)(S:∀D I z,augStore b D I z=(do holding [z,D,I] (setItem D I z);release [z,D,I] [];pure .next):=by intros;rfl) :
  DSx X G H0 (.AugAssign (.Subscript (.Name x p') b p1) .Sub e pos) (og i dSub g f):=⟨(zmv ((an.a J).pe) L.out zk4 R.out zuk zkt S).imp (zq2 λU V d h=>by
 cases U <;> try (cases h;done)
 all_goals cases V <;> first | (cases h;done) |exact⟨_,_,rfl,rfl,(az h).symm⟩)⟩
def uh(z:ei)(e:DE0)(i:Nat):Option (D×DE0):=match e[i]? with
 |some (some (.ow ds))=>if Few (ds.length+z.length) then some (.non,e.set i (some (.ow (ds++z)))) else none
 |_=>none
def qr(i:Nat)(F:FA):FE:=λe=>match e[i]? with
 |some (some (.ow _))=>(F e).bind λr=>uh r.1 r.2 i
 |_=>none
def zjg(f:DFx X G H0 a F)(an:Ats Nn Cn X)(S:Nn[i]?=some x:=by rfl)(z:attributeBase (.Name x p') "extend" X.env (eval (.Name x p') X.env)=eval (.Name x p') X.env:=by rfl)(I:((backTo pos (starEach [a] X.env)).all (λx=>!x.1) && (backToKw pos (keywordEach [] X.env)).all (λx=>x.1.isSome)
   && decide ([a].length+([]:List Keyword).length+(if ([]:List Keyword).isEmpty then 0 else 1)<30))=true:=by rfl)(D:(p1.endLine==pos.line)=true:=by rfl)(Z:starEach [a] X.env=(false,eval a X.env)::starEach [] X.env:=by rfl) :
  DEx X G H0 (.Call (.Attribute (.Name x p') "extend" p1) [a] [] pos) (qr i F):=⟨(qa dy PySem.F.slot_list_extend PySem.F.type_list_extend zm8 ((an.a S).pe) (lf f.out ma Z) z I D Z rfl).imp λσ H Q g=>by
 obtain⟨W,env,d,env',ok,q,k⟩:=g;unfold qr at q;split at q;case h_2=>cases q
 rename_i h U;obtain⟨v,V,l,j,rfl,m,Y,_⟩:=ok.slot i _ U;cases e1:F env with
 |none=>rw[e1] at q;cases q
 |some r =>
   obtain⟨o,J⟩:=r;rw[e1,ab] at q;unfold uh at q;split at q;case h_2=>cases q
   rename_i ds b;split at q;case isFalse=>cases q
   rename_i L;cases q;refine⟨_,V,.inl ⟨rfl,_,.inl (.inl Y)⟩,W,env,o,J,ok,e1,λW1 n us H1 p s R B t c=>?_⟩;obtain⟨C,e,E,vs,u,K,w,r⟩:=R.slot i _ b;rw[V] at e;cases e;cases u;obtain⟨y,A⟩:=R.turn b V (r.append c);refine⟨l,n,vs,us,rfl,rfl,w,t,?_,k _ _ _ (p.trans A) y .non⟩;rw[<-r.length,<-c.length];exact bh L (by rw[sizeLine_eq];decide)⟩
def qd:D->Bool | .tup _=>false | .lst _=>false | .dct _ _=>false |_=>true
def Rep.atom{z:dc}{O':Addr->Prop}(r:Rep K H O d v)(h:qd d=true):Rep z H' O' d v:=by
 cases r with
 |non=>exact .non |bl b=>exact .bl b |int i=>exact .int i
 |str s=>exact .str s |tup _ _=>cases h
 |lst _ _ _=>cases h
 |klst _ _=>cases h
 |dct _ _=>cases h
 |exc a=>exact .exc a
structure zxt (K:dc) (G:Gd) (J:It) (W:Addr->Prop) (H:Hp) (ds:ei):Prop where
 go:∀H' (i:Nat) d,Same H H'->ds[i]?=some d->J.go i H'/\∀x H'',J.yld i H' x H''->H''=H'/\Rep K H' (Ow G W) d x
 stop:∀H',Same H H'->J.stop ds.length H'
def tDC(K:dc)(G:Gd)(H0:Hp)(f:FI):TI:=λσ H R=>DP K G H0 f (λW env ds env' =>
 ∀W' J H',Step W H W' H'->Ok K G H0 W' env' σ H'->zxt K G J W' H' ds->R J H') σ H
structure DCx (X:Cx) (G:Gd) (H0:Hp) (tg:Expr) (e:Expr) (f:FI):Prop where
 out:PI X tg e (tDC X.K G H0 f)
def fiV(i:Nat):FI:=λe=>match e[i]? with
 |some (some (.ow ds))=>some (ds,e) |some (some (.sh (.lst ds)))=>some (ds,e) |_=>none
def k6:ep->ep |some (.sh d)=>some (.sh d) |some (.ow ds)=>some (.sh (.lst ds)) |_=>none
def pd(fi:FI)(ix:b5)(tt:FT)(te:FE):FA:=λe=>(fi e).bind λr=>if Few r.1.length then(jy tt te (ix.map λj=>k6 (r.2.getD j none)) r.1).bind λds=>if ds.all qd=true then some (ds,r.2) else none else none
def zxu(h:DIx X G H0 tg e fi):DCx X G H0 tg e fi:=⟨h.out.imp λσ H R ⟨W,env,ds,env',ok,q,k⟩ =>
 ⟨W,env,ds,env',ok,q,λW' J H' st z D=>k W' J H' st z ⟨λH2 i d sm e=>D.go W' H2 i d (Step.same sm) e,λH2 sm=>D.stop W' H2 (Step.same sm)⟩⟩⟩
variable{te:FE}{tt:FT}
theorem zyg:∀σ H Q,tDF X.K G H0 (iq fi ix tt te) σ H Q->o6 (tDC X.K G H0 fi) ix (tDxT X.K tt) (tDx X.K te) σ H Q:=λσ H Q t=>by
 obtain⟨W,env,d,env',ok,q,k⟩:=t;cases e1:fi env with
 |none=>simp[iq,e1] at q |some z =>
   obtain⟨ds,U⟩:=z;by_cases Z:Few ds.length
   ·simp only[iq,e1,ab,if_pos Z] at q
    cases e2:jy tt te (ix.map λj=>capt (U.getD j none)) ds with
    |none=>rw[e2] at q;cases q
    |some outs =>
      rw[e2] at q;cases q;refine⟨W,env,ds,_,ok,e1,λW1 J H1 u c r=>?_⟩;refine⟨λi m H' ys=>∃rest D,m=ds.length-i/\i<=ds.length/\Same H1 H'/\Reps X.K H' (Ow G W1) D ys/\D.length<=i/\jy tt te (ix.map λj=>capt (env'.getD j none)) (ds.drop i)=some rest/\d=D++rest,⟨ds.length,d,[],rfl,eh _,Same.refl _,.nil,bg _,e2,rfl⟩,?_⟩;rintro i m H' ys ⟨rest,D,rfl,hi,sm,rp,hd,ec,rfl⟩;have st:Step W1 H1 W1 H':=Step.same sm;have I:Ok X.K G H0 W1 env' σ H':=c.same sm;by_cases R:i<ds.length
      ·have A:ds.drop i=ds[i]::ds.drop (i+1):=fg R
       rw[A] at ec;obtain⟨B,C⟩:=r.go H' i ds[i] sm (by simp[R]);refine .inr ⟨B,λx f y=>?_⟩;obtain⟨rfl,E⟩:=C x f y;have g:=yv (ix:=ix) I E;unfold jy at ec;cases e3:tt (some (.sh ds[i])::ix.map λj=>capt (env'.getD j none)) with
       |none=>rw[e3] at ec;cases ec
       |some bb =>
         obtain⟨b,L⟩:=bb;rw[e3,ab] at ec;refine⟨_,_,NoW,_,b,L,g,e3,λF H2 s2 S=>?_⟩;have n:Same H1 H2:=sm.trans S.stay;have p:Reps X.K H2 (Ow G W1) D ys:=I.reps (Step.same S.stay) rp;cases b with
         |false =>
           exact⟨ds.length-(i+1),by lia,rest,D,rfl,R,n,p,by lia,ec,rfl⟩
         |true =>
           cases e4:te L with
           |none=>simp only[e4] at ec;cases ec
           |some vv =>
             obtain⟨s,V⟩:=vv;simp only[e4,ab] at ec;cases e5:jy tt te (ix.map λj=>capt (env'.getD j none)) (ds.drop (i+1)) with
             |none=>rw[e5] at ec;cases ec
             |some rest' =>
               rw[e5] at ec;cases ec;refine⟨_,_,F,L,s,V,S,e4,λW3 v H3 s3 Y r3=>⟨?_,ds.length-(i+1),by lia,rest',D++[s],rfl,R,sm.trans Y.stay,?_,by rw[aj,cr];lia,by first |exact e5 |rfl,by simp⟩⟩
               ·have:ys.length<2 ^ 20:=by rw[<-rp.length];have:ds.length<=2 ^ 20:=Z;lia
                exact ba this (by rw[sizeLine_eq];decide)
               ·refine(I.reps (Step.same Y.stay) rp).append (.cons (r3.mono (λ_ _ h=>h) λa us o h=>⟨?_,h⟩) .nil)
                rcases o.1 with z |z
                ·exact z
                ·exact⟨I.good a (I.stay.free z),λw=>by obtain⟨_,us,q⟩:=I.wl a w;rw[z] at q;cases q⟩
      ·have e:i=ds.length:=by lia
       subst e;rw[ii] at ec;cases ec;refine .inl ⟨r.stop H' sm,by rw[<-rp.length];exact bh hd (bh Z (by rw[sizeLine_eq];decide)),λl M=>?_⟩;obtain⟨h1,h2,N,O,P,T⟩:=mq I rp M;rw[ca] at k;exact k W1 l _ _ ((u.trans st).trans h1) h2 N O P T
   ·simp only[iq,e1,ab,if_neg Z] at q;cases q
def zny(ok:Ok X.K G H0 W env σ H)(r:Rep X.K H (Ow G W) d v) :
  Ok X.K (gd λa=>G a\/H a=none) H NoW (some (.sh d)::ix.map λj=>k6 (env.getD j none)) (some v::ix.map λj=>σ.getD j none) H:=by
 have up1:∀(a:Addr) (us:ed),Ow G W a->Rd H a (.lst us)->Ow (gd λa=>G a\/H a=none) NoW a/\Rd H a (.lst us):=λa us o h=>⟨⟨.inl o.1,λz=>z⟩,h⟩;have R:∀ {d:D} {v:V},Rep X.K H (Ow G W) d v->Rep X.K H (Ow (gd λa=>G a\/H a=none) NoW) d v:=λr=>r.mono (λ_ _ h=>h) up1;have J:∀(i:Nat) (s:Sl),(some (Sl.sh d)::ix.map λj=>k6 (env.getD j none))[i]?=some (some s)->∃d',s=.sh d':=λi s z=>by
  cases i with
  |zero=>exact⟨d,by simpa using z.symm⟩ |succ i =>
    simp only[af,bv] at z;cases q:ix[i]? with
    |none=>rw[q] at z;cases z
    |some j =>
      rw[q] at z;have z:k6 (env.getD j none)=some s:=az z;unfold k6 at z;split at z
      ·cases z;exact⟨_,rfl⟩
      ·cases z;exact⟨_,rfl⟩
      ·cases z
 refine⟨Same.refl _,λa z=>.inr z,λl z=>z.elim,λi s e=>?_,λi j S s2 Z v2 a I _ _ _ o _=>by obtain⟨d',rfl⟩:=J i S I;exact o.elim,by simp⟩;cases i with
 |zero =>
   cases e;exact⟨v,rfl,R r⟩
 |succ i =>
   simp only[af,bv] at e ⊢;cases q:ix[i]? with
   |none=>rw[q] at e;cases e
   |some j =>
     rw[q] at e;have e:k6 (env.getD j none)=some s:=az e;rw[ae] at e;cases q2:env[j]? with
     |none=>rw[q2] at e;cases e
     |some o =>
       rw[q2] at e;have e:k6 o=some s:=e;unfold k6 at e;split at e
       ·rename_i d'
        cases e;obtain⟨u,I,L⟩:=ok.slot j _ q2;exact⟨u,by simp only[aq];rw[ae,I];rfl,R L⟩
       ·rename_i ds'
        cases e;obtain⟨u,I,l,vs,rfl,U,Y,L⟩:=ok.slot j _ q2;refine⟨_,by simp only[aq];rw[ae,I];rfl,?_⟩;exact .lst ⟨.inl (ok.good l (ok.wl l U).1),λz=>z⟩ (.inl Y) (L.mono (λ_ _ h=>h) up1)
       ·cases e
theorem zv5:∀σ H Q,tDF X.K G H0 (pd fi ix tt te) σ H Q->o6 (tDC X.K G H0 fi) ix (tDxT X.K tt) (tDx X.K te) σ H Q:=λσ H Q s=>by
 obtain⟨W,env,d,env',ok,q,k⟩:=s;cases e1:fi env with
 |none=>simp[pd,e1] at q |some z =>
   obtain⟨ds,U⟩:=z;by_cases Z:Few ds.length
   ·simp only[pd,e1,ab,if_pos Z] at q
    cases e2:jy tt te (ix.map λj=>k6 (U.getD j none)) ds with
    |none=>rw[e2] at q;cases q
    |some outs =>
      rw[e2,ab] at q;split at q;case isFalse=>cases q
      rename_i c;cases q;refine⟨W,env,ds,_,ok,e1,λW1 J H1 t f r=>?_⟩;refine⟨λi m H' ys=>∃rest D,m=ds.length-i/\i<=ds.length/\Same H1 H'/\Reps X.K H' (Ow G W1) D ys/\D.length<=i/\jy tt te (ix.map λj=>k6 (env'.getD j none)) (ds.drop i)=some rest/\d=D++rest,⟨ds.length,d,[],rfl,eh _,Same.refl _,.nil,bg _,e2,rfl⟩,?_⟩;rintro i m H' ys ⟨rest,D,rfl,hi,sm,rp,hd,ec,rfl⟩;have st:Step W1 H1 W1 H':=Step.same sm;have L:Ok X.K G H0 W1 env' σ H':=f.same sm;by_cases R:i<ds.length
      ·have u:ds.drop i=ds[i]::ds.drop (i+1):=fg R
       rw[u] at ec;obtain⟨w,A⟩:=r.go H' i ds[i] sm (by simp[R]);refine .inr ⟨w,λx g y=>?_⟩;obtain⟨rfl,B⟩:=A x g y;have h:=zny (ix:=ix) L B;unfold jy at ec;cases e3:tt (some (.sh ds[i])::ix.map λj=>k6 (env'.getD j none)) with
       |none=>rw[e3] at ec;cases ec
       |some bb =>
         obtain⟨b,I⟩:=bb;rw[e3,ab] at ec;refine⟨_,_,NoW,_,b,I,h,e3,λC H2 s2 S=>?_⟩;have n:Same H1 H2:=sm.trans S.stay;have o:Reps X.K H2 (Ow G W1) D ys:=L.reps (Step.same S.stay) rp;cases b with
         |false =>
           exact⟨ds.length-(i+1),by lia,rest,D,rfl,R,n,o,by lia,ec,rfl⟩
         |true =>
           cases e4:te I with
           |none=>simp only[e4] at ec;cases ec
           |some vv =>
             obtain⟨a,V⟩:=vv;simp only[e4,ab] at ec;cases e5:jy tt te (ix.map λj=>k6 (env'.getD j none)) (ds.drop (i+1)) with
             |none=>rw[e5] at ec;cases ec
             |some rest' =>
               rw[e5] at ec;cases ec;have p:qd a=true:=gm.mp c a (by simp);refine⟨_,_,C,I,a,V,S,e4,λP v T s3 Y r3=>⟨?_,ds.length-(i+1),by lia,rest',D++[a],rfl,R,sm.trans Y.stay,?_,by rw[aj,cr];lia,by first |exact e5 |rfl,by simp⟩⟩
               ·have:ys.length<2 ^ 20:=by rw[<-rp.length];have:ds.length<=2 ^ 20:=Z;lia
                exact ba this (by rw[sizeLine_eq];decide)
               ·exact(L.reps (Step.same Y.stay) rp).append (.cons (r3.atom p) .nil)
      ·have e:i=ds.length:=by lia
       subst e;rw[ii] at ec;cases ec;refine .inl ⟨r.stop H' sm,by rw[<-rp.length];exact bh hd (bh Z (by rw[sizeLine_eq];decide)),λl E=>?_⟩;obtain⟨h1,h2,F,M,N,O⟩:=mq L rp E;rw[ca] at k;exact k W1 l _ _ ((t.trans st).trans h1) h2 F M N O
   ·simp only[pd,e1,ab,if_neg Z] at q;cases q
def zp2(an:Ats Nn Cn X)(hi:DCx X G H0 (.Name x px) a fi)(D:∀cl C s₂ H₂ fp G H0,Ats (x::(subN Nn ix)) (subN Nn ix) (iw X x (subN Nn ix) sc cl C s₂ H₂ fp)->DEx (iw X x (subN Nn ix) sc cl C s₂ H₂ fp) G H0 e te)(z:n8 Nn Cn ix x sc=true:=by decide +kernel)(I:X.calm=true:=by rfl)(J:∀v,foldedSetIterable a X.env v=pure v:=by intro _;rfl) :
  DFx X G H0 (.ListComp e [⟨.Name x px,a,[],0⟩] sc pos) (pd fi ix fYes te) :=
 ⟨(znf (uz an z) (λ_ _ _ _ _ _ _ _ _=>I) hi.out (λcl C s₂ H₂ fp _=>ub (X:=X) rfl) (λcl C s₂ H₂ fp _=>el_x (X:=X) rfl (λG H0=>D cl C s₂ H₂ fp G H0 (u9 z))) J).imp zv5⟩
def ug(i:Nat):FE:=λe=>match e[i]? with
 |some (some (.ow ds))=>(ints? ds).map λns=>(.int ns.sum,e) |some (some (.sh (.lst ds)))=>(ints? ds).map λns=>(.int ns.sum,e) |_=>none
def zsz(an:Ats Nn Cn X)(R:X.calm=true:=by rfl)(J:Bn X "sum":=by walk_at "b")(z:Nn[i]?=some x:=by rfl)(L:starEach [.Name x p1] X.env=(false,eval (.Name x p1) X.env)::starEach [] X.env:=by rfl):DEx X G H0 (.Call (.Name "sum" p') [.Name x p1] [] pos) (ug i) :=
 ⟨(va (zi8 R) J.g J.m boot_sum (lf ((an.a z).pe) ma L) (by decide) (by decide) L rfl).imp λσ H Q S=>by
  obtain⟨W,env,d,env',ok,q,k⟩:=S;unfold ug at q;split at q
  ·rename_i ds D
   cases e2:ints? ds with
   |none=>rw[e2] at q;cases q
   |some ns =>
   rw[e2] at q;cases q;cases qt e2;obtain⟨v,I,l,vs,rfl,V,U,r⟩:=ok.slot i _ D;cases qu r;exact⟨_,I,l,ns,rfl,.inl (.inl U),k W _ H Step.refl ok (.int _)⟩
  ·rename_i ds D
   cases e2:ints? ds with
   |none=>rw[e2] at q;cases q
   |some ns =>
   rw[e2] at q;cases q;cases qt e2;obtain⟨v,I,r⟩:=ok.slot i _ D;obtain⟨l,us,rfl,h,r⟩:=Rep.lst_ r;cases qu r;exact⟨_,I,l,ns,rfl,h.sq,k W _ H Step.refl ok (.int _)⟩
  ·cases q⟩
def tDL(K:dc)(G:Gd)(H0:Hp)(f:FA):TA:=λσ H Q=>DP K G H0 f (λW env ds env' =>
 ∀W' vs H',Step W H W' H'->Ok K G H0 W' env' σ H'->Reps K H' G ds vs->Q vs H') σ H
structure DLx (X:Cx) (G:Gd) (H0:Hp) (es:ci) (f:FA):Prop where
 out:PA X es (tDL X.K G H0 f)
def zxv(h:DAx X G H0 es F):DLx X G H0 es F:=⟨h.out.imp λσ H Q ⟨W,env,ds,env',ok,q,k⟩ =>
 ⟨W,env,ds,env',ok,q,λW' vs H' st z r=>k W' vs H' st z (r.mono (λ_ _ h=>h) λa us o h=>⟨o.1,h⟩)⟩⟩
def uf(i:Nat)(F:FA):FA:=λe=>match e[i]? with
 |some (some (.ow _))=>(F e).bind λq=>match q.2[i]? with |some (some (.ow ds))=>some (.lst ds::q.1,q.2) |_=>none
 |_=>none
def zs0(V:DLx X G H0 es F)(an:Ats Nn Cn X)(D:Nn[i]?=some x:=by rfl)(Y:starEach (.Name x p1::es) X.env=(false,eval (.Name x p1) X.env)::starEach es X.env:=by rfl):DLx X G H0 (.Name x p1::es) (uf i F) :=
 ⟨(lf ((an.a D).pe) V.out Y).imp λσ H Q Z=>by
  obtain⟨W,env,ds,env',ok,q,k⟩:=Z;unfold uf at q;split at q;case h_2=>cases q
  rename_i b I;obtain⟨v,R,l,c,rfl,d,e,_⟩:=ok.slot i _ I;cases e1:F env with
  |none=>rw[e1] at q;cases q
  |some r =>
    obtain⟨J,S⟩:=r;rw[e1,ab] at q;split at q;case h_2=>cases q
    rename_i f L;cases q;refine⟨_,R,W,env,J,_,ok,e1,λW1 vs H1 g z j=>?_⟩;obtain⟨u,U,w,m,n,p,s,t⟩:=z.slot i _ L;rw[R] at U;cases U;cases n;exact k W1 _ H1 g z (.cons (.lst (z.good l (z.wl l p).1) (.inl s) (t.mono (λ_ _ h=>h) λa us o h=>⟨o.1,h⟩)) j)⟩
def q9(m:ei->el)(F:FA):FE:=λe=>(F e).bind λr=>(m r.1).bind λd=>if qd d=true then some (d,r.2) else none
variable{E:XK}
def zv6:∀σ H Q,tD X.K G H0 (q9 m F) σ H Q->ui (dSp X.K m) [] E (tDL X.K G H0 F) σ H Q:=λσ H Q J=>by
 obtain⟨W,env,d,env',ok,q,k⟩:=J;unfold q9 at q;cases e1:F env with
 |none=>rw[e1] at q;cases q
 |some r =>
   obtain⟨ds,I⟩:=r;rw[e1,ab] at q;cases e2:m ds with
   |none=>rw[e2] at q;cases q
   |some d' =>
     rw[e2,ab] at q;split at q;case isFalse=>cases q
     rename_i z;cases q;refine⟨W,env,ds,_,ok,e1,λW1 vs H1 L D p1=>?_⟩;show dSp X.K m (vs++[]) H1 Q E;rw[ca];exact⟨G,ds,_,p1,e2,λv H2 sm R=>k W1 v H2 (L.trans (Step.same sm)) (D.same sm) (R.atom z)⟩
def zp5{jr:Nat}(c:Cal X.prog X.w X.K X.mg X.base CX0 x k (dSp X.K m))(I:Room jr X.A)(J:DLx X G H0 (e::es) F)(hkj:k<=jr:=by decide)(L:Gl X x:=by walk_at "g")(R:starEach (e::es) X.env=(false,eval e X.env)::starEach es X.env:=by rfl)(z:(backTo pos (starEach es X.env)).any (·.1)=false:=by rfl) :
  DEx X G H0 (.Call (.Name x p') (e::es) [] pos) (q9 m F):=let ⟨_,_,_,S,U,V,Y,D⟩:=c;⟨(yl S (I.mono hkj) L U V Y .nil xp J.out D R z).imp zv6⟩
theorem znz(Z:X.calm=true):l3 X (.builtin "min") (λxs H Q=>∃p,∃ns:cc,∃M,xs=[.ref p]/\SqL X.K H p (ns.map V.int)/\M∈ns/\(∀a,a∈ns->M<=a)/\Q (.int M) H):=by
 intro pins s σ H xs us Q I r h;obtain⟨p,ns,M,rfl,b,R,J,q⟩:=h;obtain⟨u,rfl,c⟩:=qb r;cases c;obtain⟨its,d,pl,l⟩:=I.list b;have hi:IntsAre its ns:=y3 d;have U:=pl.isList;obtain⟨z,L⟩:=hi.allInts.items;rw[L] at U;have D:ns=z.toList.map (·.1):=by rw[<-hi.numsOf,<-nums_intItems,<-L]
 have S:0<z.size:=by
  have Y:=List.length_pos_of_mem R;rw[D,ac,ft] at Y;exact Y
 refine min_intList (I.ok.hd Z) U S λv h' tk f g=>?_;obtain⟨t,rfl⟩:=intItems_at f;obtain⟨h1,h2⟩:=argBest_lt (numAt z) (z.size-1);have e:numAt z (argBest (λi j=>decide (numAt z i<numAt z j)) (z.size-1))=M:=by
  apply Int.le_antisymm
  ·rw[D] at R
   obtain⟨j,k,rfl⟩:=mem_getD R;rw[ac,ft] at k;rw[<-numAt_eq];exact h2 j (by lia)
  ·apply J
   rw[D,numAt_eq];exact getD_mem (by rw[ac,ft];lia)
 exact⟨.int M,H,I.kept g,⟨t,by rw[<-e]⟩,q⟩
def minI:cc->da
 | []=>none | [a]=>some a |a::b::r=>(minI (b::r)).map λm=>if m<a then m else a
theorem ym:∀ {ns:cc} {M:Int},minI ns=some M->M∈ns/\∀a,a∈ns->M<=a
 | [],M,h=>by cases h
 | [a],M,h=>by cases h;simp
 |a::b::r,M,h=>by
   unfold minI at h;cases e:minI (b::r) with
   |none=>rw[e] at h;cases h
   |some m =>
     rw[e] at h;obtain⟨h1,h2⟩:=ym e;cases h;show(if m<a then m else a)∈a::b::r/\∀z,z∈a::b::r->(if m<a then m else a)<=z;by_cases D:m<a
     ·rw[if_pos D]
      refine⟨ak _ h1,λz hz=>?_⟩;rcases b8.mp hz with rfl |hz
      ·lia
      ·exact h2 z hz
     ·rw[if_neg D]
      refine⟨au,λz hz=>?_⟩;rcases b8.mp hz with rfl |hz
      ·lia
      ·have:=h2 z hz;lia
def zji:∀ {ns:cc},ns≠[]->∃M,minI ns=some M
 | [],h=>absurd rfl h | [a],_=>⟨a,rfl⟩ |a::b::r,_=>by
   obtain⟨m,z⟩:=zji (ns:=b::r) (by simp);exact⟨_,by unfold minI;rw[z];rfl⟩
def p9:ei->el | [.lst ds]=>(ints? ds).bind λns=>(minI ns).map D.int |_=>none
def zs1:qf X G H0 (λxs H Q=>∃p,∃ns:cc,∃M,xs=[.ref p]/\SqL X.K H p (ns.map V.int)/\M∈ns/\(∀a,a∈ns->M<=a)/\Q (.int M) H) p9:=by
 intro W env σ H vs ds d Q ok r e k;unfold p9 at e;split at e
 ·rename_i z
  cases e1:ints? z with
  |none=>rw[e1] at e;cases e
  |some ns =>
    rw[e1,ab] at e;cases e2:minI ns with
    |none=>rw[e2] at e;cases e
    |some M =>
      rw[e2] at e;cases e;cases qt e1;obtain⟨v,rfl,D⟩:=m7 r;obtain⟨l,us,rfl,h,I⟩:=D.lst_;cases qu I;obtain⟨h1,h2⟩:=ym e2;exact⟨l,ns,M,rfl,h.sq,h1,h2,k _ H Step.refl ok (.int _)⟩
 ·cases e
def zs2(D:DAx X G H0 [e] F)(I:X.calm=true:=by rfl)(z:Bn X "min":=by walk_at "b")(J:starEach [e] X.env=(false,eval e X.env)::starEach [] X.env:=by rfl):DEx X G H0 (.Call (.Name "min" p') [e] [] pos) (en p9 F) :=
 u8 (znz I) zs1 z.g z.m boot_min D (by decide) (by decide) J rfl
variable{xs:bt}
def gl_p(h:sc.names.lookup x=some .globalImplicit):Gl (zsa X xs N' sc cl C s H fp) x:=zb1 h
section
variable (P:Program) (w:World)
end
section
variable {X:Cx} {CX:CXT} {k:Nat} {f C:Addr} {fd:FuncData} {ps ks:bt} {sp:Sp} {E:XK} {x m:Str} {p pos apos kpos:Pos} {e o:Expr} {es:ci} {kws:List Keyword} {te ta:TE} {t tk:TA} {nm:cm}
variable {g:b0->b0->b0} {gV:ed->ed->ed}
end
section
variable {κ:Type} [DecidableEq κ]
end
structure M1 (X:Cx) (o:Expr) (m:Str) (apos:Pos) (e:Expr) (cpos:Pos):Prop where
 base:attributeBase o m X.env (eval o X.env)=eval o X.env
 few:((backTo cpos (starEach [e] X.env)).all (λx=>!x.1) && (backToKw cpos (keywordEach [] X.env)).all (λx=>x.1.isSome)
  && decide (([e]:ci).length+([]:List Keyword).length+(if ([]:List Keyword).isEmpty then 0 else 1)<30))=true
 line:(apos.endLine==cpos.line)=true
 trees:backTo cpos (starEach [e] X.env)=[(false,eval e X.env)]
structure M2 (X:Cx) (o:Expr) (m:Str) (apos:Pos) (e f:Expr) (cpos:Pos):Prop where
 base:attributeBase o m X.env (eval o X.env)=eval o X.env
 few:((backTo cpos (starEach [e,f] X.env)).all (λx=>!x.1) && (backToKw cpos (keywordEach [] X.env)).all (λx=>x.1.isSome)
  && decide (([e,f]:ci).length+([]:List Keyword).length+(if ([]:List Keyword).isEmpty then 0 else 1)<30))=true
 line:(apos.endLine==cpos.line)=true
 trees:backTo cpos (starEach [e,f] X.env)=[(false,eval e X.env),(false,eval f X.env)]
end L2
namespace Att
open PySem PySem.W PySem.Calls PyProof.Rows
end Att
namespace L2
open PySem PySem.Spec PyProof.Rows
section
variable {κ:Type} [DecidableEq κ]
end
variable{X:Cx}{x:Str}
def zp6:MtM X "list.count" (λx xs H Q=>∃p,∃ns:cc,∃k:Int,x=.ref p/\xs=[.int k]/\SqL X.K H p (ns.map V.int)/\Q (.int (ns.count k:Nat)) H):=by
 intro pins s σ H x xs v us Q I z D h;obtain⟨p,ns,k,rfl,rfl,J,q⟩:=h;cases z;obtain⟨u,rfl,L⟩:=D.one;obtain⟨t,rfl⟩:=L;obtain⟨its,R,pl,S⟩:=I.list J;exact count_list_ints pl.isList (y3 R) ⟨.int (ns.count k:Nat),H,I.tok _,⟨_,rfl⟩,q⟩
def zyh:D->D->el | .lst ds,.int k=>(ints? ds).bind λns=>if k∈ns then some (.int (ns.idxOf k:Nat)) else none |_,_=>none
def o9:D->D->el | .lst ds,.int k=>(ints? ds).map λns=>.int (ns.count k:Nat) |_,_=>none
variable{G:Gd}{H0:Hp}{f g:FE}
def zxw{r:V->ed->Hp->VK->Prop}{op:D->D->el}(U:∀R Y d,op R Y=some d->∃ds,R=.lst ds)(Z:OpD X G H0 (λx y H Q=>r x [y] H Q) op) :
  ∀σ H Q,tD X.K G H0 (fBin op f g) σ H Q->tBM X.K "list" r (tD X.K G H0 f) (xl (tD X.K G H0 g) tNil) σ H Q:=by
 rintro σ H Q ⟨W,env,d,env',ok,e,k⟩;cases e1:f env with
 |none=>simp[fBin,e1] at e |some r1 =>
   cases e2:g r1.2 with
   |none=>simp[fBin,e1,e2] at e |some r2 =>
     have e:(op r1.1 r2.1).map (λd=>(d,r2.2))=some (d,env'):=by simpa[fBin,e1,e2] using e
     cases e3:op r1.1 r2.1 with
     |none=>rw[e3] at e;cases e
     |some d' =>
       rw[e3] at e;have a:(d',r2.2)=(d,env'):=az e;cases a;obtain⟨ds,I⟩:=U _ _ _ e3;refine⟨W,env,r1.1,r1.2,ok,e1,λW1 b H1 c z p1=>⟨?_,W1,r1.2,r2.1,r2.2,z,e2,λS v2 H2 s2 J p2=>?_⟩⟩
       ·rw[I] at p1
        obtain⟨l,us,rfl,h,n⟩:=p1.lst_;exact .inl ⟨rfl,_,h.sq⟩
       ·exact Z S _ σ H2 b v2 _ _ _ Q J (z.rep s2 p1) p2 e3 λv i j L m=>k S v i ((c.trans s2).trans j) L m
def zp7:OpD X G H0 (λx y H Q=>∃p,∃ns:cc,∃k:Int,x=.ref p/\[y]=[V.int k]/\SqL X.K H p (ns.map V.int)/\Q (.int (ns.count k:Nat)) H) o9:=by
 intro W env σ H x y J L d Q ok z D e k;unfold o9 at e;split at e;case h_2=>cases e
 rename_i ds i;cases e1:ints? ds with
 |none=>rw[e1] at e;cases e
 |some ns =>
   rw[e1] at e;cases e;cases qt e1;obtain⟨l,us,rfl,h,I⟩:=z.lst_;cases qu I;exact⟨l,ns,i,rfl,by rw[D.int_],h.sq,k _ H Step.refl ok (.int _)⟩
variable{a b:Expr}{pos p1:Pos}
def zp8(L:DEx X G H0 b g)(R:DEx X G H0 a f)(z:attributeBase b "count" X.env (eval b X.env)=eval b X.env:=by rfl)(I:((backTo pos (starEach [a] X.env)).all (λx=>!x.1) && (backToKw pos (keywordEach [] X.env)).all (λx=>x.1.isSome)
   && decide ([a].length+([]:List Keyword).length+(if ([]:List Keyword).isEmpty then 0 else 1)<30))=true:=by rfl)(D:(p1.endLine==pos.line)=true:=by rfl)(J:starEach [a] X.env=(false,eval a X.env)::starEach [] X.env:=by rfl) :
  DEx X G H0 (.Call (.Attribute b "count" p1) [a] [] pos) (fBin o9 g f):=⟨(qa dy PySem.F.slot_list_count PySem.F.type_list_count zp6 L.out (lf R.out ma J) z I D J rfl).imp
 (zxw (λS U d h=>by unfold o9 at h;split at h;exact⟨_,rfl⟩;cases h) zp7)⟩
end L2
namespace L2
open PySem
theorem zk5{i:Nat}{g:FS}(P:Nat->DE0->Prop):∀(ds:ei) (e:DE0) (n:Nat),P n e->(∀(k:Nat) (d:D) (e:DE0),ds[k]?=some d->P (n+k) e->∃e',g (e.set i (some (.sh d)))=some (.nx,e')/\P (n+k+1) e') ->
  ∃e',forL i g ds e=some (.nx,e')/\P (n+ds.length) e'
 | [],e,n,h,_=>⟨e,rfl,h⟩ |d::r,e,n,h,hs=>by
   obtain⟨z,h1,p1⟩:=hs 0 d e rfl h;obtain⟨I,h2,p2⟩:=zk5 P r z (n+1) p1 λk d' e' J L=>by
    have:=hs (k+1) d' e' (by simpa using J) (by rw[<-Nat.add_assoc,Nat.add_right_comm];exact L);rw[show n+(k+1)+1=n+1+k+1 by lia] at this;exact this
   refine⟨I,?_,by rw[av,show n+(r.length+1)=n+1+r.length by lia];exact p2⟩;simp[forL,h1,h2]
variable{i:Int}{g:FS}
def nj{i:Nat}(P:Nat->DE0->Prop)(ds:ei)(e:DE0)(h:P 0 e)(z:∀(k:Nat) (d:D) (e:DE0),ds[k]?=some d->P k e->∃e',g (e.set i (some (.sh d)))=some (.nx,e')/\P (k+1) e') :
  ∃e',forL i g ds e=some (.nx,e')/\P ds.length e':=by
 obtain⟨e',h1,h2⟩:=zk5 P ds e 0 h λk d e I J=>by
  obtain⟨e',L,R⟩:=z k d e I (by simpa using J);exact⟨e',L,by simpa using R⟩
 exact⟨e',h1,by simpa using h2⟩
variable{lo:Int}{n:Nat}{d:D}
def ng{k:Nat}(h:(rngD lo n)[k]?=some d):d=.int (lo+k)/\k<n:=by
 unfold rngD at h;rw[bv] at h;by_cases z:k<n
 ·rw[ir z] at h
  exact⟨(az h).symm,z⟩
 ·rw[cu (by simpa using z)] at h;cases h
def np:(rngD lo n).length=n:=by simp[rngD]
theorem ku(h:-1000000000000<i/\i<1000000000000):js i:=⟨by lia,by lia⟩
variable{α:Type}
theorem zq3{xs:List α}(D:0<=i)(h1:i<xs.length):∃x,atI xs i=some x/\xs[i.toNat]?=some x:=by
 have z:i.toNat<xs.length:=by lia
 exact⟨xs[i.toNat],by unfold atI ixN;rw[if_pos D,if_pos h1];simp[z],by simp[z]⟩
def zmb(a b c:FS):sSeq (sSeq a b) c=sSeq a (sSeq b c):=by
 funext e;simp;cases a e with
 |none=>rfl |some r=>obtain⟨fl,z⟩:=r;cases fl <;> rfl
def jt{ar:Nat}{ds:ei}{e':DE0}(h:ds.length=ar)(z:g (jd n ds)=some (.rt d,e')):runD n ar g ds=some d:=by
 unfold runD;rw[if_pos h,z]
def few(h:n<=1000000):Few n:=bh h (by decide)
theorem l5(n:Nat)(z:n<=1000000):iR1 [.int n]=some (rngD 0 n):=by
 unfold iR1;dsimp only;rw[if_pos (show Bnd _ _ _ from⟨by lia,by lia⟩),fo]
variable{j:Int}
def x9(h:js j):dMul (.int i) (.int j)=some (.int (i*j)):=by
 unfold dMul;dsimp only;rw[if_pos (.inr h)]
def oa(h:js i):dMul (.int i) (.int j)=some (.int (i*j)):=by
 unfold dMul;dsimp only;rw[if_pos (.inl h)]
def zs3(h:0<j):dMod (.int i) (.int j)=some (.int (i % j)):=by
 unfold dMod;dsimp only;rw[if_pos h]
theorem zs4(h:0<j)(h2:j<1073741824):dDiv (.int i) (.int j)=some (.int (i / j)):=by
 unfold dDiv;dsimp only;rw[if_pos (show Bnd _ _ _ from⟨by lia,h2⟩)]
def ko{α:Type}{te:FE}{base:DE0}(φ ψ:α->D):∀(xs:List α),(∀x∈xs,∃e',te (some (.sh (φ x))::base)=some (ψ x,e'))->jy fYes te base (xs.map φ)=some (xs.map ψ)
 | [],_=>rfl |x::xs,h=>by
   obtain⟨e',z⟩:=h x au;have I:=ko φ ψ xs λy J=>h y (ak _ J);simp[jy,z,I]
def zhy{α:Type}{te:FA}{base:DE0}(φ:α->D)(ψ:α->ei):∀(xs:List α),(∀x∈xs,∃e',te (some (.sh (φ x))::base)=some (ψ x,e'))->qj te base (xs.map φ)=some (xs.map ψ)
 | [],_=>rfl |x::xs,h=>by
   obtain⟨e',z⟩:=h x au;have I:=zhy φ ψ xs λy J=>h y (ak _ J);simp[qj,z,I]
def zhz{α:Type}:∀ {l:List α} {n:Nat} {z:α},l[n]?=some z->l.Perm (z::l.eraseIdx n)
 |a::l,0,z,h=>by simp at h;subst h;exact .refl _
 |a::l,n+1,z,h=>by
   have D:=zhz (l:=l) (n:=n) (z:=z) (by simpa using h);exact(D.cons a).trans (List.Perm.swap z a _)
def zk6{α:Type}:∀ {l:List (List α)} {j:Nat} {s:List α} {x:α},l[j]?=some s->(l.set j (s++[x])).flatten.Perm (x::l.flatten)
 |a::l,0,s,x,h=>by
   simp at h;subst h;simp only[aw,bx,b9,du];exact lx
 |a::l,j+1,s,x,h=>by
   have z:=zk6 (l:=l) (j:=j) (s:=s) (x:=x) (by simpa using h);exact(z.append_left a).trans lx
def xk(a b c:D):atI [a,b,c] 0=some a:=rfl
def o3(a b c:D):atI [a,b,c] 1=some b:=rfl
def p8(a b c:D):atI [a,b,c] 2=some c:=rfl
def zxx(a b c d:D):atI [a,b,c,d] 0=some a:=rfl
def zxy(a b c d:D):atI [a,b,c,d] 1=some b:=rfl
def zxz(a b c d:D):atI [a,b,c,d] 2=some c:=rfl
def zx0(a b c d:D):atI [a,b,c,d] 3=some d:=rfl
def zjj{α:Type}{i:Nat}{g:FS}(φ:α->D)(P:List α->DE0->Prop)(all:List α)(I:∀(p:List α) (x:α) (q:List α) (e:DE0),all=p++x::q->P p e->∃e',g (e.set i (some (.sh (φ x))))=some (.nx,e')/\P (p++[x]) e') :
  ∀(xs z:List α) (e:DE0),all=z++xs->P z e->∃e',forL i g (xs.map φ) e=some (.nx,e')/\P all e'
 | [],z,e,h,hp=>⟨e,rfl,by rw[h,ca];exact hp⟩ |x::xs,z,e,h,hp=>by
   obtain⟨J,h1,p1⟩:=I z x xs e h hp;obtain⟨L,h2,p2⟩:=zjj φ P all I xs (z++[x]) J (by rw[h];simp) p1;exact⟨L,by simp[forL,h1,h2],p2⟩
def p0{i:Nat}(φ:α->D)(P:List α->DE0->Prop)(all:List α)(e:DE0)(z:P [] e)(I:∀(p:List α) (x:α) (q:List α) (e:DE0),all=p++x::q->P p e->∃e',g (e.set i (some (.sh (φ x))))=some (.nx,e')/\P (p++[x]) e') :
  ∃e',forL i g (all.map φ) e=some (.nx,e')/\P all e':=zjj φ P all I all [] e rfl z
end L2
namespace L2
open PySem PySem.Spec PyProof.Rows PySem.W
abbrev Ag:=AK×em
abbrev er:=List Ag
abbrev XF:=DE0->Option (Str×DE0)
def XEnd(X:Cx)(G:Gd)(H0:Hp)(W:Addr->Prop)(H:Hp)(σ:St)(c:Str)(env':DE0):Prop:=∀W' H' C,Cl X.K c C->Step W H W' H'->Ok X.K G H0 W' env' σ H'->∀pins e s',XS X pins σ H' C e s'->X.xe (.ref e) s'
def tDX(X:Cx)(G:Gd)(H0:Hp)(x:XF)(σ:St)(H:Hp):Prop:=DP X.K G H0 x (λW env c env'=> XEnd X G H0 W H σ c env') σ H
structure JX (X:Cx) (G:Gd) (H0:Hp) (e:Expr) (x:XF):Prop where
 out:PE X e (λσ H _=>tDX X G H0 x σ H)
structure JXA (X:Cx) (G:Gd) (H0:Hp) (es:ci) (x:XF):Prop where
 out:PA X es (λσ H _=>tDX X G H0 x σ H)
structure JXS (X:Cx) (G:Gd) (H0:Hp) (s:Stmt) (x:XF):Prop where
 out:PS X s (λ_ σ H=>tDX X G H0 x σ H)
def aggs(env:DE0)(is:b5):Prop:=∀i∈is,∃s,env[i]?=some (some s)
instance (env:DE0) (is:b5):Decidable (aggs env is):=Classical.propDecidable _
def tLA(X:Cx)(G:Gd)(H0:Hp)(is:b5)(F:FA):TA:=λσ H Q=>∃W env ds env',Ok X.K G H0 W env σ H/\aggs env is/\F env=some (ds,env') /\
 ∀W' us z H',Step W H W' H'->Ok X.K G H0 W' env' σ H'->us.length=is.length->(∀(j i:Nat),is[j]?=some i->∃u,us[j]?=some u/\σ[i]?=some (some u))->Reps X.K H' (Ow G W') ds z->Q (us++z) H'
structure JLA (X:Cx) (G:Gd) (H0:Hp) (is:b5) (es:ci) (F:FA):Prop where
 out:PA X es (tLA X G H0 is F)
instance (a b:List AK):Decidable (a=b):=Classical.propDecidable _
def isK(κ:AK)(e:DE0)(i:Nat):Prop:=(∃l ps,e[i]?=some (some (.ag κ l ps)))\/∃ps,e[i]?=some (some (.ro κ ps))
instance (κ:AK) (e:DE0) (i:Nat):Decidable (isK κ e i):=Classical.propDecidable _
section
variable {X:Cx} {G:Gd} {H0:Hp} {a b e:Expr} {es:ci} {f:FE} {F:FA} {x m cn:Str} {fs:bt} {is:b5} {pos p' p1 p2 apos:Pos} {i:Nat} {k:Nat} {fa C:Addr} {fd:FuncData} {ps:bt} {pl:Sem Bool}
variable {mm:er->ei->el} {xx:er->ei->cm}
variable {mm:er->ei->Option (D×er)} {xx:er->ei->Option (Str×er)}
def zp9{z:Int}(D:∃t,X.mg x=some (.int z t))(I:Gl X x:=by walk_at "g")(hd:(x==("__debug__" : Str))=false:=by decide +kernel):DEx X G H0 (.Name x pos) (fC (.int z)):=by
 obtain⟨t,D⟩:=D;exact de_c (zri I D (v:=.int z) ⟨t,rfl⟩ hd) λ_ _=>.int _
abbrev FV:=DE0->Option DE0
def tV(X:Cx)(G:Gd)(H0:Hp)(v:FV):TE:=λσ H Q=>∃W env env',Ok X.K G H0 W env σ H/\v env=some env'/\∀W' z H',Step W H W' H'->Ok X.K G H0 W' env' σ H'->Q (.str z) H'
structure JV (X:Cx) (G:Gd) (H0:Hp) (e:Expr) (v:FV):Prop where
 out:PE X e (tV X G H0 v)
structure JVP (X:Cx) (G:Gd) (H0:Hp) (e:Expr) (v:FV):Prop where
 out:∀(pins:dt) (s:Shared) (σ:St) (H:Hp) (Q:Nat->Hp->Prop),Inv X pins σ H s->(∃W env env',Ok X.K G H0 W env σ H/\v env=some env'/\∀n W' H',n<=1000->Step W H W' H'->Ok X.K G H0 W' env' σ H'->Q n H') ->
  wpAny (model X.prog X.w) X.A (eval e X.env) (λu s'=>∃z t H',u=.str z t/\Inv X pins σ H' s'/\Q z.length H') X.xe s
structure JVs (X:Cx) (G:Gd) (H0:Hp) (es:ci) (v:FV):Prop where
 out:∀(acc:Str) (pins:dt) (s:Shared) (σ:St) (H:Hp) (Q:VK),acc.length+1000*es.length<=100000->Inv X pins σ H s->tV X G H0 v σ H Q ->
  wpAny (model X.prog X.w) X.A (joinParts acc (evalEach es X.env)) (EP X pins σ Q) X.xe s
abbrev VEs:b0:=[.type "ValueError",.type "Exception",.type "BaseException",.type "object"]
def XC(K:dc)(C:Addr):Prop:=PySem.W.excIn K C VEs "ValueError.__new__" = true
def Exc(K:dc)(mg:Str->b2)(c:Str):Prop:=∃C,Cl K c C/\XC K C/\mg c=some (.ref C)/\(c==("__debug__" : Str))=false
end
def agAt(e:DE0)(i:Nat):Option Ag:=match e[i]? with |some (some (.ag k _ ps))=>some (k,ps) |some (some (.ro k ps))=>some (k,ps) |_=>none
inductive Acc where
 |at (κ:AK) |al (x:Nat)
instance (A:Acc) (e:DE0) (i j:Nat):Decidable (A.ok e i j):=Classical.propDecidable _
def zx1(A:Acc)(i j:Nat)(e:DE0):Option ei:=if A.ok e i j then(agAt e i).bind λx=>match x.2[j]? with |some (.o ds)=>some ds |_=>none else none
def zv7(K:dc)(H:Hp)(env:DE0)(σ:St)(i j:Nat)(a:Addr):Prop:=∃k ps p us,agAt env i=some (k,ps)/\σ[i]?=some (some (.ref p))/\AkOk K H k p us/\us[j]?=some (.ref a)
def tPt(X:Cx)(G:Gd)(H0:Hp)(A:Acc)(i j:Nat):TE:=λσ H Q=>∃W env ds,Ok X.K G H0 W env σ H/\zx1 A i j env=some ds /\
 ∀a vs,zv7 X.K H env σ i j a->H a=some (.lst vs)->Reps X.K H (Ow G W) ds vs->Q (.ref a) H
structure JPt (X:Cx) (G:Gd) (H0:Hp) (e:Expr) (A:Acc) (i j:Nat):Prop where
 out:PE X e (tPt X G H0 A i j)
structure JK (X:Cx) (e:Expr) (z:Int):Prop where
 out:PE X e (tC (.int z))
variable{fs:bt}
def labO(k:AK)(l:Option Nat):Prop:=l.isSome=true/\∀c fs,k≠.ins true c fs
instance (k:AK) (l:Option Nat):Decidable (labO k l):=Classical.propDecidable _
instance (k k':AK):Decidable (k=k'):=Classical.propDecidable _
abbrev FG:=DE0->Option (Ag×DE0)
def zx2(env:DE0)(σ:St)(H:Hp)(s:Sl)(v:V):Prop:=∀(j:Nat) (s':Sl) (z:V) (a:Addr),env[j]?=some (some s')->σ[j]?=some (some z)->Owns H s v a->¬Owns H s' z a
def tAG(X:Cx)(G:Gd)(H0:Hp)(f:FG):TE:=λσ H Q=>DP X.K G H0 f (λW env x env' =>
 ∀W' p H',Step W H W' H'->Ok X.K G H0 W' env' σ H'->SlOk X.K G W' H' (.ag x.1 none x.2) (.ref p)->zx2 env' σ H' (.ag x.1 none x.2) (.ref p)->Q (.ref p) H') σ H
structure JAg (X:Cx) (G:Gd) (H0:Hp) (e:Expr) (f:FG):Prop where
 out:PE X e (tAG X G H0 f)
mutual
def noL:D->Bool
 | .lst _=>false | .dct _ _=>false | .tup ds=>noLs ds |_=>true
def noLs:ei->Bool
 | []=>true |d::r=>noL d && noLs r
end
def ptD:Pt->D | .d d=>d | .o ds=>.lst ds
def xj(r:Nat):DE0->Option em
 | []=>none |some (.ag .ls (some r') ps)::e=>if r'=r then some ps else xj r e
 |_::e=>xj r e
def xi:em->Nat->Option ei
 | .o ds::_,0=>some ds | .o _::r,j+1=>xi r j | .d _::r,j=>xi r j | [],_=>none
def zv8(b:Bool)(ps:em):em:=if b=true then ps.map λp=>.d (ptD p) else ps
def frz1(b:Bool)(env:DE0):ep->ep
 |some (.sh d)=>some (.sh d) |some (.ow ds)=>some (.sh (.lst ds)) |some (.o2 dss)=>some (.sh (.lst (dss.map D.lst))) |some (.ag .ls _ ps)=>some (.sh (.lst (ps.map ptD))) |some (.ag k _ ps)=>some (.ro k (zv8 b ps)) |some (.ro .ls ps)=>some (.sh (.lst (ps.map ptD))) |some (.ro k ps)=>some (.ro k (zv8 b ps)) |some (.al r j)=>(xj r env).bind λps=>(xi ps j).map λds=>.sh (.lst ds) |none=>none
def frz(b:Bool)(env:DE0):DE0:=env.map (frz1 b env)
def fFrz(b:Bool)(f:FE):FE:=λe=>(f (frz b e)).bind λr=>if noL r.1=true then some (r.1,e) else none
def zv9(b:Bool)(f:FA):FA:=λe=>(f (frz b e)).bind λr=>if noLs r.1=true then some (r.1,e) else none
def frs1:ep->ep
 |some (.sh d)=>some (.sh d) |some (.ag k _ ps)=>some (.ro k ps) |some (.ro k ps)=>some (.ro k ps) |_=>none
def frsE(env:DE0):DE0:=env.map frs1
def OwG(G:Gd)(W:Addr->Prop)(H:Hp):Gd:=⟨λa=>Ow G W a\/H a=none,G.r⟩
abbrev FP:=DE0->Option em
def tPs(X:Cx)(G:Gd)(H0:Hp)(f:FP):TA:=λσ H Q=>∃W env ps,Ok X.K G H0 W env σ H/\f env=some ps /\
 ∀as us H',Same H H'->as.Nodup->(∀a∈as,H a=none)->PtsOk X.K (OwG G W H) (λa=>a∈as) H' ps as us->Q us H'
structure JPs (X:Cx) (G:Gd) (H0:Hp) (es:ci) (f:FP):Prop where
 out:PA X es (tPs X G H0 f)
end L2
namespace L2
open PySem
abbrev zqa:bt:=["kept", "states"]
end L2
namespace L2
open PySem PySem.Spec PyProof.Rows
def zwa(i:Nat)(g:FE)(F:FA):FS:=λe=>(F e).bind λr=>match r.2[i]? with
 |some (some (.o2 dss))=>(g (frsE r.2)).bind λq=>(match q.1 with | .int k=>(ixN dss.length k).map λj=>(.nx,r.2.set i (some (.o2 (dss.set j r.1)))) |_=>none)
 |_=>none
def zwb(i:Nat)(g h f:FE):FS:=λe=>(f e).bind λr=>match r.2[i]? with
 |some (some (.o2 dss))=>(g (frsE r.2)).bind λq=>(h (frsE r.2)).bind λp=>(match q.1,p.1 with
   | .int k,.int m=>(ixN dss.length k).bind λj=>(dss[j]?).bind λds=>(ixN ds.length m).map λn=>(.nx,r.2.set i (some (.o2 (dss.set j (ds.set n r.1)))))
   |_,_=>none)
 |_=>none
end L2
namespace L2
open PySem PySem.Spec PyProof.Rows PySem.F
end L2
namespace L2
open PySem PySem.Spec PyProof.Rows
def celN(N:bt)(sc:Scope):bt:=N.filter λu=>sc.names.lookup u==some .cell
def scB(N ps:bt)(sc:Scope):Bool:=decide (sc.kind=.function) && !sc.isCoroutine && !sc.isGenerator && decide N.Nodup && decide (N.take ps.length=ps) && decide (∀y∈sc.names,y.2≠.free) && N.all λx=>okN x && (sc.names.lookup x==some .local || sc.names.lookup x==some .cell)
variable{N ps:bt}{sc:Scope}
def p7(h:scB N ps sc=true):pw N ps sc/\∀x∈N,Loc sc x/\(x==("__debug__" : Str))=false/\(x==("__classdict__" : Str))=false:=by
 unfold scB at h;simp only[ij,decide_eq_true_eq,k4,gm] at h;obtain⟨⟨⟨⟨⟨⟨h1,h2⟩,J⟩,L⟩,D⟩,R⟩,S⟩:=h;have I:∀x∈N,Loc sc x/\(x==("__debug__" : Str))=false/\(x==("__classdict__" : Str))=false:=λx z=>by
  obtain⟨a,b⟩:=S x z;have a:=qm a;rcases Bool.or_eq_true _ _ ▸ b with b |b
  ·exact⟨.inl (n9 b),a⟩
  ·exact⟨.inr (n9 b),a⟩
 exact⟨⟨h1,h2,J,L,D,λx z=>(I x (by rw[<-D] at z;exact j6 z)).1,R⟩,I⟩
variable{P:Program}{w:World}{K:dc}{mg:Str->b2}{base:Heap}{CX:CXT}{qual:Str}{f:Addr}{cdv:Value}{A:Around}{outer:cd}{s:Shared}{H:Hp}{E:XK}
def x8(h:scB N ps sc=true):Ats N (celN N sc) (cxOf CX P w K mg base N qual sc f cdv A outer s H E) :=
 ⟨rfl,λi x e=>let z:=(p7 h).2 x (bq e);⟨e,z.1.elim .inl λq=>.inr (.inl q),z.2.1,z.2.2⟩,λu D=>by
  obtain⟨_,h2⟩:=fz.mp D;exact .inl (n9 h2)⟩
def x6(h:scB N ps sc=true):Tos N (cxOf CX P w K mg base N qual sc f cdv A outer s H E) :=
 ⟨λi x e=>⟨(p7 h).1.nd,e,((p7 h).2 x (bq e)).1,.inl rfl⟩⟩
variable{X:Cx}{i:Nat}{x:Str}{pos:Pos}
def Tos.pg(t:Tos N X)(h:N[i]?=some x:=by rfl):PG X (.Name x pos) (kq i):=zmu (t.t h).nd (t.t h).n (t.t h).l (t.t h).f
variable{G:Gd}{H0:Hp}{e:Expr}{p':Pos}{F:FA}
def Tos.psF(t:Tos N X)(z:DFx X G H0 e F)(h:N[i]?=some x:=by rfl)(D:swapsWith e (some (.Name x p')) pos.line X.env=pure false:=by rfl):PS X (.Assign [.Name x p'] e pos) (tAsg (tDF X.K G H0 F) (kq i)):=zqp (t.t h).nd (t.t h).n (t.t h).l z.out D (t.t h).f
variable{P:b0->Prop}
def us0(h:P [])(us:b0)(e:us.length=0):P us:=mh e ▸ h
variable{n:Nat}
def usn(h:∀a,∀us:b0,us.length=n->P (a::us))(us:b0)(e:us.length=n+1):P us:=by
 cases us with
 |nil=>cases e
 |cons a us=>exact h a us (kx e)
def us1(h:∀a,P [a]):∀us,us.length=1->P us:=usn λa=>us0 (h a)
def us2(h:∀a b,P [a,b]):∀us,us.length=2->P us:=usn λa=>us1 (P:=λus=>P (a::us)) (h a)
def us3(h:∀a b c,P [a,b,c]):∀us,us.length=3->P us:=usn λa=>us2 (P:=λus=>P (a::us)) (h a)
def us4(h:∀a b c d,P [a,b,c,d]):∀us,us.length=4->P us:=usn λa=>us3 (P:=λus=>P (a::us)) (h a)
def us5(h:∀a b c d e,P [a,b,c,d,e]):∀us,us.length=5->P us:=usn λa=>us4 (P:=λus=>P (a::us)) (h a)
def Def(K:dc)(mg:Str->b2)(st:Stmt)(x:Str)(ps:bt):Prop:=∃f fd,Fun K x x st f fd/\Binds K fd ps []/\mg x=some (.ref f)
def Mef(K:dc)(C:Addr)(st:Stmt)(x qual:Str)(ps:bt):Prop:=∃f fd,Fun K x qual st f fd/\Binds K fd ps []/\Meth K C x f
variable{P:Program}{st:Stmt}{k ar:Nat}{g:FS}
theorem iy(T:Def K mg st x ps)(N:bt)(z:∀ {f:Addr} {cdv:Value} {A:Around} {outer:cd} {s:Shared} {H:Hp} {E:XK} {G:Gd} {H0:Hp},Room k (A.deeper (envOfC x (gv st) s.heap.objs.size f cdv)) ->
   Ats N (celN N (gv st)) (cxOf CX0 P w K mg base N x (gv st) f cdv A outer s H E).nox->Tos N (cxOf CX0 P w K mg base N x (gv st) f cdv A outer s H E).nox->DBx (cxOf CX0 P w K mg base N x (gv st) f cdv A outer s H E).nox G H0 (ka st) g)(h:scB N ps (gv st)=true:=by decide +kernel)(D:okN x=true:=by decide +kernel)(I:n=N.length:=by rfl)(J:ar=ps.length:=by rfl):Cal P w K mg base CX0 x (k+1) (dSp K (runD n ar g)):=by
 obtain⟨f,fd,F,b,m⟩:=T;exact⟨f,fd,ps,fn_D F (p7 h).1 I J λcdv A outer s H E G H0 L=>z L (x8 h).nox (x6 h).nox,m,F.kp,b,(qm D).1⟩
theorem zwc(T:Def K mg st x ps)(N:bt)(z:∀ {f:Addr} {cdv:Value} {A:Around} {outer:cd} {s:Shared} {H:Hp} {E:XK} {G:Gd} {H0:Hp},Room k (A.deeper (envOfC x (gv st) s.heap.objs.size f cdv)) ->
   Ats N (celN N (gv st)) (cxOf CX0 P w K mg base N x (gv st) f cdv A outer s H E).nox->Tos N (cxOf CX0 P w K mg base N x (gv st) f cdv A outer s H E).nox->DBx (cxOf CX0 P w K mg base N x (gv st) f cdv A outer s H E).nox G H0 (ka st) g)(h:scB N ps (gv st)=true:=by decide +kernel)(D:okN x=true:=by decide +kernel)(I:n=N.length:=by rfl)(J:ar=ps.length:=by rfl):Cal P w K mg base CX0 x (k+1) (fSp K (runF n ar g)):=by
 obtain⟨f,fd,F,b,m⟩:=T;exact⟨f,fd,ps,fn_F F (p7 h).1 I J λcdv A outer s H E G H0 L=>z L (x8 h).nox (x6 h).nox,m,F.kp,b,(qm D).1⟩
def zx3(N:bt)(z:∀ {f:Addr} {cdv:Value} {A:Around} {outer:cd} {s:Shared} {H:Hp} {E:XK} {G:Gd} {H0:Hp},Room k (A.deeper (envOfC x (gv st) s.heap.objs.size f cdv)) ->
   Ats N (celN N (gv st)) (cxOf CX0 P w K mg base N x (gv st) f cdv A outer s H E).nox->Tos N (cxOf CX0 P w K mg base N x (gv st) f cdv A outer s H E).nox->DBx (cxOf CX0 P w K mg base N x (gv st) f cdv A outer s H E).nox G H0 (ka st) g)(h:scB N ps (gv st)=true:=by decide +kernel)(D:n=N.length:=by rfl)(I:ar=ps.length:=by rfl):∀f fd,Fun K x x st f fd->FnOk P w K mg base CX0 (k+1) f fd ps (dSp K (runD n ar g)) :=
 λf fd F=>fn_D F (p7 h).1 D I λcdv A outer s H E G H0 J=>z J (x8 h).nox (x6 h).nox
variable{s:Str}{h:Heap}{oc:Value}{od an:Option Addr}{osl:Array b2}
def law_mk{fa:Addr}{m:ei->el}{kV z J cdv ct:Value}(X:K.In h)(G:h.Ns mainGlobals mg)(I:mg x=some (.ref fa))(a:PySem.W.nsIn K mainGlobals x=some (some (.ref f)))(l:K.lookup f=some ⟨oc,od,.func (PySem.W.fnOf x x (nh st) (ka st) (gv st) .none kV z J an cdv ct),osl⟩)(c:PySem.W.codeIn K cdv x=true)(L:PySem.W.keepIn K (.ref f)=true)(R:∀v:Value,bindArgs (PySem.W.fnOf x x (nh st) (ka st) (gv st) .none kV z J an cdv ct) ⟨[v],[]⟩=pure [(s,v)])(F:∀base f fd,Fun K x x st f fd->FnOk P w K mg base CX0 k f fd [s] (dSp K m))(good:∀ns:cc,ns.length<=63->m [.lst (ns.map D.int)]=some (.bl true)) :
  ∃fd:FuncData,(∀(t:Shared) (v:Value),BindsTo t fd ⟨[v],[]⟩ [(s,v)])/\∀base:Heap,K.In base->base.Ns mainGlobals mg->FnOk P w K mg base CX0 k fa fd [s] (ur K):=by
 have e:=I.symm.trans (kg X G a);cases e;exact⟨_,λt v=>.of_eq (R v),λbase _ _=>zxq (F base _ _ (x0 l c L)) good⟩
def walkD{l:PySem.W.OpenLaw}{q:Program}{D:bt}{L:(Str->b2)->Heap->Prop}{J:World->Heap->Prop}{d:DefRec}{K:Params->dc}(R:Room k callerA)(S:l.most=some 63)(I:d.params.defaults=[])(U:∀(w:World) (h:Heap),J w h->(K w.params).In h)(F:∀(w:World) (mg:Str->b2) (fa:Addr) (h:Heap),(K w.params).In h->h.Ns mainGlobals mg->mg d.name=some (.ref fa) ->
   ∃fd:FuncData,(∀(t:Shared) (u:Value),BindsTo t fd ⟨[u],[]⟩ [(s,u)])/\∀base:Heap,(K w.params).In base->base.Ns mainGlobals mg->FnOk l.prog w (K w.params) mg base CX0 k fa fd [s] (ur (K w.params))) :
  PySem.W.WalkO q D L J l.row.toRowW d [] (λf vs=>PySem.call f vs) :=
 zr8 (n:=63) (k:=k) (x:=s) (CX:=λ_=>CX0) (sp:=λw=>ur (K w.params)) S (by decide) I R U F (λ_ _ a ns V _ Y=>⟨a,ns,rfl,Y,V,λ_=>rfl⟩) λ_ _ _ _ _ z=>z
def def_mk{kV z D cdv ct:Value}(X:K.In h)(G:h.Ns mainGlobals mg)(a:PySem.W.nsIn K mainGlobals x=some (some (.ref f)))(l:K.lookup f=some ⟨oc,od,.func (PySem.W.fnOf x x (nh st) (ka st) (gv st) .none kV z D an cdv ct),osl⟩)(c:PySem.W.codeIn K cdv x=true)(k:PySem.W.keepIn K (.ref f)=true)(I:∀us:b0,us.length=ps.length->bindArgs (PySem.W.fnOf x x (nh st) (ka st) (gv st) .none kV z D an cdv ct) ⟨us,[]⟩=pure (ps.zip us)):Def K mg st x ps :=
 ⟨f,_,x0 l c k,.all I,kg X G a⟩
variable{C:Addr}
def zyi{c:Str}(X:K.In h)(G:h.Ns mainGlobals mg)(a:PySem.W.nsIn K mainGlobals c=some (some (.ref C)))(b:PySem.W.excIn K C VEs "ValueError.__new__" = true)(d:okN c=true):Exc K mg c:=⟨C,a,b,kg X G a,(qm d).1⟩
def con_mk{z:Int}{t:Tok}(X:K.In h)(G:h.Ns mainGlobals mg)(a:PySem.W.nsIn K mainGlobals x=some (some (.int z t))):∃t,mg x=some (.int z t):=⟨t,kg X G a⟩
def zyj{kV z D cdv ct:Value}(a:PySem.W.findIn K (.ref C) x=some (some (.ref f)))(l:K.lookup f=some ⟨oc,od,.func (PySem.W.fnOf x qual (nh st) (ka st) (gv st) .none kV z D an cdv ct),osl⟩)(c:PySem.W.codeIn K cdv qual=true)(k:PySem.W.keepIn K (.ref f)=true)(i:PySem.W.isFn K (.ref f)=true)(I:∀us:b0,us.length=ps.length->bindArgs (PySem.W.fnOf x qual (nh st) (ka st) (gv st) .none kV z D an cdv ct) ⟨us,[]⟩=pure (ps.zip us)):Mef K C st x qual ps :=
 ⟨f,_,x0 l c k,.all I,a,i,k⟩
def recD(n ar:Nat)(g:(ei->el)->FS):Nat->ei->el
 |0=>λ_=>none |i+1=>runD n ar (g (recD n ar g i))
def zqb{b:List Stmt}:DBx X G H0 b (λ_=>none):=⟨λpins s σ H D I q=>by
 obtain⟨W,env,fl,env',ok,q,k⟩:=q;cases q⟩
def zwd{P:Program}{w:World}{K:dc}{mg:Str->b2}{base:Heap}{ps:bt}{x:Str}{st:Stmt}{n ar:Nat}{g:(ei->el)->FS}(T:Def K mg st x ps)(N:bt)(L:∀(j:Nat) (m:ei->el) {f:Addr} {cdv:Value} {A:Around} {outer:cd} {s:Shared} {H:Hp} {E:XK} {G:Gd} {H0:Hp},Cal P w K mg base CX0 x j (dSp K m)->Room j (A.deeper (envOfC x (gv st) s.heap.objs.size f cdv)) ->
   Ats N (celN N (gv st)) (cxOf CX0 P w K mg base N x (gv st) f cdv A outer s H E).nox->Tos N (cxOf CX0 P w K mg base N x (gv st) f cdv A outer s H E).nox->DBx (cxOf CX0 P w K mg base N x (gv st) f cdv A outer s H E).nox G H0 (ka st) (g m))(h:scB N ps (gv st)=true:=by decide +kernel)(z:okN x=true:=by decide +kernel)(I:n=N.length:=by rfl)(J:ar=ps.length:=by rfl):∀i,Cal P w K mg base CX0 x (i+1) (dSp K (recD n ar g i))
 |0=>by
   have c:=iy (k:=0) (g:=λ_=>none) (n:=n) (ar:=ar) (base:=base) (w:=w) (P:=P) T N (λ_ _ _=>zqb) h z I J;have e:runD n ar (λ_=>none)=recD n ar g 0:=by
    funext ds;unfold runD recD;split <;> rfl
   rw[<-e];exact c
 |i+1=>iy (k:=i+1) (g:=g (recD n ar g i)) T N (λr a t=>L (i+1) (recD n ar g i) (zwd T N L h z I J i) r a t) h z I J
def zx4{g:(ei->el)->FS}(i:Nat)(T:Def K mg st x ps)(N:bt)(z:∀(j:Nat) (m:ei->el) {f:Addr} {cdv:Value} {A:Around} {outer:cd} {s:Shared} {H:Hp} {E:XK} {G:Gd} {H0:Hp},Cal P w K mg base CX0 x j (dSp K m)->Room j (A.deeper (envOfC x (gv st) s.heap.objs.size f cdv)) ->
   Ats N (celN N (gv st)) (cxOf CX0 P w K mg base N x (gv st) f cdv A outer s H E).nox->Tos N (cxOf CX0 P w K mg base N x (gv st) f cdv A outer s H E).nox->DBx (cxOf CX0 P w K mg base N x (gv st) f cdv A outer s H E).nox G H0 (ka st) (g m))(h:scB N ps (gv st)=true:=by decide +kernel)(I:okN x=true:=by decide +kernel)(J:n=N.length:=by rfl)(L:ar=ps.length:=by rfl):Cal P w K mg base CX0 x (i+1) (dSp K (recD n ar g i)):=zwd T N z h I J L i
def ExcO(o:Obj)(C:Addr):Prop:=∃vs,o.cls=.ref C/\o.data=.fields vs/\vs[2]?=some .none
end L2
namespace L2
open PySem PySem.Spec PyProof.Rows PySem.W
structure ECls (K:dc) (C:Addr):Prop where
 ga:PySem.W.findIn K (.ref C) "__getattribute__" = some (some (.builtin "BaseException.__getattribute__"))
 hk:PySem.W.findIn K (.ref C) "__getattr__" = some none
 fd:PySem.W.findObj K C none "__class__" = some (.bind (.builtin "getset_descriptor.__get__") (.builtin "object.__class__"))
 ob:PySem.W.mroIn K C (.type "object")=some true
 be:PySem.W.mroIn K C (.type "BaseException")=some true
def Exo(o:Obj)(C:Addr):Prop:=ExcO o C/\o.dict=none
structure Hd (ea C:Addr) (X:Cx):Prop where
 hh:X.A.handled=some (.ref ea)
 ob:∃o,X.s₀.heap.get? ea=some o/\Exo o C
 h0:X.H₀ ea=none
 nf:ea∉X.fs
 nx:ea∉X.ex
structure KOk (P:Program) (w:World) (K:dc) (mg:Str->b2) (base:Heap) (k:Nat) (f:Addr) (fd:FuncData) (ps:bt) (kd:Str->el):Prop where
 len:ps.length=1
 run:∀(A:Around) (outer:cd) (s:Shared) (H:Hp) (ea C:Addr) (c:Str) (o:Obj) (d:D) (O:Addr->Prop) (Q:VK) (args:Args),Room k { A with handled:=none }->A.handled=some (.ref ea)->Env0 P w K mg base A outer s H->BindsTo s fd args (ps.zip [.ref ea]) ->
  s.heap.get? ea=some o->Exo o C->Cl K c C->H ea=none->ea∉frs outer->kd c=some d->(∀v H',Same H H'->Rep K H' (λa=>O a\/H a=none) d v->Q v H')->codeAny (model P w) A (.call (.ref f) args) (CR CX0 outer P w H s Q E0) s
def xh:bt:=["UnknownStack", "EmptyStack", "UnknownPlace", "BadHours", "BadLoss", "BadCount", "HouseFull", "DeedsFull", "NothingWaits", "NothingDone", "ShortOrder", "TooManyOrders", "NotGone"]
def zx5(K:dc)(C:Addr):Bool:=findIn K (.ref C) "__getattribute__"==some (some (.builtin "BaseException.__getattribute__")) && findIn K (.ref C) "__getattr__"==some none && (match findObj K C none "__class__" with |some (.bind (.builtin g) (.builtin a))=>g=="getset_descriptor.__get__" && a=="object.__class__" |_=>false) && mroIn K C (.type "object")==some true && mroIn K C (.type "BaseException")==some true
def refB(K:dc)(n:Str)(p:Addr->Bool):Bool:=match nsIn K mainGlobals n with |some (some (.ref R))=>p R |_=>false
def zwe(K:dc):Bool:=xh.all λc=>refB K c λC=>zx5 K C && kitOne K (.ref C) (.type "ValueError")==some true && refB K "RotError" (λR=>exmOne K (.ref C) (.ref R)==some true) && xh.all λn=>refB K n λR=>kitOne K (.ref C) (.ref R)==some (c==n)
structure zwf (K:dc) (mg:Str->b2):Prop where
 b:zwe K=true
 m:∀n∈("RotError" : Str)::xh,∀R,nsIn K mainGlobals n=some (some (.ref R))->mg n=some (.ref R)
def zyk{K:dc}{mg:Str->b2}{h:Heap}(X:K.In h)(G:h.Ns mainGlobals mg)(b:zwe K=true):zwf K mg:=⟨b,λ_ _ _ e=>mg_of X G e⟩
end L2
namespace LB
open PySem L2
def zg5:FS:=sRet (fBin dSub (fBin dMul (fIxV 0 (fC (.int 1))) (fIxV 1 (fC (.int 0)))) (fBin dMul (fIxV 1 (fC (.int 1))) (fIxV 0 (fC (.int 0)))))
def vm:ei->el:=runD 2 2 zg5
def ve:FS:=sSeq (sSet 2 (en vm (bw (fVar 0) (bw (fVar 1) (fNil))))) (sSeq (sIf (fTst (fBin dGt (fVar 2) (fC (.int 0)))) (sRet (fC (.int 1))) (sNil)) (sSeq (sIf (fTst (fBin dLt (fVar 2) (fC (.int 0)))) (sRet (fUn dNeg (fC (.int 1)))) (sNil)) (sRet (fC (.int 0)))))
def ny:ei->el:=runD 3 2 ve
def zgf:FS:=sRet (qi (fIsi "int" (fVar 0)) (xg (fIsi "bool" (fVar 0))))
def tv:ei->el:=runD 1 1 zgf
def y1:FS:=sSeq (sIf (fTst (fBin dLt (fVar 1) (gw 0))) (sRet (fIxV 0 (fVar 1))) (sNil)) (sRet (fC (.int 0)))
def sv:ei->el:=runD 2 2 y1
def vw:FS:=sSeq (sSet 5 (en sv (bw (fVar 0) (bw (fVar 4) (fNil))))) (sSeq (sIf (fTst (fBin dEq (fBin dMod (gw 0) (fC (.int 2))) (fC (.int 1)))) (sSeq (sSet 3 (fBin dMod (fBin gn (fBin gn (fBin gn (fBin dMul (fVar 3) (fC (.int 48271))) (fVar 5)) (fVar 4)) (fC (.int 1))) (fC (.int 2147483647)))) (sSet 5 (fBin dMod (fBin dMul (fBin gn (fVar 3) (fVar 4)) (fC (.int 69621))) (fC (.int 2147483647))))) (sNil)) (jj (kv 2 (fVar 5))))
def zgg:FS:=sSeq (sOwn 2 (gk (fNil))) (sSeq (sSet 3 (fC (.int 7))) (sSeq (sFor 4 (gs iR1 (bw (fVar 1) (fNil))) (vw)) (sRet (fVar 2))))
def tu:ei->el:=runD 6 2 zgg
def zjk:FS:=sRet (fIxV 0 (fC (.int 1)))
def tq:ei->el:=runD 1 1 zjk
def zj9:FS:=sRet (fIxV 0 (fC (.int 2)))
def vk:ei->el:=runD 1 1 zj9
def zhk:FS:=sRet (fTup (bw (fC (.int 1)) (bw (en tq (bw (fVar 0) (fNil))) (bw (en vk (bw (fVar 0) (fNil))) (fNil)))))
def vt:ei->el:=runD 1 1 zhk
def zfa:FS:=sRet (fTup (bw (fBin gn (fIxV 0 (fC (.int 0))) (fIxV 1 (fC (.int 0)))) (bw (fBin gn (fIxV 0 (fC (.int 1))) (fIxV 1 (fC (.int 1)))) (bw (fBin gn (fIxV 0 (fC (.int 2))) (fIxV 1 (fC (.int 2)))) (fNil)))))
def vq:ei->el:=runD 2 2 zfa
def zfu:FS:=sRet (fTup (bw (fIxV 0 (fC (.int 1))) (bw (fIxV 0 (fC (.int 2))) (fNil))))
def tm:ei->el:=runD 1 1 zfu
def wj:FS:=sRet (fBin dGt (en ny (bw (en tm (bw (fVar 0) (fNil))) (bw (en tm (bw (fVar 1) (fNil))) (fNil)))) (fC (.int 0)))
def nv:ei->el:=runD 2 2 wj
def wf:FS:=sSet 3 (en vq (bw (fPop 1) (bw (fVar 3) (fNil))))
def we:FS:=sSeq (sSet 3 (en vt (bw (fVar 2) (fNil)))) (sSeq (j9 (fAnd (fTst (fBin dGt (gw 1) (fC (.int 0)))) (fNot (fTst (en nv (bw (fIxV 1 (fUn dNeg (fC (.int 1)))) (bw (fVar 3) (fNil))))))) (wf) 10000) (jj (kv 1 (fVar 3))))
def zdp:FS:=sSeq (sOwn 1 (gk (fNil))) (sSeq (sFor 2 (fiS (fVar 0)) (we)) (sRet (fVar 1)))
def zdq:ei->el:=runD 4 1 zdp
def zcs:FS:=sSeq (sIf (fTst (fBin dEq (gw 0) (fC (.int 0)))) (sRet (fLst (gk (fNil)))) (sNil)) (sSeq (sSet 1 (fIxV 0 (fBin dSub (gw 0) (fC (.int 1))))) (sRet (fLst (fCat (fLst (fSl (fVar 0) (fO0) (fO1 (fBin dSub (gw 0) (fC (.int 1)))))) (fLst (gk (bw (fTup (bw (fIxV 1 (fC (.int 0))) (bw (fIxV 1 (fC (.int 1))) (bw (fBin gn (fIxV 1 (fC (.int 2))) (fC (.int 1))) (fNil))))) (fNil))))))))
def p6:ei->el:=runD 2 1 zcs
def wc:FS:=sSeq (sSet 9 (fIxV 0 (fBin gn (fC (.int 1)) (fVar 8)))) (sSeq (sSet 10 (fBin gn (fC (.int 1)) (fBin dMod (fVar 9) (fC (.int 60))))) (sSeq (sSet 11 (fBin dMod (fBin dDiv (fVar 9) (fC (.int 60))) (fC (.int 101)))) (sSeq (sIf (fTst (fBin dEq (fVar 4) (fC (.int 1)))) (sSeq (sSet 10 (fBin gn (fC (.int 1)) (fBin dMod (fVar 9) (fBin dSub (fC (.int 4)) (fBin dMul (fC (.int 2)) (fVar 5)))))) (sSet 11 (fBin dMod (fBin dDiv (fVar 9) (fC (.int 60))) (fBin dSub (fC (.int 4)) (fBin dMul (fC (.int 2)) (fVar 5)))))) (sNil)) (sSeq (sIf (fTst (fBin dEq (fVar 4) (fC (.int 2)))) (sSeq (sSet 10 (fBin dIx (fLst (gk (bw (fC (.int 1)) (bw (fC (.int 60)) (bw (fC (.int 2)) (bw (fC (.int 59)) (fNil))))))) (fBin dMod (fVar 9) (fC (.int 4))))) (sSet 11 (fBin dIx (fLst (gk (bw (fC (.int 0)) (bw (fC (.int 100)) (bw (fC (.int 1)) (bw (fC (.int 99)) (fNil))))))) (fBin dMod (fBin dDiv (fVar 9) (fC (.int 60))) (fC (.int 4)))))) (sNil)) (sSeq (sIf (fTst (fBin dEq (fVar 4) (fC (.int 3)))) (sSeq (sSet 10 (fBin dIx (fLst (gk (bw (fVar 10) (bw (fBin gn (fC (.int 58)) (fBin dMod (fVar 9) (fC (.int 3)))) (fNil))))) (fVar 5))) (sSet 11 (fVar 10))) (sNil)) (sSeq (sSet 12 (fBin dMod (fBin dIx (fLst (gk (bw (fBin dDiv (fVar 9) (fC (.int 6060))) (bw (fVar 8) (fNil))))) (fBin dMul (fBin dDiv (fVar 4) (fC (.int 3))) (fVar 5))) (fVar 2))) (sSeq (sSet 13 (rc 7 (fBin dMod (fBin dDiv (fVar 9) (fC (.int 30300))) (gw 7)))) (jj (u4 6 (fVar 12) (fTup (bw (fVar 13) (bw (fVar 10) (bw (fVar 11) (fNil))))))))))))))
def p5:FS:=sSeq (sSet 2 (fBin dIx (fLst (gk (bw (fC (.int 5)) (bw (fC (.int 3)) (bw (fC (.int 2)) (bw (fC (.int 4)) (bw (fC (.int 1)) (bw (fC (.int 5)) (bw (fC (.int 0)) (bw (fC (.int 4)) (bw (fC (.int 3)) (bw (fC (.int 5)) (bw (fC (.int 2)) (bw (fC (.int 4)) (fNil))))))))))))))) (fBin dMod (fIxV 0 (fC (.int 0))) (fC (.int 12))))) (sSeq (sSet 3 (fBin dSub (fVar 1) (fBin dMod (fBin dDiv (fIxV 0 (fC (.int 0))) (fC (.int 12))) (fBin gn (fVar 1) (fC (.int 1)))))) (sSeq (sSet 4 (fBin dMod (fBin dDiv (fIxV 0 (fC (.int 0))) (fC (.int 180))) (fC (.int 4)))) (sSeq (sSet 5 (fBin dMod (fBin dDiv (fIxV 0 (fC (.int 0))) (fC (.int 720))) (fC (.int 2)))) (sSeq (t9 6 (pf (gs iR1 (bw (fVar 2) (fNil))) [] (gk (fNil)))) (sSeq (sOwn 7 (gs qe (bw (fC (.int 1)) (bw (fC (.int 61)) (fNil))))) (sSeq (sFor 8 (gs iR1 (bw (fBin dMul (fVar 3) (en bMin (bw (fVar 2) (bw (fC (.int 1)) (fNil))))) (fNil))) (wc)) (sSeq (sIf (fAnd (fTst (fBin dEq (fVar 4) (fC (.int 3)))) (fTst (fBin dEq (fVar 5) (fC (.int 1))))) (sSet 6 (fLst (iq (fiS (fVar 6)) [] fYes (en p6 (bw (fVar 0) (fNil)))))) (sNil)) (sRet (fVar 6)))))))))
def vh:ei->el:=runD 14 2 p5
def wg:FS:=sSeq (sIf (fAnd (fTst (fIsi "str" (fIxV 1 (fVar 2)))) (fNot (fTst (fIsi "str" (fIxV 0 (fVar 2)))))) (sRet (fC (.bl false))) (sNil)) (sSeq (sIf (fAnd (fNot (fTst (fIsi "str" (fIxV 1 (fVar 2))))) (fNot (fTst (en tv (bw (fIxV 0 (fVar 2)) (fNil)))))) (sRet (fC (.bl false))) (sNil)) (sIf (fTst (fBin dNe (fIxV 0 (fVar 2)) (fIxV 1 (fVar 2)))) (sRet (fC (.bl false))) (sNil)))
def zde:FS:=sSeq (sIf (fOr (fNot (fTst (fIsi "tuple" (fVar 0)))) (fTst (fBin dNe (gw 0) (gw 1)))) (sRet (fC (.bl false))) (sNil)) (sSeq (sFor 2 (gs iR1 (bw (gw 1) (fNil))) (wg)) (sRet (fC (.bl true))))
def tz:ei->el:=runD 3 2 zde
def zcd:FS:=sIf (fNot (fTst (en tz (bw (fIxV 0 (fVar 2)) (bw (fIxV 1 (fVar 2)) (fNil)))))) (sRet (fC (.bl false))) (sNil)
def zc8:FS:=sSeq (sIf (fOr (fNot (fTst (fIsi "list" (fVar 0)))) (fTst (fBin dNe (gw 0) (gw 1)))) (sRet (fC (.bl false))) (sNil)) (sSeq (sFor 2 (gs iR1 (bw (gw 1) (fNil))) (zcd)) (sRet (fC (.bl true))))
def wd:ei->el:=runD 3 2 zc8
def zgh:FS:=sRet (fTup (bw (fIxV 0 (fC (.int 2))) (bw (fIxV 0 (fC (.int 3))) (fNil))))
def p4:ei->el:=runD 1 1 zgh
def t0:FS:=sSet 2 (fBin gn (fVar 2) (fC (.int 1)))
def zdf:FS:=sSeq (sSet 2 (fC (.int 0))) (sSeq (j9 (fAnd (fTst (fBin dLt (fVar 2) (gw 0))) (fTst (fBin dGe (en ny (bw (en p4 (bw (fIxV 0 (fVar 2)) (fNil))) (bw (en p4 (bw (fVar 1) (fNil))) (fNil)))) (fC (.int 0))))) (t0) 10000) (sRet (fVar 2)))
def zdg:ei->el:=runD 3 2 zdf
def tx:FS:=sSeq (sSet 7 (fTup (bw (fVar 2) (bw (fVar 4) (bw (fVar 5) (bw (fVar 6) (fNil))))))) (jj (uw 1 (q9 zdg (uf 1 (bw (fVar 7) (fNil)))) (fVar 7)))
def wb:FS:=l4 [4,5,6] (fiS (en zdq (bw (fVar 3) (fNil)))) (tx)
def zd7:FS:=sSeq (sOwn 1 (gk (fNil))) (sSeq (l4 [2,3] (gs (iEn 1) (bw (fVar 0) (fNil))) (wb)) (sRet (fVar 1)))
def tf:ei->el:=runD 8 1 zd7
def zbu:FS:=sIf (fNot (fTst (en wd (bw (fIxV 0 (fVar 2)) (bw (fIxV 1 (fVar 2)) (fNil)))))) (sRet (fC (.bl false))) (sNil)
def zcg:FS:=sSeq (sIf (fOr (fNot (fTst (fIsi "list" (fVar 0)))) (fTst (fBin dNe (gw 0) (gw 1)))) (sRet (fC (.bl false))) (sNil)) (sSeq (sFor 2 (gs iR1 (bw (gw 1) (fNil))) (zbu)) (sRet (fC (.bl true))))
def zch:ei->el:=runD 3 2 zcg
def za:FS:=wz (iq (fiS (fVar 0)) [] fYes (fLst (gs n4 (bw (fVar 0) (fNil)))))
def y9:ei->Option ei:=runF 1 1 za
def vp:FS:=jj (qr 1 (fRep (gk (bw (fVar 2) (fNil))) (fVar 3)))
def zo:FS:=sSeq (sOwn 1 (gk (fNil))) (sSeq (l4 [2,3,4,5] (fiS (en tf (bw (fVar 0) (fNil)))) (vp)) (ua 1))
def zn:ei->Option ei:=runF 6 1 zo
def td:FS:=sSeq (sSet 2 (fBin gn (fVar 2) (fBin dIx (fIxV 0 (fVar 4)) (fC (.int 1))))) (sSeq (sSet 3 (fBin gn (fVar 3) (fBin dIx (fIxV 0 (fVar 4)) (fC (.int 2))))) (sIf (fTst (fBin dGe (fBin dMul (fVar 3) (fIxV 1 (fC (.int 1)))) (fBin dMul (fIxV 1 (fC (.int 2))) (fVar 2)))) (sSet 1 (fLst (gk (bw (fBin gn (fVar 4) (fC (.int 1))) (bw (fVar 2) (bw (fVar 3) (fNil))))))) (sNil)))
def vj:FS:=sSeq (sSet 1 (fLst (gk (bw (fC (.int 0)) (bw (fC (.int 1)) (bw (fUn dNeg (fC (.int 1))) (fNil))))))) (sSeq (sSet 2 (fC (.int 0))) (sSeq (sSet 3 (fC (.int 0))) (sSeq (sFor 4 (gs iR1 (bw (gw 0) (fNil))) (td)) (sRet (fVar 1)))))
def vi:ei->el:=runD 5 1 vj
def qv:FS:=sIf (fTst (fBin dGt (fBin dMul (fBin dIx (fIxV 3 (fVar 5)) (fC (.int 2))) (fBin dIx (fIxV 3 (fVar 4)) (fC (.int 1)))) (fBin dMul (fBin dIx (fIxV 3 (fVar 4)) (fC (.int 2))) (fBin dIx (fIxV 3 (fVar 5)) (fC (.int 1)))))) (sSet 4 (fVar 5)) (sNil)
def vo:FS:=sSeq (sSet 3 (fLst (iq (fiV 1) [] fYes (en vi (bw (fVar 0) (fNil)))))) (sSeq (sSet 4 (fC (.int 0))) (sSeq (sFor 5 (gs iR1 (bw (gw 3) (fNil))) (qv)) (sSeq (jj (kv 2 (fTup (bw (fBin gn (fVar 4) (fC (.int 1))) (bw (fBin dIx (fIxV 3 (fVar 4)) (fC (.int 0))) (bw (fBin dIx (fIxV 3 (fVar 4)) (fC (.int 1))) (bw (fBin dIx (fIxV 3 (fVar 4)) (fC (.int 2))) (fNil)))))))) (zq0 1 (fVar 4) (fLst (fSl (fIxV 1 (fVar 4)) (fO1 (fBin dIx (fIxV 3 (fVar 4)) (fC (.int 0)))) (fO0)))))))
def zm:FS:=sSeq (sOwn 1 (iq (fiS (fVar 0)) [] fYes (fLst (gs n4 (bw (fVar 0) (fNil)))))) (sSeq (sOwn 2 (gk (fNil))) (sSeq (j9 (fTst (fBin dGt (en bSum (bw (fLst (iq (fiV 1) [] fYes (gw 0))) (fNil))) (fC (.int 0)))) (vo) 10000) (sRet (fVar 2))))
def zl:ei->el:=runD 6 1 zm
def zz:FS:=sOwn 1 (fCat (fVar 1) (fLst (fRep (gk (bw (fIxV 2 (fC (.int 0))) (fNil))) (fIxV 2 (fC (.int 1))))))
def y8:FS:=sSeq (sOwn 1 (gk (fNil))) (sSeq (sFor 2 (fiS (en zl (bw (fVar 0) (fNil)))) (zz)) (ua 1))
def zka:ei->Option ei:=runF 3 1 y8
def zid:FS:=sRet (fIxV 0 (fC (.int 0)))
def zfv:ei->el:=runD 1 1 zid
def zy:FS:=sIf (fOr (fTst (fBin dLt (fVar 1) (fC (.int 1)))) (fTst (fBin dGt (fVar 1) (gw 0)))) (rd) (sNil)
def zx:ei->el:=runD 2 2 zy
def vz:FS:=sSeq (sIf (fTst (fBin dEq (fIxV 2 (fBin dSub (fVar 3) (fC (.int 1)))) (fC (.int 0)))) (rd) (sNil)) (og 2 dSub (fBin dSub (fVar 3) (fC (.int 1))) (fC (.int 1)))
def zw:FS:=sSeq (sOwn 2 (iq (fiS (fVar 0)) [] fYes (gw 0))) (sSeq (sFor 3 (fiS (fVar 1)) (vz)) (sIf (fTst (fBin dGt (ug 2) (fC (.int 0)))) (rd) (sNil)))
def zu:ei->el:=runD 4 2 zw
def vy:FS:=jj (en zx (bw (fVar 0) (bw (fVar 2) (fNil))))
def zt:FS:=sSeq (sFor 2 (fiS (fVar 1)) (vy)) (jj (en zu (bw (fVar 0) (bw (fVar 1) (fNil)))))
def zr:ei->el:=runD 3 2 zt
def vx:FS:=sSeq (jj (kv 3 (fBin dIx (fIxV 0 (fBin dSub (fVar 4) (fC (.int 1)))) (fIxV 2 (fBin dSub (fVar 4) (fC (.int 1))))))) (og 2 gn (fBin dSub (fVar 4) (fC (.int 1))) (fC (.int 1)))
def zp:FS:=sSeq (jj (en zr (bw (fVar 0) (bw (fVar 1) (fNil))))) (sSeq (sOwn 2 (iq (fiS (fVar 0)) [] fYes (fC (.int 0)))) (sSeq (sOwn 3 (gk (fNil))) (sSeq (sFor 4 (fiS (fVar 1)) (vx)) (sRet (fVar 3)))))
def vg:ei->el:=runD 5 2 zp
def zdr:FS:=sSeq (sSet 6 (fBin gn (fVar 3) (en tq (bw (fVar 5) (fNil))))) (sSeq (jj (kv 2 (fTup (bw (en zfv (bw (fVar 5) (fNil))) (bw (fVar 4) (bw (fVar 3) (bw (fVar 6) (fNil)))))))) (sSet 3 (fVar 6)))
def zk:FS:=sSeq (sOwn 2 (gk (fNil))) (sSeq (sSet 3 (fC (.int 0))) (sSeq (l4 [4,5] (gs iZp (bw (fVar 1) (bw (en vg (bw (fVar 0) (bw (fVar 1) (fNil)))) (fNil)))) (zdr)) (sRet (fVar 2))))
def zjl:ei->el:=runD 7 2 zk
def zds:FS:=sSeq (sSet 3 (fBin gn (fVar 3) (en tq (bw (fVar 4) (fNil))))) (sSet 2 (fBin gn (fVar 2) (fBin dMul (en vk (bw (fVar 4) (fNil))) (fVar 3))))
def zj:FS:=sSeq (sSet 2 (fC (.int 0))) (sSeq (sSet 3 (fC (.int 0))) (sSeq (sFor 4 (fiS (en vg (bw (fVar 0) (bw (fVar 1) (fNil))))) (zds)) (sRet (fVar 2))))
def tp:ei->el:=runD 5 2 zj
def zi:FS:=sRet (en tp (bw (fVar 0) (bw (fLst (gs zn (bw (fVar 0) (fNil)))) (fNil))))
def zh:ei->el:=runD 1 1 zi
def zdt:FS:=sRet (en bSum (bw (fLst (iq (fiS (fVar 0)) [] fYes (gw 0))) (fNil)))
def vn:ei->el:=runD 1 1 zdt
theorem zx6(ns:cc)(k:Nat):∃c,sv [.lst (ns.map D.int),.int k]=some (.int c):=by
 by_cases h:(k:Int)<ns.length
 ·obtain⟨x,h1,h2⟩:=zq3 (xs:=ns.map D.int) (i:=(k:Int)) (by lia) (by simpa using h)
  rw[bv] at h2;cases q:ns[(k:Int).toNat]? with
  |none=>rw[q] at h2;cases h2
  |some c =>
    rw[q] at h2;cases h2;simp[sv,runD,y1,jd,h,h1]
 ·refine⟨0,?_⟩
  simp[sv,runD,y1,jd,h]
theorem zqc(ns:cc)(n:Nat)(Y:n<=1000):∃cs:cc,cs.length=n/\tu [.lst (ns.map D.int),.int n]=some (.lst (cs.map D.int)):=by
 have loop:=nj (i:=4) (g:=vw)
  (λk e=>∃(cs:cc) (st:Int) (J L:ep),cs.length=k/\e=[some (.sh (.lst (ns.map D.int))),some (.sh (.int n)),some (.ow (cs.map D.int)),some (.sh (.int st)),J,L])
  (rngD 0 n) [some (.sh (.lst (ns.map D.int))),some (.sh (.int n)),some (.ow []),some (.sh (.int 7)),none,none] ⟨[],7,none,none,rfl,rfl⟩ ?_
 ·obtain⟨e',h1,cs,st,J,L,I,rfl⟩:=loop
  refine⟨cs,by rw[I,np],?_⟩;have U:=l5 n (by lia);simp[tu,runD,zgg,jd,U,h1]
 ·rintro k d e hd ⟨cs,st,J,L,I,rfl⟩
  obtain⟨rfl,Z⟩:=ng hd;obtain⟨c,R⟩:=zx6 ns k;have z:Few (cs.length+1):=few (by lia);by_cases S:(ns.length:Int) % 2=1
  ·refine⟨_,?_,cs++[((st*48271+c+k+1) % 2147483647+k)*69621 % 2147483647],(st*48271+c+k+1) % 2147483647,some (.sh (.int (0+k))),some (.sh (.int (((st*48271+c+k+1) % 2147483647+k)*69621 % 2147483647))),by simp[I],rfl⟩
   have V:js 48271:=ku (by decide);have s2:js 69621:=ku (by decide);simp[vw,R,S,dMod,dMul,V,s2,z]
  ·refine⟨_,?_,cs++[c],st,some (.sh (.int (0+k))),some (.sh (.int c)),by simp[I],rfl⟩
   simp[vw,R,S,dMod,z]
def zwg(a b c d:Int)(z:js b)(hd:js d) :
  vm [.tup [.int a,.int b],.tup [.int c,.int d]]=some (.int (b*c-d*a)):=by
 simp[vm,runD,zg5,jd,dMul,z,hd,atI,ixN]
theorem zk7(a b c d:Int)(J:js b)(hd:js d) :
  ny [.tup [.int a,.int b],.tup [.int c,.int d]]=some (.int (if d*a<b*c then 1 else if b*c<d*a then -1 else 0)):=by
 have D:=zwg a b c d J hd;by_cases h1:d*a<b*c
 ·have z:0<b*c-d*a:=by lia
  simp[ny,runD,ve,jd,D,h1,z]
 ·have z:¬0<b*c-d*a:=by lia
  by_cases h2:b*c<d*a
  ·have I:b*c-d*a<0:=by lia
   simp[ny,runD,ve,jd,D,h1,h2,z,I]
  ·have I:¬b*c-d*a<0:=by lia
   simp[ny,runD,ve,jd,D,h1,h2,z,I]
def zk8(i:Int):tv [.int i]=some (.bl true):=by
 simp[tv,runD,zgf,jd]
abbrev Sk:=Int×Int×Int
abbrev ew:=List Sk
abbrev ey:=List (List Sk)
def sD(s:Sk):D:=.tup [.int s.1,.int s.2.1,.int s.2.2]
def gg(s:Sk):Prop:=1<=s.1/\s.1<=60/\1<=s.2.1/\s.2.1<=60/\0<=s.2.2/\s.2.2<=100
def b60:Bnd 1 1073741824 60:=⟨by decide,by decide⟩
def b3:Bnd 1 1073741824 3:=⟨by decide,by decide⟩
def b12:Bnd 1 1073741824 12:=⟨by decide,by decide⟩
def b180:Bnd 1 1073741824 180:=⟨by decide,by decide⟩
def b720:Bnd 1 1073741824 720:=⟨by decide,by decide⟩
def zx7:Bnd 1 1073741824 6060:=⟨by decide,by decide⟩
def zwh:Bnd 1 1073741824 30300:=⟨by decide,by decide⟩
variable{n:Nat}
def pv{i:Int}(z:0<=i)(h1:i<n):ixN n i=some i.toNat:=by unfold ixN;rw[if_pos z,if_pos h1]
def zg7{α β:Type}(f:α->β):∀(l:List α) (n:Nat),(l.eraseIdx n).map f=(l.map f).eraseIdx n
 | [],n=>by simp |a::l,0=>rfl
 |a::l,n+1=>by simp[t5,zg7 f l n]
theorem at4(a b c d i:Int)(z:0<=i)(h1:i<4):∃x,atI [D.int a,D.int b,D.int c,D.int d] i=some (.int x)/\(x=a\/x=b\/x=c\/x=d):=by
 have:i=0\/i=1\/i=2\/i=3:=by lia
 rcases this with rfl |rfl |rfl |rfl
 ·exact⟨a,rfl,by simp⟩
 ·exact⟨b,rfl,by simp⟩
 ·exact⟨c,rfl,by simp⟩
 ·exact⟨d,rfl,by simp⟩
theorem at12(i:Int)(z:0<=i)(h1:i<12):∃x:Int,atI [D.int 5,.int 3,.int 2,.int 4,.int 1,.int 5,.int 0,.int 4,.int 3,.int 5,.int 2,.int 4] i=some (.int x)/\0<=x/\x<=5:=by
 have:i=0\/i=1\/i=2\/i=3\/i=4\/i=5\/i=6\/i=7\/i=8\/i=9\/i=10\/i=11:=by lia
 rcases this with rfl |rfl |rfl |rfl |rfl |rfl |rfl |rfl |rfl |rfl |rfl |rfl <;> exact⟨_,rfl,by decide,by decide⟩
noncomputable def hl:FS:=sSeq (sSet 10 (fBin gn (fC (.int 1)) (fBin dMod (fVar 9) (fC (.int 60))))) (sSeq (sSet 11 (fBin dMod (fBin dDiv (fVar 9) (fC (.int 60))) (fC (.int 101)))) (sSeq (sIf (fTst (fBin dEq (fVar 4) (fC (.int 1)))) (sSeq (sSet 10 (fBin gn (fC (.int 1)) (fBin dMod (fVar 9) (fBin dSub (fC (.int 4)) (fBin dMul (fC (.int 2)) (fVar 5)))))) (sSet 11 (fBin dMod (fBin dDiv (fVar 9) (fC (.int 60))) (fBin dSub (fC (.int 4)) (fBin dMul (fC (.int 2)) (fVar 5)))))) (sNil)) (sSeq (sIf (fTst (fBin dEq (fVar 4) (fC (.int 2)))) (sSeq (sSet 10 (fBin dIx (fLst (gk (bw (fC (.int 1)) (bw (fC (.int 60)) (bw (fC (.int 2)) (bw (fC (.int 59)) (fNil))))))) (fBin dMod (fVar 9) (fC (.int 4))))) (sSet 11 (fBin dIx (fLst (gk (bw (fC (.int 0)) (bw (fC (.int 100)) (bw (fC (.int 1)) (bw (fC (.int 99)) (fNil))))))) (fBin dMod (fBin dDiv (fVar 9) (fC (.int 60))) (fC (.int 4)))))) (sNil)) (sIf (fTst (fBin dEq (fVar 4) (fC (.int 3)))) (sSeq (sSet 10 (fBin dIx (fLst (gk (bw (fVar 10) (bw (fBin gn (fC (.int 58)) (fBin dMod (fVar 9) (fC (.int 3)))) (fNil))))) (fVar 5))) (sSet 11 (fVar 10))) (sNil)))))
noncomputable def pl:FS:=sSeq (sSet 12 (fBin dMod (fBin dIx (fLst (gk (bw (fBin dDiv (fVar 9) (fC (.int 6060))) (bw (fVar 8) (fNil))))) (fBin dMul (fBin dDiv (fVar 4) (fC (.int 3))) (fVar 5))) (fVar 2))) (sSeq (sSet 13 (rc 7 (fBin dMod (fBin dDiv (fVar 9) (fC (.int 30300))) (gw 7)))) (jj (u4 6 (fVar 12) (fTup (bw (fVar 13) (bw (fVar 10) (bw (fVar 11) (fNil))))))))
def zkb:wc=sSeq (sSet 9 (fIxV 0 (fBin gn (fC (.int 1)) (fVar 8)))) (sSeq hl pl):=by
 unfold hl;simp only[zmb];rfl
theorem zx8(S U v2 V Y Z a J L z D:ep)(menu turn c:Int)(e:0<=menu/\menu<4)(f:0<=turn/\turn<2) :
  ∃h l:Int,(1<=h/\h<=60/\0<=l/\l<=100/\(menu=3->l<=60))/\hl [S,U,v2,V,some (.sh (.int menu)),some (.sh (.int turn)),Y,Z,a,some (.sh (.int c)),J,L,z,D] =
   some (.nx,[S,U,v2,V,some (.sh (.int menu)),some (.sh (.int turn)),Y,Z,a,some (.sh (.int c)),some (.sh (.int h)),some (.sh (.int l)),z,D]):=by
 have R:menu=0\/menu=1\/menu=2\/menu=3:=by lia
 have I:turn=0\/turn=1:=by lia
 have s2:js 2:=ku (by decide);rcases R with rfl |rfl |rfl |rfl
 ·refine⟨1+c % 60,c / 60 % 101,by lia,?_⟩
  simp[hl,dMod,dDiv,b60]
 ·rcases I with rfl |rfl
  ·refine⟨1+c % 4,c / 60 % 4,by lia,?_⟩
   simp[hl,dMod,dDiv,dMul,b60,s2]
  ·refine⟨1+c % 2,c / 60 % 2,by lia,?_⟩
   simp[hl,dMod,dDiv,dMul,b60,s2]
 ·obtain⟨x,b,ex⟩:=at4 1 60 2 59 (c % 4) (by lia) (by lia)
  obtain⟨y,d,g⟩:=at4 0 100 1 99 (c / 60 % 4) (by lia) (by lia);refine⟨x,y,by lia,?_⟩;simp[hl,dMod,dDiv,b60,b,d]
 ·rcases I with rfl |rfl
  ·refine⟨1+c % 60,1+c % 60,by lia,?_⟩
   simp[hl,dMod,dDiv,b60,atI,ixN]
  ·refine⟨58+c % 3,58+c % 3,by lia,?_⟩
   simp[hl,dMod,dDiv,b60,atI,ixN]
theorem zx9(a b d R S:ep)(many menu turn k c h l:Int)(dss:List ei)(pool:cc)(w:0<=menu/\menu<4)(x:0<=turn/\turn<2)(I:0<many)(hd:(dss.length:Int)=many)(g:0<pool.length)(i:pool.length<=60)(U:∀ds∈dss,ds.length<=1000) :
  ∃(j n:Nat) (z:Int) (ds:ei) (p:Int),dss[j]?=some ds/\pool[n]?=some z/\pl [a,b,some (.sh (.int many)),d,some (.sh (.int menu)),some (.sh (.int turn)),some (.o2 dss),some (.ow (pool.map D.int)),some (.sh (.int k)),some (.sh (.int c)),some (.sh (.int h)),some (.sh (.int l)),R,S] =
   some (.nx,[a,b,some (.sh (.int many)),d,some (.sh (.int menu)),some (.sh (.int turn)),some (.o2 (dss.set j (ds++[sD (z,h,l)]))),some (.ow ((pool.eraseIdx n).map D.int)),some (.sh (.int k)),some (.sh (.int c)),some (.sh (.int h)),some (.sh (.int l)),some (.sh (.int p)),some (.sh (.int z))]):=by
 obtain⟨q,hq⟩:∃q:Int,atI [D.int (c / 6060),D.int k] (menu / 3*turn)=some (.int q):=by
  have:menu / 3*turn=0\/menu / 3*turn=1:=by
   have h1:menu / 3=0\/menu / 3=1:=by lia
   have h2:turn=0\/turn=1:=by lia
   rcases h1 with h1 |h1 <;> rcases h2 with h2 |h2 <;> rw[h1,h2] <;> decide
  rcases this with e |e <;> rw[e]
  ·exact⟨_,rfl⟩
  ·exact⟨_,rfl⟩
 have m:0<=q % many:=m6 _ (by lia);have o:q % many<many:=kl _ I;have r:ixN dss.length (q % many)=some (q % many).toNat:=pv m (by rw[hd];exact o);have L:(q % many).toNat<dss.length:=by lia
 have J:dss[(q % many).toNat]?=some dss[(q % many).toNat]:=by simp[L]
 have V:Few (dss[(q % many).toNat].length+1):=few (by have:=U _ (ig L);lia);have s:0<=c / 30300 % (pool.length:Int):=m6 _ (by lia);have t:c / 30300 % (pool.length:Int)<(pool.length:Int):=kl _ (by lia);have u:ixN pool.length (c / 30300 % (pool.length:Int))=some (c / 30300 % (pool.length:Int)).toNat:=pv s t;have Y:(c / 30300 % (pool.length:Int)).toNat<pool.length:=by lia
 have f:pool[(c / 30300 % (pool.length:Int)).toNat]?=some pool[(c / 30300 % (pool.length:Int)).toNat]:=by simp[Y]
 have Z:Few pool.length:=few (by lia);have sm:js (menu / 3):=ku (by lia);refine⟨(q % many).toNat,(c / 30300 % (pool.length:Int)).toNat,pool[(c / 30300 % (pool.length:Int)).toNat],dss[(q % many).toNat],q % many,J,f,?_⟩;have v:(pool.eraseIdx (c / 30300 % (pool.length:Int)).toNat).map D.int=(pool.map D.int).eraseIdx (c / 30300 % (pool.length:Int)).toNat:=zg7 _ _ _;simp[pl,dMod,dDiv,dMul,b3,zx7,zwh,sm,hq,I,r,J,u,f,V,Z,g,rc,wy,capt,sD,v]
def lj(s:ew):ew:=match s.getLast? with
 |none=>[] |some x=>s.dropLast++[(x.1,x.2.1,x.2.2+1)]
def zg(s:ew)(x:Sk):lj (s++[x])=s++[(x.1,x.2.1,x.2.2+1)]:=by simp[lj]
def zqd(s:ei)(x:D):cutD (s++[x]) none (some ((s.length:Int)))=s:=by
 unfold cutD;rw[HT.sIx_none,HT.sIx_nat];simp
theorem zie(s:ew)(J:s.length<=1000):p6 [.lst (s.map sD)]=some (.lst ((lj s).map sD)):=by
 rcases jv s with rfl | ⟨t,x,rfl⟩
 ·simp[p6,runD,zcs,jd,lj]
 ·rw[jx] at J ⊢
  rw[zg];obtain⟨n,h,l⟩:=x;have z:(t++[((n,h,l):Sk)]).length=t.length+1:=by simp
  have L:¬((t.length:Int)+1=0):=by lia
  have R:atI (t.map sD++[D.tup [.int n,.int h,.int l]]) ((t.length:Int))=some (.tup [.int n,.int h,.int l]):=by
   unfold atI;rw[pv (by lia) (by rw[aj,ac,cr];lia)];simp
  have I:=zqd (t.map sD) (D.tup [.int n,.int h,.int l]);rw[ac] at I;have S:Few (t.length+1):=few (by lia);have U:(t.length:Int)+1-1=t.length:=by lia
  simp[p6,runD,zcs,jd,L,R,I,S,U,sD,xk,o3,p8]
structure SInv (menu:Int) (many k:Nat) (sss:ey) (pool:cc):Prop where
 len:sss.length=many
 tot:sss.flatten.length=k
 good:∀x∈sss.flatten,gg x/\(menu=3->x.2.2<=60)
 perm:(pool++sss.flatten.map (·.1)).Perm (rngL 1 61)
variable{menu:Int}{many k:Nat}{sss:ey}{pool:cc}
protected def SInv.pool(h:SInv menu many k sss pool):pool.length+k=60:=by
 have:=h.perm.length_eq;rw[aj,ac,h.tot,zb] at this;exact this
variable{j:Nat}{s:ew}{l:cc}
theorem SInv.step{z D l:Int}(h:SInv menu many k sss pool)(R:sss[j]?=some s)(J:pool[n]?=some z)(I:1<=D/\D<=60/\0<=l/\l<=100/\(menu=3->l<=60)) :
  SInv menu many (k+1) (sss.set j (s++[(z,D,l)])) (pool.eraseIdx n):=by
 have p1:=zk6 (x:=((z,D,l):Sk)) R;have p2:=zhz J;have S:((pool.eraseIdx n)++(sss.set j (s++[(z,D,l)])).flatten.map (·.1)).Perm (rngL 1 61):=by
  refine .trans (List.Perm.append_left _ (p1.map (·.1))) ?_;refine .trans ?_ h.perm;refine .trans ?_ (List.Perm.append_right _ p2.symm);exact lx
 refine⟨by rw[d8];exact h.len,by rw[p1.length_eq,av,h.tot],λx U=>?_,S⟩;have hx':=p1.mem_iff.mp U;rcases b8.mp hx' with rfl |hx'
 ·have V:z∈rngL 1 61:=h.perm.mem_iff.mp (db _ (bq J))
  obtain⟨m,L,rfl⟩:=bi.mp V;have L:=cx.mp L;refine⟨⟨?_,?_,I.1,I.2.1,I.2.2.1,I.2.2.2.1⟩,I.2.2.2.2⟩
  ·show 1<=1+(m:Int);lia
  ·show 1+(m:Int)<=60;lia
 ·exact h.good x hx'
def ssD(sss:ey):List ei:=sss.map λs=>s.map sD
def zs9(sss:ey)(j:Nat)(s:ew)(x:Sk):(ssD sss).set j (s.map sD++[sD x])=ssD (sss.set j (s++[x])):=by
 unfold ssD;simp
variable{ds:ei}
def zta(h:(ssD sss)[j]?=some ds):∃s,sss[j]?=some s/\ds=s.map sD:=by
 unfold ssD at h;rw[bv] at h;cases q:sss[j]? with
 |none=>rw[q] at h;cases h
 |some s=>rw[q] at h;cases h;exact⟨s,rfl,rfl⟩
theorem zkc(cs:cc)(V Y E u S U L R:ep)(many:Nat)(menu turn:Int)(k:Nat)(sss:ey)(pool:cc)(m:0<=menu/\menu<4)(o:0<=turn/\turn<2)(F:k<14)(G:k+1<cs.length)(Z:0<many)(h:SInv menu many k sss pool) :
  ∃J I v a b d e,SInv menu many (k+1) J I /\
   wc [some (.sh (.lst (cs.map D.int))),V,some (.sh (.int many)),Y,some (.sh (.int menu)),some (.sh (.int turn)),some (.o2 (ssD sss)),some (.ow (pool.map D.int)),some (.sh (.int (0+k))),u,S,U,L,R] =
   some (.nx,[some (.sh (.lst (cs.map D.int))),V,some (.sh (.int many)),Y,some (.sh (.int menu)),some (.sh (.int turn)),some (.o2 (ssD J)),some (.ow (I.map D.int)),some (.sh (.int (0+k))),v,a,b,d,e]):=by
 have w:=h.pool;obtain⟨c,hat⟩:∃c:Int,atI (cs.map D.int) (1+(0+(k:Int)))=some (.int c):=by
  obtain⟨x,h1,h2⟩:=zq3 (xs:=cs.map D.int) (i:=1+(0+(k:Int))) (by lia) (by rw[ac];lia);rw[bv] at h2;cases q:cs[(1+(0+(k:Int))).toNat]? with
  |none=>rw[q] at h2;cases h2
  |some c=>rw[q] at h2;cases h2;exact⟨c,h1⟩
 obtain⟨r,l,y,A⟩:=zx8 (some (.sh (.lst (cs.map D.int)))) V (some (.sh (.int many))) Y (some (.o2 (ssD sss))) (some (.ow (pool.map D.int))) (some (.sh (.int (0+k)))) S U L R menu turn c m o;have f:∀ds∈ssD sss,ds.length<=1000:=λds hd=>by
  obtain⟨s,g,rfl⟩:=bi.mp hd;rw[ac];have:s.length<=sss.flatten.length:=(cf g).length_le;rw[h.tot] at this
  lia
 obtain⟨j,n,z,ds,p,B,C,t⟩:=zx9 (some (.sh (.lst (cs.map D.int)))) V Y L R many menu turn (0+k) c r l (ssD sss) pool m o (by lia) (by rw[ssD,ac,h.len]) (by lia) (by lia) f;obtain⟨s,g,rfl⟩:=zta B;rw[zs9] at t;refine⟨_,_,some (.sh (.int c)),some (.sh (.int r)),some (.sh (.int l)),some (.sh (.int p)),some (.sh (.int z)),h.step g C y,?_⟩;rw[zkb];simp only[sSeq,sSet,fIxV,fBin,fC,fVar,gn,ah,af,ab,aq,ixSl,hat,aw,ay,A,t]
structure Stk (most:Nat) (ss:ey):Prop where
 many:ss.length<=5
 tot:ss.flatten.length<=most
 good:∀x∈ss.flatten,gg x
 nd:(ss.flatten.map (·.1)).Nodup
theorem zme(i j:Int):(rngL i j).Nodup:=by
 exact List.Pairwise.map _ (λa b h z=>h (by lia)) List.nodup_range
variable{most:Nat}
def SInv.stk(h:SInv menu many k sss pool)(z:many<=5)(D:k<=most):Stk most sss :=
 ⟨by rw[h.len];exact z,by rw[h.tot];exact D,λx I=>(h.good x I).1,(List.nodup_append.mp (h.perm.nodup_iff.mpr (zme 1 61))).2.1⟩
def zn3(s:ew):(lj s).map (·.1)=s.map (·.1):=by
 rcases jv s with rfl | ⟨t,x,rfl⟩
 ·rfl
 ·rw[jx,zg];simp
theorem zmf(s:ew)(h:∀x∈s,gg x/\x.2.2<=60):∀x∈lj s,gg x:=by
 rcases jv s with rfl | ⟨t,y,rfl⟩
 ·intro x hx;exact absurd hx (by simp[lj])
 ·rw[jx] at h ⊢
  rw[zg];intro x hx;rcases dh.mp hx with hx |hx
  ·exact(h x (db _ hx)).1
  ·rw[de.mp hx]
   obtain⟨⟨a,b,c,d,e,f⟩,g⟩:=h y (by simp);exact⟨a,b,c,d,by show 0<=y.2.2+1;lia,by show y.2.2+1<=100;lia⟩
def yt:∀(sss:ey),(sss.map lj).flatten.map (·.1)=sss.flatten.map (·.1)
 | []=>rfl |s::r=>by simp[zn3,yt r]
def SInv.stkB(h:SInv 3 many k sss pool)(I:many<=5)(J:k<=most):Stk most (sss.map lj):=by
 have z:=h.stk I J;refine⟨by rw[ac];exact z.many,?_,λx D=>?_,by rw[yt];exact z.nd⟩
 ·have:=congrArg List.length (yt sss)
  simp only[ac] at this;rw[this];exact z.tot
 ·obtain⟨t,L,D⟩:=cg.mp D
  obtain⟨s,R,rfl⟩:=bi.mp L;exact zmf s (λy S=>by
   obtain⟨a,b⟩:=h.good y (cg.mpr ⟨s,R,S⟩);exact⟨a,b rfl⟩) x D
def zf:qe [.int 1,.int 61]=some ((rngL 1 61).map D.int):=by
 unfold qe;dsimp only;rw[if_pos ⟨⟨by decide,by decide⟩,⟨by decide,by decide⟩,⟨by decide,by decide⟩⟩]
def ze(ds:ei):qj (gk fNil) [] ds=some (ds.map λ_=>[]):=by
 have:=zhy (te:=gk fNil) (base:=[]) (λd:D=>d) (λ_=>([]:ei)) ds λx _=>⟨_,rfl⟩;simpa using this
theorem zn4(cs:cc)(most:Nat)(hm:most<=14)(W:most+1<=cs.length):∃ss,Stk most ss/\vh [.lst (cs.map D.int),.int most]=some (.lst ((ssD ss).map D.lst)):=by
 obtain⟨J,r,rfl⟩:∃J r,cs=J::r:=by
  cases cs with
  |nil=>simp at W |cons a r=>exact⟨a,r,rfl⟩
 have U:atI (D.int J::r.map D.int) 0=some (.int J):=by
  unfold atI;rw[pv (by lia) (by simp only[av];lia)];rfl
 obtain⟨P,l,X,aa⟩:=at12 (J % 12) (by lia) (by lia);obtain⟨many,rfl⟩:∃n:Nat,P=n:=⟨P.toNat,by lia⟩;have L:(0:Int)<(most:Int)+1:=by lia
 have ag:0<=J / 12 % ((most:Int)+1):=m6 _ (by lia);have al:J / 12 % ((most:Int)+1)<(most:Int)+1:=kl _ L;obtain⟨I,hcount⟩:∃n:Nat,(most:Int)-J / 12 % ((most:Int)+1)=n:=⟨((most:Int)-J / 12 % ((most:Int)+1)).toNat,by lia⟩;have v:I<=most:=by lia
 have V:0<=J / 180 % 4/\J / 180 % 4<4:=by lia
 have Y:0<=J / 720 % 2/\J / 720 % 2<2:=by lia
 generalize R:J / 180 % 4=menu at V;generalize S:J / 720 % 2=turn at Y;have m:=l5 many (by lia);have Z:(rngD 0 many).map (λ_=>([]:ei))=ssD (List.replicate many []):=by
  unfold ssD rngD;simp[List.eq_replicate_iff]
 have b:Few (rngD 0 many).length:=few (by rw[np];lia);obtain⟨N,hN,hNle,hN0⟩:∃N:Nat,(I:Int)*(if (1:Int)<many then 1 else(many:Int))=N/\N<=most/\(many=0->N=0):=by
  by_cases h1:(1:Int)<many
  ·exact⟨I,by rw[if_pos h1];lia,v,λz=>by lia⟩
  ·rw[if_neg h1]
   have:many=0\/many=1:=by lia
   rcases this with rfl |rfl
   ·exact⟨0,by simp,by lia,λ_=>rfl⟩
   ·exact⟨I,by simp,v,λz=>by lia⟩
 have o:=l5 N (by lia);have s0:SInv menu many 0 (List.replicate many []) (rngL 1 61):=⟨by simp,by simp,λx hx=>by simp at hx,by simp⟩;have loop:=nj (i:=8) (g:=wc)
  (λk e=>∃(sss:ey) (pool:cc) (y A c f h j:ep),SInv menu many k sss pool /\
    e=[some (.sh (.lst (D.int J::r.map D.int))),some (.sh (.int most)),some (.sh (.int many)),some (.sh (.int I)),some (.sh (.int menu)),some (.sh (.int turn)),some (.o2 (ssD sss)),some (.ow (pool.map D.int)),y,A,c,f,h,j])
  (rngD 0 N) _ ⟨List.replicate many [],rngL 1 61,none,none,none,none,none,none,s0,rfl⟩ ?_
 ·obtain⟨e',h1,sss,pool,y,A,c,f,h,j,p,rfl⟩:=loop
  rw[np] at p;have q:js (I:Int):=ku (by lia);by_cases Q:menu=3/\turn=1
  ·obtain⟨rfl,rfl⟩:=Q
   refine⟨sss.map lj,p.stkB (by lia) hNle,?_⟩;have hc:=ko (te:=en p6 (bw (fVar 0) fNil)) (base:=[]) (λs:ew=>D.lst (s.map sD)) (λs:ew=>D.lst ((lj s).map sD)) sss λs t=>by
    have B:s.length<=1000:=by
     have:s.length<=sss.flatten.length:=(cf t).length_le;rw[p.tot] at this
     lia
    exact⟨_,by simp[zie s B];rfl⟩
   have C:Few sss.length:=few (by rw[p.len];lia);have E:jy fYes (en p6 (bw (fVar 0) fNil)) [] ((ssD sss).map D.lst)=some ((ssD (sss.map lj)).map D.lst):=by
    unfold ssD;rw[dm,dm,dm];exact hc
   have F:Few (ssD sss).length:=by unfold ssD;rw[ac];exact C
   refine jt (e':=?_) rfl ?_;rotate_left
   ·show p5 [some (.sh (.lst (D.int J::r.map D.int))),some (.sh (.int most)),none,none,none,none,none,none,none,none,none,none,none,none]=_
    simp[p5,U,dMod,dDiv,dMul,b12,b180,b720,l,L,R,S,hcount,m,pf,b,ze,Z,zf,q,hN,o,h1,iq,F,E];rfl
  ·refine⟨sss,p.stk (by lia) hNle,?_⟩
   by_cases T:menu=3
   ·have h4:¬turn=1:=λz=>Q ⟨T,z⟩
    refine jt (e':=?_) rfl ?_;rotate_left
    ·show p5 [some (.sh (.lst (D.int J::r.map D.int))),some (.sh (.int most)),none,none,none,none,none,none,none,none,none,none,none,none]=_
     simp[p5,U,dMod,dDiv,dMul,b12,b180,b720,l,L,R,S,hcount,m,pf,b,ze,Z,zf,q,hN,o,h1,h4];rfl
   ·refine jt (e':=?_) rfl ?_
    rotate_left
    ·show p5 [some (.sh (.lst (D.int J::r.map D.int))),some (.sh (.int most)),none,none,none,none,none,none,none,none,none,none,none,none]=_
     simp[p5,U,dMod,dDiv,dMul,b12,b180,b720,l,L,R,S,hcount,m,pf,b,ze,Z,zf,q,hN,o,h1,T];rfl
 ·rintro k d e hd ⟨sss,pool,y,A,c,f,h,j,p,rfl⟩
  obtain⟨rfl,hk⟩:=ng hd;have G:0<many:=by
   rcases Nat.eq_zero_or_pos many with z |z
   ·have:=hN0 z;lia
   ·exact z
  obtain⟨w,u,w9,H,K,M,O,t,he⟩:=zkc (J::r) (some (.sh (.int most))) (some (.sh (.int I))) y A c f h j many menu turn k sss pool V Y (by lia) (by lia) G p;exact⟨_,he,w,u,_,w9,H,K,M,O,t,rfl⟩
def iT(xs:cc):D:=.tup (xs.map D.int)
variable{α:Type}
theorem jz(f:α->D){xs:List α}{x:α}(h:xs[k]?=some x):atI (xs.map f) (k:Int)=some (f x):=by
 have z:=(am.mp h).1;unfold atI;rw[pv (by lia) (by rw[ac];lia)];simp[h]
theorem zg8(xs:cc)(L:xs.length<=1000):tz [iT xs,iT xs]=some (.bl true):=by
 obtain⟨e',h1,v2,rfl⟩:=nj (i:=2) (g:=wg) (λk e=>∃v2,e=[some (.sh (iT xs)),some (.sh (iT xs)),v2]) (rngD 0 xs.length) [some (.sh (iT xs)),some (.sh (iT xs)),none] ⟨none,rfl⟩ (by
  rintro k d e hd ⟨v2,rfl⟩;obtain⟨rfl,I⟩:=ng hd;have J:atI (xs.map D.int) (k:Int)=some (.int xs[k]):=jz D.int (by simp[I]);exact⟨[some (.sh (iT xs)),some (.sh (iT xs)),some (.sh (.int (0+k)))],by simp[wg,iT,J,zk8],_,rfl⟩)
 have hi:=l5 xs.length (by lia);refine jt (e':=?w) rfl ?h;show zde [some (.sh (iT xs)),some (.sh (iT xs)),none]=_;have z:forL 2 wg (rngD 0 xs.length) [some (.sh (.tup (xs.map D.int))),some (.sh (.tup (xs.map D.int))),none]=some (.nx,[some (.sh (.tup (xs.map D.int))),some (.sh (.tup (xs.map D.int))),v2]):=h1;simp[zde,iT,hi,z];rfl
theorem zjm(f:α->cc)(xs:List α)(L:xs.length<=1000)(D:∀x∈xs,(f x).length<=1000):wd [.lst (xs.map λx=>iT (f x)),.lst (xs.map λx=>iT (f x))]=some (.bl true):=by
 obtain⟨e',h1,v2,rfl⟩:=nj (i:=2) (g:=zcd) (λk e=>∃v2,e=[some (.sh (.lst (xs.map λx=>iT (f x)))),some (.sh (.lst (xs.map λx=>iT (f x)))),v2]) (rngD 0 xs.length) [some (.sh (.lst (xs.map λx=>iT (f x)))),some (.sh (.lst (xs.map λx=>iT (f x)))),none] ⟨none,rfl⟩ (by
  rintro k d e hd ⟨v2,rfl⟩;obtain⟨rfl,z⟩:=ng hd;have I:atI (xs.map λx=>iT (f x)) (k:Int)=some (iT (f xs[k])):=jz _ (by simp[z]);have J:=zg8 (f xs[k]) (D _ (ig z));exact⟨[some (.sh (.lst (xs.map λx=>iT (f x)))),some (.sh (.lst (xs.map λx=>iT (f x)))),some (.sh (.int (0+k)))],by simp[zcd,I,J],_,rfl⟩)
 have hi:=l5 xs.length (by lia);refine jt (e':=?w) rfl ?h;show zc8 [some (.sh (.lst (xs.map λx=>iT (f x)))),some (.sh (.lst (xs.map λx=>iT (f x)))),none]=_;simp[zc8,hi,h1];rfl
abbrev Bk:=Int×Int×Int
def hrs(r:ew):Int:=(r.map (·.2.1)).sum
def lss(r:ew):Int:=(r.map (·.2.2)).sum
def blk(r:ew):Bk:=(r.length,hrs r,lss r)
def jn(u b:Bk):Bk:=(u.1+b.1,u.2.1+b.2.1,u.2.2+b.2.2)
def gt(u b:Bk):Prop:=b.2.2*u.2.1<u.2.2*b.2.1
instance (u b:Bk):Decidable (gt u b):=inferInstanceAs (Decidable (_<_))
def SmB(b:Bk):Prop:=js b.2.1/\js b.2.2
def zn5(s:Sk):vt [sD s]=some (sD (1,s.2.1,s.2.2)):=by
 rfl
def zn6(u b:Bk):vq [sD u,sD b]=some (sD (jn u b)):=by
 simp[vq,runD,zfa,jd,sD,xk,o3,p8,jn]
def zmg(u b:Bk)(S:SmB u)(U:SmB b):nv [sD u,sD b]=some (.bl (decide (gt u b))):=by
 obtain⟨V,I,J⟩:=u;obtain⟨Y,L,b3⟩:=b;have R:∀x y z:Int,tm [sD (x,y,z)]=some (.tup [.int y,.int z]):=λx y z=>by simp[tm,runD,zfu,jd,sD,o3,p8]
 have D:=zk7 I J L b3 S.2 U.2;by_cases h1:b3*I<J*L
 ·rw[if_pos h1] at D
  simp[nv,runD,wj,jd,R,D,gt,h1]
 ·rw[if_neg h1] at D
  by_cases h2:J*L<b3*I
  ·rw[if_pos h2] at D
   simp[nv,runD,wj,jd,R,D,gt,h1]
  ·rw[if_neg h2] at D
   simp[nv,runD,wj,jd,R,D,gt,h1]
def zn7(bs:ei)(x:D):atI (bs++[x]) (-1)=some x:=zo8 bs x
def kn(a b:ew):hrs (a++b)=hrs a+hrs b:=by simp[hrs]
def md(a b:ew):lss (a++b)=lss a+lss b:=by simp[lss]
def zwi(a b:ew):jn (blk a) (blk b)=blk (a++b):=by
 simp only[jn,blk,kn,md,aj];simp
theorem qq(r:ew)(h:∀x∈r,gg x):(r.length:Int)<=hrs r/\hrs r<=60*r.length/\0<=lss r/\lss r<=100*r.length:=by
 induction r with
 |nil=>simp[hrs,lss] |cons x r ih =>
   obtain⟨h1,h2,z,D⟩:=ih λy I=>h y (ak _ I);obtain⟨_,_,J,L,R,S⟩:=h x au;simp[hrs,lss,dw] at h1 h2 z D ⊢
   lia
theorem smB(r:ew)(h:∀x∈r,gg x)(z:r.length<=1000):SmB (blk r):=by
 obtain⟨h1,h2,D,I⟩:=qq r h;exact⟨ku (by show -1000000000000<hrs r/\hrs r<1000000000000;lia),ku (by show -1000000000000<lss r/\lss r<1000000000000;lia)⟩
def jq:ey->ew->ey×ew
 | [],b=>([],b) |u::r,b=>if gt (blk u) (blk b) then(u::r,b) else jq r (u++b)
def bD(r:ew):D:=sD (blk r)
def zkd(z v2:ep)(bs:ei)(u b:ew):wf [z,some (.ow (bs++[bD u])),v2,some (.sh (bD b))]=some (.nx,[z,some (.ow bs),v2,some (.sh (bD (u++b)))]):=by
 have e:=zn6 (blk u) (blk b);rw[zwi] at e;simp[wf,bD,e]
theorem zk9(z v2:ep):∀(n:Nat) (D:ey) (b:ew),D.length<n->(∀r∈D,∀x∈r,gg x)->(∀x∈b,gg x)->(D.flatten.length+b.length<=1000) ->
  j9 (fAnd (fTst (fBin dGt (gw 1) (fC (.int 0)))) (fNot (fTst (en nv (bw (fIxV 1 (fUn dNeg (fC (.int 1)))) (bw (fVar 3) (fNil))))))) wf n
   [z,some (.ow (D.reverse.map bD)),v2,some (.sh (bD b))]=some (.nx,[z,some (.ow ((jq D b).1.reverse.map bD)),v2,some (.sh (bD (jq D b).2))])
 |n+1,[],b,_,_,_,_=>by simp[j9,jq] |n+1,u::r,b,h,hs,hb,hl=>by
   rw[bx,aj] at hl;have J:nv [bD u,bD b]=some (.bl (decide (gt (blk u) (blk b)))):=zmg (blk u) (blk b) (smB u (hs u (by simp)) (by lia)) (smB b hb (by lia));have L:(0:Int)<(r.length:Int)+1:=by lia
   have I:=zkd z v2 (r.reverse.map bD) u b;unfold j9;rw[i8,b7,bo,di];by_cases h1:gt (blk u) (blk b)
   ·simp[jq,h1,J,L,zn7]
   ·have R:=zk9 z v2 n r (u++b) (by simpa using h) (λt S=>hs t (by simp[S])) (λx hx=>by
     rcases dh.mp hx with hx |hx
     ·exact hs u (by simp) x hx
     ·exact hb x hx) (by rw[aj];lia)
    have U:jq (u::r) b=jq r (u++b):=by simp[jq,h1]
    rw[U];have V:(fAnd (fTst (fBin dGt (gw 1) (fC (.int 0)))) (fNot (fTst (en nv (bw (fIxV 1 (fUn dNeg (fC (.int 1)))) (bw (fVar 3) (fNil)))))))
      [z,some (.ow (r.reverse.map bD++[bD u])),v2,some (.sh (bD b))]=some (true,[z,some (.ow (r.reverse.map bD++[bD u])),v2,some (.sh (bD b))]):=by
     simp[h1,J,L,zn7]
    rw[V,ab];rw[if_pos rfl,I,ab];exact R
structure Good (r:ew):Prop where
 ne:r≠[]
 beg:∀p,p <+: r->lss p*hrs r<=lss r*hrs p
theorem ul(r:ew)(h:∀x∈r,gg x):0<=hrs r:=by have:=qq r h;lia
theorem mv(r:ew)(h:∀x∈r,gg x)(z:r≠[]):0<hrs r:=by
 have h1:=qq r h;have:0<r.length:=gq.mpr z
 lia
def uv{α:Type}:∀ {u b p:List α},p <+: u++b->p <+: u\/∃t,p=u++t/\t <+: b
 | [],b,p,h=>.inr ⟨p,rfl,h⟩ |a::u,b,[],h=>.inl List.nil_prefix |a::u,b,c::p,h=>by
   rw[e9,List.cons_prefix_cons] at h;obtain⟨rfl,h⟩:=h;rcases uv h with h | ⟨t,rfl,ht⟩
   ·exact .inl (by rw[List.cons_prefix_cons];exact⟨rfl,h⟩)
   ·exact .inr ⟨t,rfl,ht⟩
variable{b:Bk}
theorem Good.join{u b:ew}(D:Good u)(J:Good b)(L:∀x∈u,gg x)(R:∀x∈b,gg x)(h:¬gt (blk u) (blk b)):Good (u++b):=by
 have h':lss u*hrs b<=lss b*hrs u:=Int.not_lt.mp h;have Y:=mv u L D.ne;have S:=mv b R J.ne;refine⟨by simp[D.ne],λp z=>?_⟩;rw[kn,md];rcases uv z with z | ⟨t,rfl,ht⟩
 ·-- within u
  have h1:=D.beg p z;have Z:0<=hrs p:=ul p λx I=>L x (z.subset I);have j:lss p*hrs u*(hrs u+hrs b)<=lss u*hrs p*(hrs u+hrs b):=ee h1 (by lia);have k:hrs p*(lss u*hrs b)<=hrs p*(lss b*hrs u):=ml h' Z;have c:lss p*(hrs u+hrs b)*hrs u<=(lss u+lss b)*hrs p*hrs u:=by
   have U:lss p*(hrs u+hrs b)*hrs u=lss p*hrs u*(hrs u+hrs b):=by rw[f9,fx (hrs u+hrs b),<-f9]
   have V:lss u*hrs p*(hrs u+hrs b)=lss u*hrs p*hrs u+hrs p*(lss u*hrs b):=by rw[fq,fx (lss u) (hrs p),f9 (hrs p) (lss u) (hrs b)]
   have d:(lss u+lss b)*hrs p*hrs u=lss u*hrs p*hrs u+hrs p*(lss b*hrs u):=by rw[gi,gi,fx (lss b) (hrs p),f9 (hrs p) (lss b) (hrs u)]
   lia
  exact i4 c Y
 ·-- u and a beginning of b
  rw[kn,md];have h1:=J.beg t ht;obtain⟨q,rfl⟩:=ht;rw[kn,md] at h1 h' ⊢;rw[kn] at S;have e:0<=hrs q:=ul q λx I=>R x (bn _ I);have f:lss t*hrs q<=lss q*hrs t:=by
   have U:lss t*(hrs t+hrs q)=lss t*hrs t+lss t*hrs q:=fq _ _ _;have V:(lss t+lss q)*hrs t=lss t*hrs t+lss q*hrs t:=gi _ _ _
   lia
  have l:lss u*(hrs t+hrs q)*hrs q<=(lss t+lss q)*hrs u*hrs q:=ee h' e;have g:0<=hrs u:=by lia
  have b3:hrs u*(lss t*hrs q)<=hrs u*(lss q*hrs t):=ml f g;have i:lss u*hrs q*(hrs t+hrs q)<=lss q*hrs u*(hrs t+hrs q):=by
   have U:lss u*hrs q*(hrs t+hrs q)=lss u*(hrs t+hrs q)*hrs q:=by rw[f9,fx (hrs q),<-f9]
   have V:(lss t+lss q)*hrs u*hrs q=hrs u*(lss t*hrs q)+lss q*hrs u*hrs q:=by rw[gi,gi,fx (lss t) (hrs u),f9 (hrs u) (lss t) (hrs q)]
   have d:lss q*hrs u*(hrs t+hrs q)=hrs u*(lss q*hrs t)+lss q*hrs u*hrs q:=by rw[fq,fx (lss q) (hrs u),f9 (hrs u) (lss q) (hrs t)]
   lia
  have m:lss u*hrs q<=lss q*hrs u:=i4 i S;simp only[fq,gi]
  lia
def Desc:ey->Prop
 | []=>True | [_]=>True |b::u::r=>gt (blk u) (blk b)/\Desc (u::r)
structure Runs (rs:ey) (s:ew):Prop where
 flat:rs.reverse.flatten=s
 good:∀r∈rs,Good r
 desc:Desc rs
def zlb:∀(J:ey) (b:ew) (s:ew),Runs J s->Good b->(∀x∈s++b,gg x)->Runs ((jq J b).2::(jq J b).1) (s++b)
 | [],b,s,h,gb,_=>by
   have:s=[]:=by have:=h.flat;simpa using this.symm
   subst this;exact⟨by simp[jq],λr D=>by simp[jq] at D;rw[D];exact gb,trivial⟩
 |u::r,b,s,h,gb,hx=>by
   have I:s=r.reverse.flatten++u:=by rw[<-h.flat];simp
   by_cases h1:gt (blk u) (blk b)
   ·have e:jq (u::r) b=(u::r,b):=by simp[jq,h1]
    rw[e];refine⟨by simp[I],λt ht=>?_,h1,h.desc⟩;rcases b8.mp ht with rfl |ht
    ·exact gb
    ·exact h.good t ht
   ·have e:jq (u::r) b=jq r (u++b):=by simp[jq,h1]
    rw[e];have D:Runs r r.reverse.flatten:=⟨rfl,λt ht=>h.good t (ak _ ht),by
     have:=h.desc;cases r with
     |nil=>trivial |cons v r=>exact this.2⟩
    have L:Good (u++b):=(h.good u (by simp)).join gb (λx z=>hx x (by rw[I];simp[z])) (λx z=>hx x (by simp[z])) h1;have:=zlb r (u++b) r.reverse.flatten D L (λx z=>hx x (by rw[I];simpa[or_assoc] using z));rw[I,b9];exact this
def zqe(x:Sk)(h:gg x):Good [x]:=⟨by simp,λp D=>by
 have:p=[]\/p=[x]:=by
  obtain⟨t,z⟩:=D;cases p with
  |nil=>exact .inl rfl |cons y q=>simp at z;simp[z]
 rcases this with rfl |rfl
 ·simp[lss,hrs]
 ·exact g6 _⟩
def zn8(x:Sk):vt [sD x]=some (bD [x]):=by
 rw[zn5];simp[bD,blk,hrs,lss]
theorem zke(S:D)(z:ey)(s:ew)(x:Sk)(v2 c:ep)(h:Runs z s)(U:∀y∈s++[x],gg y)(k:s.length<900) :
  ∃J Y,Runs J (s++[x])/\we [some (.sh S),some (.ow (z.reverse.map bD)),some (.sh (sD x)),c]=some (.nx,[some (.sh S),some (.ow (J.reverse.map bD)),some (.sh (sD x)),Y]):=by
 have L:z.flatten.length=s.length:=by
  rw[<-h.flat,d6,d6,List.map_reverse,List.sum_reverse]
 have d:z.length<=s.length:=by
  rw[<-L];have:∀(l:ey),(∀r∈l,r≠[])->l.length<=l.flatten.length:=λl=>by
   induction l with
   |nil=>intro _;simp
   |cons a l ih =>
     intro R;have:=ih λr I=>R r (ak _ I);have f:0<a.length:=gq.mpr (R a au);rw[av,bx,aj]
     lia
  exact this z λr I=>(h.good r I).ne
 have g:=zk9 (some (.sh S)) (some (.sh (sD x))) 10000 z [x] (by lia) (λr I y V=>U y (by
  rw[<-h.flat];exact db _ (cg.mpr ⟨r,by simpa using I,V⟩))) (λy V=>U y (by simp at V;simp[V])) (by rw[L];simp;lia)
 have I:=zlb z [x] s h (zqe x (U x (by simp))) U;refine⟨_,some (.sh (bD (jq z [x]).2)),I,?_⟩;have b:(jq z [x]).1.length<=s.length:=by
  have e:=I.flat;have:∀(l:ey),(∀r∈l,r≠[])->l.length<=l.flatten.length:=λl=>by
   induction l with
   |nil=>intro _;simp
   |cons a l ih =>
     intro R;have:=ih λr I=>R r (ak _ I);have f:0<a.length:=gq.mpr (R a au);rw[av,bx,aj]
     lia
  have h2:=this _ λr Z=>(I.good r Z).ne;have i:(((jq z [x]).2::(jq z [x]).1).flatten).length=(s++[x]).length:=by
   rw[<-e,d6,d6,List.map_reverse,List.sum_reverse]
  rw[i] at h2;simp at h2;exact h2
 have j:Few ((jq z [x]).1.length+1):=few (by lia);unfold we;simp only[sSeq,sSet,en,bw,fVar,fNil,ah,af,ab,aq,zn8,aw,ay,g,jj,kv,o4,ac,List.length_reverse,j,if_true];simp
theorem zg9(s:ew)(S:∀y∈s,gg y)(Y:s.length<=14):∃z,Runs z s/\zdq [.lst (s.map sD)]=some (.lst (z.reverse.map bD)):=by
 obtain⟨e',h1,z,v2,D,I,rfl⟩:=p0 (i:=2) (g:=we) sD (λp e=>∃z v2 D,Runs z p/\e=[some (.sh (.lst (s.map sD))),some (.ow (z.reverse.map bD)),v2,D]) s
  [some (.sh (.lst (s.map sD))),some (.ow []),none,none] ⟨[],none,none,⟨rfl,λr I=>by simp at I,trivial⟩,rfl⟩ (by
   rintro p x q e J ⟨z,v2,D,I,rfl⟩;obtain⟨L,U,R,V⟩:=zke (.lst (s.map sD)) z p x v2 D I (λy hy=>S y (by
    rw[J];rcases dh.mp hy with hy |hy
    ·simp[hy]
    ·simp at hy;simp[hy])) (by
    have:s.length=p.length+(q.length+1):=by rw[J];simp
    lia)
   exact⟨_,V,L,_,_,R,rfl⟩)
 refine⟨z,I,?_⟩;refine jt (e':=[some (.sh (.lst (s.map sD))),some (.sh (.lst (z.reverse.map bD))),v2,D]) rfl ?_;show zdp [some (.sh (.lst (s.map sD))),none,none,none]=_;simp[zdp,h1]
def q0(f:α->Int)(r:List α):bSum [.lst (r.map λx=>.int (f x))]=some (.int (r.map f).sum):=by
 have:(r.map λx=>D.int (f x))=(r.map f).map D.int:=by rw[dm];rfl
 rw[this];show(ints? ((r.map f).map D.int)).map _=_;rw[ints_of];rfl
def zjo{α:Type}{ix:b5}{g:FS}(z:α->ei)(P:List α->DE0->Prop)(all:List α)(J:∀x∈all,(z x).length=ix.length)(L:∀(p:List α) (x:α) (q:List α) (e:DE0),all=p++x::q->P p e->∃e',g (oh ix (z x) e)=some (.nx,e')/\P (p++[x]) e') :
  ∀(xs I:List α) (e:DE0),all=I++xs->P I e->∃e',forU ix g (xs.map λx=>D.tup (z x)) e=some (.nx,e')/\P all e'
 | [],I,e,h,hp=>⟨e,rfl,by rw[h,ca];exact hp⟩ |x::xs,I,e,h,hp=>by
   obtain⟨R,h1,p1⟩:=L I x xs e h hp;obtain⟨S,h2,p2⟩:=zjo z P all J L xs (I++[x]) R (by rw[h];simp) p1;have U:=J x (by rw[h];simp);exact⟨S,by simp[forU,unp,U,h1,h2],p2⟩
variable{g:FS}
def sg{ix:b5}(z:α->ei)(P:List α->DE0->Prop)(all:List α)(e:DE0)(I:P [] e)(J:∀x∈all,(z x).length=ix.length)(L:∀(p:List α) (x:α) (q:List α) (e:DE0),all=p++x::q->P p e->∃e',g (oh ix (z x) e)=some (.nx,e')/\P (p++[x]) e') :
  ∃e',forU ix g (all.map λx=>D.tup (z x)) e=some (.nx,e')/\P all e':=zjo z P all J L all [] e rfl I
def yz{α:Type}(f:α->D):∀(xs:List α) (c:Nat),k7 c (xs.map f)=(xs.zipIdx c).map λp=>D.tup [.int (p.2:Nat),f p.1]
 | [],c=>rfl |x::xs,c=>by simp[k7,List.zipIdx_cons,yz f xs (c+1)]
def zlc{α β:Type}(f:α->D)(g:β->D):∀(xs:List α) (ys:List β),zipD (xs.map f) (ys.map g)=(xs.zip ys).map λp=>D.tup [f p.1,g p.2]
 | [],ys=>by simp[zipD] |x::xs,[]=>by simp[zipD] |x::xs,y::ys=>by simp[zipD,zlc f g xs ys]
theorem pq{u:Bk}(h:gt u b):¬gt b u:=λz=>by
 unfold gt at h z
 lia
variable{c:Nat}
theorem wv{n c:Bk}(I:0<n.2.1)(J:0<c.2.1)(z:0<b.2.1)(h1:gt n c)(h2:¬gt b c):gt n b:=by
 have h2:b.2.2*c.2.1<=c.2.2*b.2.1:=Int.not_lt.mp h2;have L:b.2.2*c.2.1*n.2.1<=c.2.2*b.2.1*n.2.1:=ee h2 (by lia);have R:c.2.2*n.2.1*b.2.1<n.2.2*c.2.1*b.2.1:=Int.mul_lt_mul_of_pos_right h1 z;have D:b.2.2*n.2.1*c.2.1<n.2.2*b.2.1*c.2.1:=by
  have S:b.2.2*n.2.1*c.2.1=b.2.2*c.2.1*n.2.1:=kj ..;have U:n.2.2*b.2.1*c.2.1=n.2.2*c.2.1*b.2.1:=kj ..;have V:c.2.2*b.2.1*n.2.1=c.2.2*n.2.1*b.2.1:=kj ..
  lia
 exact Int.lt_of_mul_lt_mul_right D (by lia)
abbrev Tn:=Nat×ew
abbrev ez:=List Tn
def tnD(t:Tn):D:=.tup [.int (t.1:Int),.int (t.2.length:Int),.int (hrs t.2),.int (lss t.2)]
def zn9(t:Tn):p4 [tnD t]=some (.tup [.int (hrs t.2),.int (lss t.2)]):=by
 simp[p4,runD,zgh,jd,tnD,zxz,zx0]
def geT(a b:Tn):Bool:=!decide (gt (blk b.2) (blk a.2))
variable{a:Nat}
def ztc{a b:Tn}:geT a b=true↔¬gt (blk b.2) (blk a.2):=by simp[geT]
theorem ztd(t n:Tn)(D:SmB (blk t.2))(I:SmB (blk n.2)):∃z:Int,ny [.tup [.int (hrs t.2),.int (lss t.2)],.tup [.int (hrs n.2),.int (lss n.2)]]=some (.int z)/\decide (0<=z)=geT t n:=by
 refine⟨_,zk7 _ _ _ _ D.2 I.2,?_⟩;show decide ((0:Int)<=if lss n.2*hrs t.2<lss t.2*hrs n.2 then 1 else if lss t.2*hrs n.2<lss n.2*hrs t.2 then -1 else 0)=!decide (lss t.2*hrs n.2<lss n.2*hrs t.2);by_cases h1:lss n.2*hrs t.2<lss t.2*hrs n.2
 ·rw[if_pos h1]
  have h2:¬lss t.2*hrs n.2<lss n.2*hrs t.2:=by lia
  simp[h2]
 ·rw[if_neg h1]
  by_cases h2:lss t.2*hrs n.2<lss n.2*hrs t.2
  ·simp[h2]
  ·simp[h2]
def plc(ts:ez)(n:Tn):Nat:=(ts.takeWhile λt=>geT t n).length
noncomputable def zh1:FT:=fAnd (fTst (fBin dLt (fVar 2) (gw 0))) (fTst (fBin dGe (en ny (bw (en p4 (bw (fIxV 0 (fVar 2)) (fNil))) (bw (en p4 (bw (fVar 1) (fNil))) (fNil)))) (fC (.int 0))))
theorem zhb(n:Tn)(V:SmB (blk n.2)):∀(I D:ez) (J:Nat),I.length<J->(∀t∈I,SmB (blk t.2)) ->
  j9 zh1 t0 J [some (.sh (.lst ((D++I).map tnD))),some (.sh (tnD n)),some (.sh (.int (D.length:Int)))]=some (.nx,[some (.sh (.lst ((D++I).map tnD))),some (.sh (tnD n)),some (.sh (.int ((D.length+plc I n:Nat):Int)))])
 | [],D,f+1,h,_=>by
   unfold j9 zh1;simp[plc]
 |t::r,D,f+1,h,hs=>by
   obtain⟨z,Z,hd⟩:=ztd t n (hs t (by simp)) V;have R:atI ((D++t::r).map tnD) (D.length:Int)=some (tnD t):=jz tnD (by simp);have S:(D.length:Int)<((D++t::r).map tnD).length:=by simp;lia
   have a:zh1 [some (.sh (.lst ((D++t::r).map tnD))),some (.sh (tnD n)),some (.sh (.int (D.length:Int)))]=some (geT t n,[some (.sh (.lst ((D++t::r).map tnD))),some (.sh (tnD n)),some (.sh (.int (D.length:Int)))]):=by
    unfold zh1;generalize (D++t::r).map tnD=L at R S;simp[S,R,zn9,Z,hd]
   unfold j9;rw[a,ab];cases hg:geT t n with
   |false =>
     simp[plc,hg]
   |true =>
     rw[if_pos rfl];have b:t0 [some (.sh (.lst ((D++t::r).map tnD))),some (.sh (tnD n)),some (.sh (.int (D.length:Int)))]=some (.nx,[some (.sh (.lst ((D++t::r).map tnD))),some (.sh (tnD n)),some (.sh (.int ((D++[t]).length:Int)))]):=by
      simp[t0]
     rw[b,ab];have Y:=zhb n V r (D++[t]) f (by simpa using h) λt' U=>hs t' (by simp[U]);rw[b9,du] at Y;rw[Y];have:(D++[t]).length+plc r n=D.length+plc (t::r) n:=by simp[plc,hg];lia
     rw[this]
theorem zqf(ts:ez)(n:Tn)(z:SmB (blk n.2))(D:∀t∈ts,SmB (blk t.2))(I:ts.length<9000):zdg [.lst (ts.map tnD),tnD n]=some (.int (plc ts n:Int)):=by
 have h:=zhb n z ts [] 10000 (by lia) D;refine jt (e':=[some (.sh (.lst (ts.map tnD))),some (.sh (tnD n)),some (.sh (.int (plc ts n:Int)))]) rfl ?_;show zdf [some (.sh (.lst (ts.map tnD))),some (.sh (tnD n)),none]=_;have h':j9 zh1 t0 10000 [some (.sh (.lst (ts.map tnD))),some (.sh (tnD n)),some (.sh (.int 0))]=_:=h;unfold zh1 at h';simp[zdf,h']
def ins(ts:ez)(n:Tn):ez:=(ts.takeWhile λt=>geT t n)++n::ts.dropWhile λt=>geT t n
def zwj(ts:ez)(n:Tn):(ts.map tnD).take (plc ts n)++tnD n::(ts.map tnD).drop (plc ts n)=(ins ts n).map tnD:=by
 have e:=ie (p:=λt=>geT t n) (l:=ts);have z:plc ts n=(ts.takeWhile λt=>geT t n).length:=rfl;have h1:ts.take (plc ts n)=ts.takeWhile λt=>geT t n:=by
  rw[z];generalize (ts.takeWhile λt=>geT t n)=A at e;rw[<-e];exact j4
 have h2:ts.drop (plc ts n)=ts.dropWhile λt=>geT t n:=by
  rw[z];generalize (ts.takeWhile λt=>geT t n)=A at e
  conv=>lhs;rw[<-e]
  exact List.drop_left
 rw[<-qz,<-List.map_drop,h1,h2];simp[ins]
def zwk(ts:ez)(n:Tn):plc ts n<=ts.length:=(List.takeWhile_sublist _).length_le
theorem zmh(I J U:ep)(ts:ez)(z:Nat)(r:ew)(V:SmB (blk r))(Y:∀t∈ts,SmB (blk t.2))(Z:ts.length<9000) :
  tx [I,some (.ow (ts.map tnD)),some (.sh (.int (z:Int))),J,some (.sh (.int (r.length:Int))),some (.sh (.int (hrs r))),some (.sh (.int (lss r))),U] =
   some (.nx,[I,some (.ow ((ins ts (z,r)).map tnD)),some (.sh (.int (z:Int))),J,some (.sh (.int (r.length:Int))),some (.sh (.int (hrs r))),some (.sh (.int (lss r))),some (.sh (tnD (z,r)))]):=by
 have R:=zqf ts (z,r) V Y Z;have S:=zwj ts (z,r);have h1:(plc ts (z,r):Int)<=((ts.map tnD).length:Nat):=by rw[ac];have:=zwk ts (z,r);lia
 have h2:Few ((ts.map tnD).length+1):=few (by rw[ac];lia);have a:D.tup [.int (z:Int),.int (r.length:Int),.int (hrs r),.int (lss r)]=tnD (z,r):=rfl;have b:(0:Int)<=(plc ts (z,r):Int):=by lia
 generalize ts.map tnD=L at R S h1 h2;simp[tx,uw,q9,uf,a,R,qd,wx,b,h1,h2,fo,S]
def bef(a b:Tn):Prop:=gt (blk a.2) (blk b.2)\/(¬gt (blk b.2) (blk a.2)/\a.1<b.1)
def ofS(ts:ez)(j:Nat):ey:=(ts.filter λt=>t.1==j+1).map (·.2)
structure TurnsOk (ss:ey) (ts:ez):Prop where
 lo:∀t∈ts,1<=t.1/\t.1<=ss.length
 good:∀t∈ts,Good t.2
 part:∀(j:Nat) (s:ew),ss[j]?=some s->(ofS ts j).flatten=s
 srt:ts.Pairwise bef
 perm:(ts.map (·.2)).flatten.Perm ss.flatten
variable{ss:ey}{ts:ez}
def TurnsOk.sk(h:TurnsOk ss ts)(z:∀x∈ss.flatten,gg x):∀t∈ts,∀x∈t.2,gg x:=λt D x I =>
 z x (h.perm.mem_iff.mp (cg.mpr ⟨t.2,bi.mpr ⟨t,D,rfl⟩,I⟩))
def TurnsOk.len1(h:TurnsOk ss ts):∀t∈ts,t.2.length<=ss.flatten.length:=λt z=>by
 rw[<-h.perm.length_eq];exact(cf (bi.mpr ⟨t,z,rfl⟩)).length_le
theorem zoa{α:Type}:∀(l:List (List α)),(∀r∈l,r≠[])->l.length<=l.flatten.length
 | [],_=>by simp |a::l,h=>by
   have:=zoa l λr z=>h r (ak _ z);have D:0<a.length:=gq.mpr (h a au);rw[av,bx,aj]
   lia
def TurnsOk.len(h:TurnsOk ss ts):ts.length<=ss.flatten.length:=by
 have:=zoa (ts.map (·.2)) λr z=>by
  obtain⟨t,D,rfl⟩:=bi.mp z;exact(h.good t D).ne
 rw[ac,h.perm.length_eq] at this;exact this
protected def TurnsOk.pos(h:TurnsOk ss ts)(D:∀x∈ss.flatten,gg x):∀t∈ts,0<hrs t.2:=λt z=>mv t.2 (h.sk D t z) (h.good t z).ne
def TurnsOk.sm(h:TurnsOk ss ts)(D:∀x∈ss.flatten,gg x)(I:ss.flatten.length<=1000):∀t∈ts,SmB (blk t.2):=λt z=>smB t.2 (h.sk D t z) (bh (h.len1 t z) I)
theorem TurnsOk.more(h:TurnsOk ss ts):TurnsOk (ss++[[]]) ts/\ofS ts ss.length=[]:=by
 have e:ofS ts ss.length=[]:=by
  unfold ofS;rw[e8.mpr λt D=>by have:=(h.lo t D).2;simp;lia];rfl
 refine⟨⟨λt D=>⟨(h.lo t D).1,by have:=(h.lo t D).2;simp;lia⟩,h.good,λj s z=>?_,h.srt,by simpa using h.perm⟩,e⟩;by_cases I:j<ss.length
 ·rw[ce I] at z
  exact h.part j s z
 ·have:j=ss.length:=by
   have:=(am.mp z).1;simp at this
   lia
  subst this;simp at z;subst z;rw[e];rfl
def zte{ts:ez}{n t:Tn}:t∈ins ts n↔t∈ts\/t=n:=by
 unfold ins;have e:=ie (p:=λt=>geT t n) (l:=ts);have z:t∈ts↔t∈(ts.takeWhile λt=>geT t n)\/t∈ts.dropWhile λt=>geT t n:=by
  conv=>lhs;rw[<-e]
  exact dh
 rw[z];simp[dh];constructor
 ·rintro(h |h |h)
  ·exact .inl (.inl h)
  ·exact .inr h
  ·exact .inl (.inr h)
 ·rintro((h |h) |h)
  ·exact .inl h
  ·exact .inr (.inr h)
  ·exact .inr (.inl h)
theorem TurnsOk.ins{ss:ey}{ts:ez}{D r:ew}{p:ey}(h:TurnsOk (ss++[D]) ts)(S:ofS ts ss.length=p)(i:Good r)(d:∀x∈r,gg x)(o:∀x∈(ss++[D]).flatten,gg x)(hd:∀u∈p,gt (blk u) (blk r)):TurnsOk (ss++[D++r]) (LB.ins ts (ss.length+1,r))/\ofS (LB.ins ts (ss.length+1,r)) ss.length=p++[r]:=by
 have e:=ie (p:=λt=>geT t (ss.length+1,r)) (l:=ts);have hA:∀t∈(ts.takeWhile λt=>geT t (ss.length+1,r)),geT t (ss.length+1,r)=true:=λt J=>by
  have:=List.all_takeWhile (p:=λt=>geT t (ss.length+1,r)) (l:=ts);exact gm.mp this t J
 have pr:0<hrs r:=mv r d i.ne;have I:=@zte ts (ss.length+1,r);have f:∀L Y,ts.dropWhile (λt=>geT t (ss.length+1,r))=L::Y->gt (blk r) (blk L.2):=λL Y hb=>by
  have:geT L (ss.length+1,r)=false:=by
   have:=List.head?_dropWhile_not (p:=λt=>geT t (ss.length+1,r)) ts;rw[hb] at this;simpa using this
  unfold geT at this;simpa using this
 unfold LB.ins at I ⊢;have srt:=h.srt;have pos:=h.pos o;have R:∀t∈ts,t.1=ss.length+1->gt (blk t.2) (blk r):=λt J U=>hd t.2 (by
  rw[<-S];exact bi.mpr ⟨t,fz.mpr ⟨J,by simp[U]⟩,rfl⟩)
 have lo:=h.lo;have part:=h.part;have perm:=h.perm;rw[<-e] at srt pos R lo part perm S;generalize (ts.takeWhile λt=>geT t (ss.length+1,r))=A at *;generalize (ts.dropWhile λt=>geT t (ss.length+1,r))=B at *;have k:∀b∈B,gt (blk r) (blk b.2):=λb hb=>by
  cases B with
  |nil=>simp at hb |cons L Y =>
    have m:=f L Y rfl;rcases b8.mp hb with rfl |hb'
    ·exact m
    ·have q:=(io.mp srt).2.1
     have:=(fc.mp q).1 b hb';have v:¬gt (blk b.2) (blk L.2):=by
      rcases this with z |z
      ·exact pq z
      ·exact z.1
     exact wv pr (pos L (by simp)) (pos b (by simp[hb'])) m v
 have n:(B.filter λt=>t.1==ss.length+1)=[]:=e8.mpr λt J=>by
  intro z;exact pq (k t J) (R t (by simp[J]) (by simpa using z))
 have of:ofS (A++(ss.length+1,r)::B) ss.length=p++[r]:=by
  unfold ofS at S ⊢;rw[gz,n,ca] at S;rw[gz,jh (by simp),n,b7,S];rfl
 refine⟨⟨λt J=>?_,λt J=>?_,λj s Z=>?_,?_,?_⟩,of⟩
 ·rcases(I.mp J) with z |z
  ·have:=h.lo t z;simp at this ⊢;lia
  ·subst z;simp
 ·rcases(I.mp J) with z |z
  ·exact h.good t z
  ·subst z;exact i
 ·by_cases V:j<ss.length
  ·rw[ce V] at Z
   have:=part j s (by rw[ce V];exact Z);rw[<-this];unfold ofS;rw[gz,gz,ji (by simp;lia)]
  ·have:j=ss.length:=by
    have:=(am.mp Z).1;simp at this
    lia
   subst this;have w:D++r=s:=by simpa using Z
   rw[of,<-w];have:=part ss.length D (by simp);rw[show ofS (A++B) ss.length=p from S] at this;simp[this]
 ·have g:=io.mp srt
  refine io.mpr ⟨g.1,fc.mpr ⟨λb hb=>.inl (k b hb),g.2.1⟩,λa c b hb=>?_⟩;rcases b8.mp hb with rfl |hb
  ·have y:=hA a c
   by_cases U:a.1=ss.length+1
   ·exact .inl (R a (by simp[c]) U)
   ·have:=(lo a (by simp[c])).2
    exact .inr ⟨ztc.mp y,by simp at this ⊢;lia⟩
  ·exact g.2.2 a c b hb
 ·have U:((A++(ss.length+1,r)::B).map (·.2)).flatten=(A.map (·.2)).flatten++(r++(B.map (·.2)).flatten):=by simp
  have C:(ss++[D++r]).flatten=(ss++[D]).flatten++r:=by simp
  rw[U,C];have E:((A++B).map (·.2)).flatten=(A.map (·.2)).flatten++(B.map (·.2)).flatten:=by simp
  rw[E] at perm;refine List.Perm.trans ?_ (perm.append_right r);rw[b9];exact List.Perm.append_left _ List.perm_append_comm
def zob:∀(z:ey),Desc z->(∀r∈z,0<hrs r)->z.Pairwise (λb u=>gt (blk u) (blk b))
 | [],_,_=>.nil | [b],_,_=>by simp |b::u::r,h,hp=>by
   have I:=zob (u::r) h.2 λx D=>hp x (ak _ D);refine fc.mpr ⟨λx D=>?_,I⟩;rcases b8.mp D with rfl |hx'
   ·exact h.1
   ·have:=(fc.mp I).1 x hx'
    exact wv (hp x (by simp[hx'])) (hp u (by simp)) (hp b (by simp)) this (pq h.1)
theorem zkf(S:D)(ss:ey)(s:ew)(ts:ez)(j k l m:ep)(h:TurnsOk ss ts)(A:∀x∈(ss++[s]).flatten,gg x)(o:(ss++[s]).flatten.length<=14) :
  ∃z c d f V,TurnsOk (ss++[s]) z/\wb [some (.sh S),some (.ow (ts.map tnD)),some (.sh (.int ((ss.length+1:Nat):Int))),some (.sh (.lst (s.map sD))),j,k,l,m] =
   some (.nx,[some (.sh S),some (.ow (z.map tnD)),some (.sh (.int ((ss.length+1:Nat):Int))),some (.sh (.lst (s.map sD))),c,d,f,V]):=by
 have Y:∀x∈s,gg x:=λx hx=>A x (by simp[hx]);have t:s.length<=14:=by simp at o;lia
 obtain⟨R,n,C⟩:=zg9 s Y t;have I:=n.flat;have Z:∀r∈R.reverse,Good r:=λr h=>n.good r (ly.mp h);have a:∀r∈R.reverse,∀x∈r,gg x:=λr h x hx=>Y x (by rw[<-I];exact cg.mpr ⟨r,h,hx⟩);have i:R.reverse.Pairwise (λu b=>gt (blk u) (blk b)):=by
  rw[List.pairwise_reverse];exact zob R n.desc λr h=>mv r (a r (ly.mpr h)) (n.good r h).ne
 have B:=h.more;obtain⟨e',h1,z,c,d,f,V,v,E,rfl⟩:=sg (ix:=[4,5,6]) (g:=tx) (λr:ew=>[D.int (r.length:Int),.int (hrs r),.int (lss r)])
  (λp e=>∃z c d f V,TurnsOk (ss++[p.flatten]) z/\ofS z ss.length=p/\e=[some (.sh S),some (.ow (z.map tnD)),some (.sh (.int ((ss.length+1:Nat):Int))),some (.sh (.lst (s.map sD))),c,d,f,V]) R.reverse
  [some (.sh S),some (.ow (ts.map tnD)),some (.sh (.int ((ss.length+1:Nat):Int))),some (.sh (.lst (s.map sD))),j,k,l,m] ⟨ts,j,k,l,m,B.1,B.2,rfl⟩ (λ_ _=>rfl) (by
   rintro p r q e J ⟨z,c,d,f,V,ok,of,rfl⟩;have L:r∈R.reverse:=by rw[J];simp
   have U:∀x∈(ss++[p.flatten]).flatten,gg x:=λx hx=>by
    rw[d7,dh] at hx;rcases hx with hx |hx
    ·exact A x (by rw[d7];exact db _ hx)
    ·refine Y x ?_
     rw[<-I,J,d7];exact db _ (by simpa using hx)
   have F:(ss++[p.flatten]).flatten.length<=14:=by
    have:p.flatten.length<=s.length:=by rw[<-I,J,d7,aj];lia
    rw[d7,aj] at o ⊢;simp only[bx,List.flatten_nil,ca] at o ⊢
    lia
   have w:∀u∈p,gt (blk u) (blk r):=λu G=>by
    rw[J] at i;exact(io.mp i).2.2 u G r (by simp)
   obtain⟨H,K⟩:=ok.ins of (Z r L) (a r L) U w;have M:r.length<=14:=by
    have:r.length<=R.reverse.flatten.length:=(cf L).length_le;rw[I] at this;lia
   have body:=zmh (some (.sh S)) (some (.sh (.lst (s.map sD)))) V z (ss.length+1) r (smB r (a r L) (by lia)) (ok.sm U (by lia)) (by have:=ok.len;lia);exact⟨_,body,_,_,_,_,_,by simpa using H,K,rfl⟩)
 refine⟨z,c,d,f,V,by rw[<-I];exact v,?_⟩;have y:forU [4,5,6] tx (R.reverse.map bD) [some (.sh S),some (.ow (ts.map tnD)),some (.sh (.int ((ss.length+1:Nat):Int))),some (.sh (.lst (s.map sD))),j,k,l,m]=_:=h1;simp only[wb,l4,fiS,en,bw,fVar,fNil,ah,af,ab,aq,C,y]
def ssL(ss:ey):D:=.lst (ss.map λs=>D.lst (s.map sD))
def zya(ss:ey):D.lst ((ssD ss).map D.lst)=ssL ss:=by unfold ssL ssD;rw[dm];rfl
theorem zhl(ss:ey)(c:∀x∈ss.flatten,gg x)(d:ss.flatten.length<=14):∃ts,TurnsOk ss ts/\tf [ssL ss]=some (.lst (ts.map tnD)):=by
 obtain⟨e',h1,ts,v2,U,z,I,J,L,ok,rfl⟩:=sg (ix:=[2,3]) (g:=wb) (λp:ew×Nat=>[D.int (p.2:Int),D.lst (p.1.map sD)])
  (λp e=>∃ts v2 U z I J L,TurnsOk (p.map (·.1)) ts/\e=[some (.sh (ssL ss)),some (.ow (ts.map tnD)),v2,U,z,I,J,L]) (ss.zipIdx 1)
  [some (.sh (ssL ss)),some (.ow []),none,none,none,none,none,none] ⟨[],none,none,none,none,none,none,⟨by simp,by simp,by simp,.nil,by simp⟩,rfl⟩ (λ_ _=>rfl) (by
   rintro p x q e R ⟨ts,v2,U,z,I,J,L,ok,rfl⟩;have Y:ss=p.map (·.1)++x.1::q.map (·.1):=by
    have:=congrArg (List.map (·.1)) R;simpa using this
   have Z:x.2=(p.map (·.1)).length+1:=by
    have:(ss.zipIdx 1)[p.length]?=some x:=by rw[R];simp
    rw[List.getElem?_zipIdx] at this;cases hs:ss[p.length]? with
    |none=>rw[hs] at this;cases this
    |some s =>
      rw[hs] at this;cases this;simp;lia
   have S:ss.flatten=(p.map (·.1)++[x.1]).flatten++(q.map (·.1)).flatten:=by rw[Y];simp
   obtain⟨a,h,i,j,k,b,V⟩:=zkf (ssL ss) (p.map (·.1)) x.1 ts z I J L ok (λy f=>c y (by rw[S];exact db _ f)) (by rw[S,aj] at d;lia);rw[<-Z] at V;exact⟨_,V,a,_,_,_,_,_,_,by simpa using b,rfl⟩)
 refine⟨ts,by simpa using ok,?_⟩;refine jt (e':=[some (.sh (ssL ss)),some (.sh (.lst (ts.map tnD))),v2,U,z,I,J,L]) rfl ?_;show zd7 [some (.sh (ssL ss)),none,none,none,none,none,none,none]=_;have V:iEn 1 [ssL ss]=some ((ss.zipIdx 1).map λp=>D.tup [D.int (p.2:Int),D.lst (p.1.map sD)]):=by
  show some (k7 1 (ss.map λs=>D.lst (s.map sD)))=_;rw[yz]
 simp only[zd7,sSeq,sOwn,gk,fNil,ab,aq,cw,eh,if_true,aw,ay,l4,gs,bw,fVar,ah,af,V,h1,sRet]
def g5(n:Nat)(ts:ez):ey:=(List.range n).map λj=>(ofS ts j).flatten
def lq(n:Nat)(ts:ez):(g5 n ts).length=n:=by simp[g5]
def ox(h:j<n):(g5 n ts)[j]?=some ((ofS ts j).flatten):=by simp[g5,h]
def sx(t:Tn)(ts:ez)(j:Nat)(h:t.1=j+1):ofS (t::ts) j=t.2::ofS ts j:=by
 unfold ofS;rw[jh (by simp[h])];rfl
def y7(t:Tn)(ts:ez)(j:Nat)(h:t.1≠j+1):ofS (t::ts) j=ofS ts j:=by
 unfold ofS;rw[ji (by simp[h])]
variable{t:Tn}
theorem zmi(h1:1<=t.1)(h2:t.1<=n):(g5 n (t::ts))[t.1-1]?=some (t.2++(ofS ts (t.1-1)).flatten):=by
 rw[ox (by lia),sx t ts (t.1-1) (by lia)];simp
theorem zkg(h1:1<=t.1)(h2:t.1<=n):g5 n ts=(g5 n (t::ts)).set (t.1-1) ((ofS ts (t.1-1)).flatten):=by
 apply gf;intro j;by_cases z:j<n
 ·rw[ja,ox z,ox z,lq]
  by_cases e:t.1-1=j
  ·subst e
   simp[z]
  ·rw[if_neg e,y7 t ts j (by lia)]
 ·rw[cu (by rw[lq];lia),cu (by rw[d8,lq];lia)]
theorem zoc(h1:1<=t.1)(h2:t.1<=n):g5 n (t::ts)=(g5 n ts).set (t.1-1) (t.2++(ofS ts (t.1-1)).flatten):=by
 apply gf;intro j;by_cases z:j<n
 ·rw[ja,ox z,ox z,lq]
  by_cases e:t.1-1=j
  ·subst e
   rw[sx t ts (t.1-1) (by lia)];simp[z]
  ·rw[if_neg e,y7 t ts j (by lia)]
 ·rw[cu (by rw[lq];lia),cu (by rw[d8,lq];lia)]
def zjp{α:Type}:∀ {l:List (List α)} {j:Nat} {s x:List α},l[j]?=some s->(l.set j (x++s)).flatten.Perm (x++l.flatten)
 |a::l,0,s,x,h=>by
   simp at h;subst h;simp
 |a::l,j+1,s,x,h=>by
   have z:=zjp (l:=l) (j:=j) (s:=s) (x:=x) (by simpa using h);simp;refine(z.append_left a).trans ?_;rw[<-b9,<-b9];exact List.perm_append_comm.append_right _
def ztf(a b:ei):cutD (a++b) none (some (a.length:Int))=a:=by
 unfold cutD;rw[HT.sIx_none,HT.sIx_nat];simp
def zod(a b:ei):cutD (a++b) (some (a.length:Int)) none=b:=by
 unfold cutD;rw[HT.sIx_none,HT.sIx_nat];simp
variable{ar:Nat}{e':DE0}
def yj{z:ei}(h:ds.length=ar)(I:g (jd n ds)=some (.rf z,e')):runF n ar g ds=some z:=by
 unfold runF;rw[if_pos h,I]
theorem ztg(ss:ey)(I:ss.length<=1000):y9 [ssL ss]=some (ss.map λs=>D.lst (s.map sD)):=by
 have c:=ko (te:=fLst (gs n4 (bw (fVar 0) (fNil)))) (base:=[]) (λs:ew=>D.lst (s.map sD)) (λs:ew=>D.lst (s.map sD)) ss λs _=>⟨_,by simp;rfl⟩;have z:Few ss.length:=few (by lia);refine yj (e':=[some (.sh (ssL ss))]) rfl ?_;show za [some (.sh (.lst (ss.map λs:ew=>D.lst (s.map sD))))]=_;simp[za,iq,z,c];rfl
theorem zhm(ss:ey)(S:ss.length<=1000)(J:∀s∈ss,s.length<=1000):zch [ssL ss,ssL ss]=some (.bl true):=by
 obtain⟨e',h1,v2,rfl⟩:=nj (i:=2) (g:=zbu) (λk e=>∃v2,e=[some (.sh (ssL ss)),some (.sh (ssL ss)),v2]) (rngD 0 ss.length) [some (.sh (ssL ss)),some (.sh (ssL ss)),none] ⟨none,rfl⟩ (by
  rintro k d e hd ⟨v2,rfl⟩;obtain⟨rfl,I⟩:=ng hd;have L:atI (ss.map λs=>D.lst (s.map sD)) (k:Int)=some (.lst (ss[k].map sD)):=jz (λs:ew=>D.lst (s.map sD)) (by simp[I]);have R:=zjm (λs:Sk=>[s.1,s.2.1,s.2.2]) ss[k] (J _ (ig I)) (λ_ _=>by simp);have z:wd [.lst (ss[k].map sD),.lst (ss[k].map sD)]=some (.bl true):=R;exact⟨[some (.sh (ssL ss)),some (.sh (ssL ss)),some (.sh (.int (0+k)))],by simp[zbu,ssL,L,z],_,rfl⟩)
 have hi:=l5 ss.length (by lia);refine jt (e':=[some (.sh (ssL ss)),some (.sh (ssL ss)),v2]) rfl ?_;show zcg [some (.sh (ssL ss)),some (.sh (ssL ss)),none]=_;unfold ssL at h1 ⊢;simp[zcg,hi,h1]
def hT:ey->Bk
 | []=>(0,1,-1) |r::_=>blk r
def kD(b:Bk):D:=.lst [.int b.1,.int b.2.1,.int b.2.2]
variable{r:ew}{q:b5}
theorem zwl{b q:ew}(h1:gt (blk r) (blk b))(h2:gt (blk r) (blk q)):gt (blk r) (blk (b++q)):=by
 have h1:lss b*hrs r<lss r*hrs b:=h1;have h2:lss q*hrs r<lss r*hrs q:=h2;show lss (b++q)*hrs r<lss r*hrs (b++q);rw[md,kn,gi,fq]
 lia
theorem zq4{r:ew}(pr:0<hrs r):∀(rest:ey) (q:ew),(∀b∈rest,gt (blk r) (blk b))->(∀b∈rest,Good b)->(∀b∈rest,∀x∈b,gg x)->q <+: rest.flatten->q≠[]->gt (blk r) (blk q)
 | [],q,_,_,_,hq,ne=>by simp at hq;exact absurd hq ne |b::rest,q,hd,hg,hs,hq,ne=>by
   have D:=hg b (by simp);have I:=hs b (by simp);rcases uv hq with hq | ⟨q',rfl,hq'⟩
   ·have sq:∀x∈q,gg x:=λx L=>I x (hq.subset L)
    refine wv pr (mv b I D.ne) (mv q sq ne) (hd b (by simp)) ?_;have:=D.beg q hq;show ¬(lss b*hrs q<lss q*hrs b)
    lia
   ·by_cases J:q'=[]
    ·subst J
     rw[ca];exact hd b (by simp)
    ·exact zwl (hd b (by simp)) (zq4 pr rest q' (λc z=>hd c (by simp[z])) (λc z=>hg c (by simp[z])) (λc z=>hs c (by simp[z])) hq' J)
def zih(z:k<s.length):hrs (s.take (k+1))=hrs (s.take k)+s[k].2.1/\lss (s.take (k+1))=lss (s.take k)+s[k].2.2:=by
 rw[List.take_succ_eq_append_getElem z,kn,md];simp[hrs,lss]
theorem zth(z:∀x∈s,gg x)(I:s.length<=14)(k:Nat):0<=hrs (s.take k)/\hrs (s.take k)<=840/\0<=lss (s.take k)/\lss (s.take k)<=1400:=by
 have:=qq (s.take k) λx D=>z x (j6 D);have h2:(s.take k).length<=14:=by rw[dn];lia
 lia
theorem zti(J:ey)(hd:J.Pairwise λu b=>gt (blk u) (blk b))(F:∀r∈J,Good r)(a:∀x∈J.flatten,gg x)(G:J.flatten.length<=14):vi [.lst (J.flatten.map sD)]=some (kD (hT J)):=by
 cases J with
 |nil=>simp[vi,runD,vj,jd,hT,kD,l5 0 (by lia),rngD,forL,show iR1 [.int 0]=some (rngD 0 0) from l5 0 (by lia)] |cons r rest =>
   have m:(r::rest).flatten=r++rest.flatten:=bx ..;rw[m] at a G ⊢;have n:=F r (by simp);have H:∀x∈r,gg x:=λx o=>a x (by simp[o]);have pr:=mv r H n.ne;have Q:=qq r H;have p:=(fc.mp hd).1;generalize V:r++rest.flatten=s at *;have t:r.length<=s.length:=by rw[<-V];simp
   have tk:∀k,k<=r.length->s.take k <+: r:=λk c=>by
    rw[<-V,im c];exact List.take_prefix _ _
   obtain⟨e',h1,T,f,rfl,L,R⟩:=nj (i:=4) (g:=td) (λk e=>∃(b:Bk) (f:ep),e=[some (.sh (.lst (s.map sD))),some (.sh (kD b)),some (.sh (.int (hrs (s.take k)))),some (.sh (.int (lss (s.take k)))),f] /\
     (k<r.length->b=(0,1,-1)\/∃q,q <+: r/\b=blk q)/\(r.length<=k->b=blk r)) (rngD 0 s.length)
    [some (.sh (.lst (s.map sD))),some (.sh (kD (0,1,-1))),some (.sh (.int 0)),some (.sh (.int 0)),none] ⟨(0,1,-1),none,by simp[hrs,lss],λ_=>.inl rfl,λh=>absurd (List.length_eq_zero_iff.mp (Nat.le_zero.mp h)) n.ne⟩ (by
     rintro k d e v ⟨b,f,rfl,L,R⟩;obtain⟨rfl,c⟩:=ng v;obtain⟨j,l⟩:=zih c;have W:=zth a G (k+1);have K:atI (s.map sD) (0+(k:Int))=some (sD s[k]):=by rw[eg];exact jz sD (by simp[c])
     have D:js (hrs (s.take (k+1))):=ku (by lia);have I:js (lss (s.take (k+1))):=ku (by lia);have M:dIx (sD s[k]) (.int 1)=some (.int s[k].2.1):=rfl;have N:dIx (sD s[k]) (.int 2)=some (.int s[k].2.2):=rfl;have w:td [some (.sh (.lst (s.map sD))),some (.sh (kD b)),some (.sh (.int (hrs (s.take k)))),some (.sh (.int (lss (s.take k)))),some (.sh (.int (0+(k:Int))))] =
       some (.nx,[some (.sh (.lst (s.map sD))),some (.sh (kD (if b.2.2*hrs (s.take (k+1))<=lss (s.take (k+1))*b.2.1 then blk (s.take (k+1)) else b))),some (.sh (.int (hrs (s.take (k+1))))),some (.sh (.int (lss (s.take (k+1))))),some (.sh (.int (0+(k:Int))))]):=by
      have Z:((s.take (k+1)).length:Int)=0+(k:Int)+1:=by rw[dn];lia
      by_cases Y:b.2.2*hrs (s.take (k+1))<=lss (s.take (k+1))*b.2.1
      ·rw[if_pos Y,show blk (s.take (k+1))=(0+(k:Int)+1,hrs (s.take (k+1)),lss (s.take (k+1))) by unfold blk;rw[Z]]
       rw[j] at D;rw[l] at I;rw[j,l] at Y ⊢;simp only[td,kD,sSeq,sSet,sIf,sNil,fBin,fVar,fIxV,ixSl,fC,fTst,fLst,gk,bw,fNil,ah,af,ab,aq,aw,ay,K,M,N,gn,o3,p8,oa I,x9 D,dGe,decide_eq_true Y,if_true,av,cw,show(0+1+1+1<=64)=True by simp]
      ·rw[if_neg Y]
       rw[j] at D;rw[l] at I;rw[j,l] at Y ⊢;simp only[td,kD,sSeq,sSet,sIf,sNil,fBin,fVar,fIxV,ixSl,fC,fTst,fLst,gk,bw,fNil,ah,af,ab,aq,aw,ay,K,M,N,gn,o3,p8,oa I,x9 D,dGe,decide_eq_false Y,cq,if_false]
     refine⟨_,w,_,_,rfl,λS=>?_,λO=>?_⟩
     ·split
      ·exact .inr ⟨_,tk (k+1) (by lia),rfl⟩
      ·exact L (by lia)
     ·by_cases y:r.length<=k
      ·have U:=R y
       subst U;rw[if_neg];have A:s.take (k+1)=r++rest.flatten.take (k+1-r.length):=by
        rw[<-V,List.take_append,g9 (by lia)]
       have B:(rest.flatten.take (k+1-r.length))≠[]:=by
        intro z;have:=congrArg List.length z;rw[dn] at this;have P:s.length=r.length+rest.flatten.length:=by rw[<-V,aj]
        simp only[cw] at this
        lia
       have S:=zq4 pr rest _ p (λb U=>F b (by simp[U])) (λb U x o=>a x (by rw[<-V];exact bn _ (cg.mpr ⟨b,U,o⟩))) (List.take_prefix (k+1-r.length) rest.flatten) B;rw[A,kn,md];have S:lss (rest.flatten.take (k+1-r.length))*hrs r<lss r*hrs (rest.flatten.take (k+1-r.length)):=S;show ¬(lss r*(hrs r+hrs _)<=(lss r+lss _)*hrs r);rw[fq,gi]
       lia
      ·have C:k+1=r.length:=by lia
       have A:s.take (k+1)=r:=by rw[C,<-V];exact j4
       rw[A,if_pos];rcases L (by lia) with rfl | ⟨q,B,rfl⟩
       ·show -1*hrs r<=lss r*1
        lia
       ·exact n.beg q B)
   rw[np,jg] at h1;have U:=R (by rw[np];exact t);subst U;have hi:iR1 [.int (s.length:Int)]=some (rngD 0 s.length):=l5 s.length (by lia);refine jt (e':=[some (.sh (.lst (s.map sD))),some (.sh (kD (blk r))),some (.sh (.int (hrs s))),some (.sh (.int (lss s))),f]) rfl ?_;show vj [some (.sh (.lst (s.map sD))),none,none,none,none]=_;have E:kD (0,1,-1)=.lst [.int 0,.int 1,.int (-1)]:=rfl;rw[E] at h1;simp[vj,hi,h1];rfl
def yi(h:r∈ofS ts j):(j+1,r)∈ts:=by
 obtain⟨t,z,rfl⟩:=bi.mp h;obtain⟨h1,h2⟩:=fz.mp z;have:t.1=j+1:=by simpa using h2
 rw[<-this];exact h1
theorem zwm(h:ts.Pairwise bef):(ofS ts j).Pairwise λu b=>gt (blk u) (blk b):=by
 unfold ofS;rw[i9,List.pairwise_filter];refine h.imp λ{a b} hab ha hb=>?_;rcases hab with z |z
 ·exact z
 ·have h1:a.1=j+1:=by simpa using ha
  have h2:b.1=j+1:=by simpa using hb
  lia
def kt(n:Nat)(ts:ez):List Bk:=(List.range n).map λj=>hT (ofS ts j)
def yy(h:j<n):(kt n ts)[j]?=some (hT (ofS ts j)):=by simp[kt,h]
theorem u3(ok:TurnsOk (g5 n (t::ts)) (t::ts)):hT (ofS (t::ts) (t.1-1))=blk t.2:=by
 have h1:=(ok.lo t (by simp)).1;rw[sx t ts (t.1-1) (by lia)];rfl
theorem zq5(ok:TurnsOk (g5 n (t::ts)) (t::ts))(D:∀x∈(g5 n (t::ts)).flatten,gg x)(j:Nat) :
  ¬gt (hT (ofS (t::ts) j)) (blk t.2)/\(j<t.1-1->gt (blk t.2) (hT (ofS (t::ts) j))):=by
 have pt:=ok.pos D t (by simp);have st:=qq t.2 (ok.sk D t (by simp));cases h:ofS (t::ts) j with
 |nil =>
   have g:gt (blk t.2) (0,1,-1):=by
    show -1*hrs t.2<lss t.2*1
    lia
   exact⟨pq g,λ_=>g⟩
 |cons r rest =>
   have hm:(j+1,r)∈t::ts:=yi (by rw[h];simp);rcases b8.mp hm with e |hm
   ·subst e
    exact⟨λz=>pq z z,λz=>by simp at z⟩
   ·have I:=(fc.mp ok.srt).1 _ hm
    rcases I with z | ⟨z,z'⟩
    ·exact⟨pq z,λ_=>z⟩
    ·exact⟨z,λw=>by simp at z';lia⟩
def zmj(n:Nat)(ts:ez):(g5 n ts).map (λs=>D.lst (s.map sD))=(List.range n).map λj=>D.lst ((ofS ts j).flatten.map sD):=by
 unfold g5;rw[dm];rfl
def zmk(h:j<n):∀x∈(ofS ts j).flatten,x∈(g5 n ts).flatten:=λx z =>
 cg.mpr ⟨_,bq (ox (ts:=ts) h),z⟩
def zoe(h:j<n):(ofS ts j).flatten.length<=(g5 n ts).flatten.length :=
 (cf (bq (ox (ts:=ts) h))).length_le
theorem zwn(ok:TurnsOk (g5 n ts) ts)(z:∀x∈(g5 n ts).flatten,gg x)(D:(g5 n ts).flatten.length<=14)(j:Nat):SmB (hT (ofS ts j)):=by
 cases h:ofS ts j with
 |nil=>exact⟨ku (by decide),ku (by decide)⟩ |cons r rest=>exact ok.sm z (by lia) (j+1,r) (yi (by rw[h];simp))
def zof(H:List Bk)(J L v2:ep)(k p:Nat)(bk z:Bk)(Y:H[k]?=some bk)(Z:H[p]?=some z)(sk:SmB bk)(sp:SmB z) :
  qv [J,L,v2,some (.sh (.lst (H.map kD))),some (.sh (.int (p:Int))),some (.sh (.int (0+(k:Int))))] =
   some (.nx,[J,L,v2,some (.sh (.lst (H.map kD))),some (.sh (.int ((if gt bk z then k else p:Nat):Int))),some (.sh (.int (0+(k:Int))))]):=by
 rw[eg];have R:atI (H.map kD) (k:Int)=some (kD bk):=jz kD Y;have S:atI (H.map kD) (p:Int)=some (kD z):=jz kD Z;have U:∀b:Bk,dIx (kD b) (.int 1)=some (.int b.2.1):=λ_=>rfl;have V:∀b:Bk,dIx (kD b) (.int 2)=some (.int b.2.2):=λ_=>rfl;by_cases I:gt bk z
 ·have D:z.2.2*bk.2.1<bk.2.2*z.2.1:=I
  rw[if_pos I];simp only[qv,sIf,sSet,sNil,fTst,fBin,fIxV,ixSl,fVar,fC,ah,af,ab,aq,aw,ay,R,S,U,V,oa sk.2,oa sp.2,dGt,decide_eq_true D,if_true]
 ·have D:¬z.2.2*bk.2.1<bk.2.2*z.2.1:=I
  rw[if_neg I];simp only[qv,sIf,sSet,sNil,fTst,fBin,fIxV,ixSl,fVar,fC,ah,af,ab,aq,aw,ay,R,S,U,V,oa sk.2,oa sp.2,dGt,decide_eq_false D,cq,if_false]
theorem ztj(ok:TurnsOk (g5 n (t::ts)) (t::ts))(U:∀x∈(g5 n (t::ts)).flatten,gg x)(c:(g5 n (t::ts)).flatten.length<=14)(R S v2 L:ep) :
  ∃I,forL 5 qv (rngD 0 n) [R,S,v2,some (.sh (.lst ((kt n (t::ts)).map kD))),some (.sh (.int 0)),L] =
   some (.nx,[R,S,v2,some (.sh (.lst ((kt n (t::ts)).map kD))),some (.sh (.int ((t.1-1:Nat):Int))),I]):=by
 have lo:=ok.lo t (by simp);rw[lq] at lo;have V:t.1-1<n:=by lia
 obtain⟨e',h1,p,I,rfl,_,J,D⟩:=nj (i:=5) (g:=qv) (λk e=>∃(p:Nat) (L:ep),e=[R,S,v2,some (.sh (.lst ((kt n (t::ts)).map kD))),some (.sh (.int (p:Int))),L]/\p<n/\(k<=t.1-1->p<=t.1-1/\(p<k\/p=0))/\(t.1-1<k->p=t.1-1))
  (rngD 0 n) [R,S,v2,some (.sh (.lst ((kt n (t::ts)).map kD))),some (.sh (.int 0)),L] ⟨0,L,rfl,by lia,λ_=>⟨eh _,.inr rfl⟩,λh=>absurd h (Nat.not_lt_zero _)⟩ (by
    rintro k d e Y ⟨p,L,rfl,hpn,J,D⟩;obtain⟨rfl,f⟩:=ng Y;have body:=zof (kt n (t::ts)) R S v2 k p _ _ (yy f) (yy hpn) (zwn ok U c k) (zwn ok U c p);refine⟨_,body,_,_,rfl,?_,λj=>?_,λZ=>?_⟩
    ·split <;> lia
    ·have:=J (by lia)
     split
     ·exact⟨by lia,.inl (by lia)⟩
     ·exact⟨this.1,by lia⟩
    ·rcases Nat.lt_or_eq_of_le (Nat.le_of_lt_succ Z) with hlt' |heq
     ·have a:=D hlt'
      subst a;rw[u3 ok,if_neg (zq5 ok U k).1]
     ·have:=J (by lia)
      subst heq;rw[u3 ok];by_cases b:p=t.1-1
      ·subst b
       rw[u3 ok,if_neg (λz=>pq z z)]
      ·rw[if_pos ((zq5 ok U p).2 (by lia))])
 rw[np] at D;have a:=D V;subst a;exact⟨I,h1⟩
noncomputable def zld:FT:=fTst (fBin dGt (en bSum (bw (fLst (iq (fiV 1) [] fYes (gw 0))) (fNil))) (fC (.int 0)))
theorem zml(ok:TurnsOk (g5 n (t::ts)) (t::ts))(d:∀x∈(g5 n (t::ts)).flatten,gg x)(e:(g5 n (t::ts)).flatten.length<=14)(C:n<=1000)(S g h f:ep)(M:ei)(E:M.length<=1000) :
  ∃i k U,vo [S,some (.ow ((g5 n (t::ts)).map λs=>D.lst (s.map sD))),some (.ow M),g,h,f]=some (.nx,[S,some (.ow ((g5 n ts).map λs=>D.lst (s.map sD))),some (.ow (M++[tnD t])),i,k,U]):=by
 have lo:=ok.lo t (by simp);rw[lq] at lo;have c:=ko (te:=en vi (bw (fVar 0) (fNil))) (base:=[]) (λj:Nat=>D.lst ((ofS (t::ts) j).flatten.map sD)) (λj:Nat=>kD (hT (ofS (t::ts) j))) (List.range n) (λj R=>by
  have R:j<n:=cx.mp R;have l:=zti (ofS (t::ts) j) (zwm ok.srt) (λr m=>ok.good _ (yi m)) (λx o=>d x (zmk R x o)) (bh (zoe R) e);refine⟨[some (.sh (.lst ((ofS (t::ts) j).flatten.map sD)))],?_⟩;simp only[en,bw,fVar,fNil,ah,ab,l,aq])
 have p:(List.range n).map (λj:Nat=>kD (hT (ofS (t::ts) j)))=(kt n (t::ts)).map kD:=by unfold kt;rw[dm];rfl
 rw[p,<-zmj] at c;obtain⟨U,q⟩:=ztj ok d e S (some (.ow ((g5 n (t::ts)).map λs=>D.lst (s.map sD)))) (some (.ow M)) f;have V:atI ((kt n (t::ts)).map kD) ((t.1-1:Nat):Int)=some (kD (blk t.2)):=by
  rw[<-u3 ok];exact jz kD (yy (by lia))
 have J:=zmi (ts:=ts) lo.1 lo.2;have L:=zkg (ts:=ts) lo.1 lo.2;have Y:atI ((g5 n (t::ts)).map λs=>D.lst (s.map sD)) ((t.1-1:Nat):Int)=some (.lst ((t.2++(ofS ts (t.1-1)).flatten).map sD)):=jz (λs:ew=>D.lst (s.map sD)) J;have z:=zod (t.2.map sD) ((ofS ts (t.1-1)).flatten.map sD);rw[<-b7,ac] at z;have Z:ixN ((g5 n (t::ts)).map λs=>D.lst (s.map sD)).length ((t.1-1:Nat):Int)=some (t.1-1):=by
  rw[pv (by lia) (by rw[ac,lq];lia)];congr 1
 have I:((g5 n (t::ts)).map λs=>D.lst (s.map sD)).set (t.1-1) (.lst ((ofS ts (t.1-1)).flatten.map sD))=(g5 n ts).map λs=>D.lst (s.map sD):=by
  rw[L,List.map_set]
 have u:Few ((g5 n (t::ts)).map λs=>D.lst (s.map sD)).length:=few (by rw[ac,lq];lia);have a:Few (M.length+1):=few (by lia);have hi:iR1 [.int (((kt n (t::ts)).map kD).length:Int)]=some (rngD 0 n):=by
  rw[ac,show(kt n (t::ts)).length=n by simp[kt]];exact l5 n (by lia)
 have v:((t.1-1:Nat):Int)+1=(t.1:Int):=by lia
 generalize ((kt n (t::ts)).map kD)=HL at *;generalize w:((t.1-1:Nat):Int)=pp at *;have y:dIx (kD (blk t.2)) (.int 0)=some (.int (t.2.length:Int)):=rfl;have A:dIx (kD (blk t.2)) (.int 1)=some (.int (hrs t.2)):=rfl;have B:dIx (kD (blk t.2)) (.int 2)=some (.int (lss t.2)):=rfl;have b:D.tup [.int (t.1:Int),.int (t.2.length:Int),.int (hrs t.2),.int (lss t.2)]=tnD t:=rfl;refine⟨some (.sh (.lst HL)),some (.sh (.int pp)),U,?_⟩;simp only[vo,sSeq,sSet,sFor,jj,zq0,zvx,fLst,iq,fiV,gs,bw,fNil,gw,fC,kv,o4,fTup,fBin,gn,fIxV,ixSl,fVar,fSl,fO0,fO1,ah,af,ab,aq,aw,ay,di,u,a,if_true,c,hi,q,V,y,A,B,v,b,Y,z,Z,I,av,cw,show(0+1+1+1+1<=64)=True by simp]
theorem zhd{n:Nat}(q:n<=1000)(R:ep):∀(ts:ez) (z:Nat) (S U V:ep) (M:ei),ts.length<z->M.length+ts.length<=1000->TurnsOk (g5 n ts) ts->(∀x∈(g5 n ts).flatten,gg x)->(g5 n ts).flatten.length<=14 ->
  ∃Z b d g,j9 zld vo z [R,some (.ow ((g5 n ts).map λs=>D.lst (s.map sD))),some (.ow M),S,U,V]=some (.nx,[R,Z,some (.ow (M++ts.map tnD)),b,d,g])
 |_,0,_,_,_,_,h,_,_,_,_=>by lia |ts,f+1,S,U,V,M,h,hM,ok,hg,hl=>by
   have c:=ko (te:=gw 0) (base:=[]) (λs:ew=>D.lst (s.map sD)) (λs:ew=>D.int (s.length:Int)) (g5 n ts) λs _=>⟨_,by simp;rfl⟩;have r:=q0 (λs:ew=>(s.length:Int)) (g5 n ts);have v:Few ((g5 n ts).map λs=>D.lst (s.map sD)).length:=few (by rw[ac,lq];lia);have Y:((g5 n ts).map λs:ew=>(s.length:Int)).sum=((ts.map (·.2)).flatten.length:Int):=by
    have e:∀l:ey,(l.map λs:ew=>(s.length:Int)).sum=(l.flatten.length:Int):=λl=>by
     induction l with
     |nil=>rfl |cons a l i=>rw[bo,dw,i,bx,aj];lia
    rw[e,ok.perm.length_eq]
   rw[Y] at r;have w:zld [R,some (.ow ((g5 n ts).map λs=>D.lst (s.map sD))),some (.ow M),S,U,V]=some (decide (0<((ts.map (·.2)).flatten.length:Int)),[R,some (.ow ((g5 n ts).map λs=>D.lst (s.map sD))),some (.ow M),S,U,V]):=by
    unfold zld;generalize ((g5 n ts).map λs=>D.lst (s.map sD))=L at *;simp[iq,fiV,v,c,r]
   unfold j9;rw[w,ab];dsimp only;cases ts with
   |nil =>
     rw[if_neg (by simp)];exact⟨some (.ow ((g5 n []).map λs=>D.lst (s.map sD))),S,U,V,by rw[di,ca]⟩
   |cons t ts =>
     have u:0<t.2.length:=gq.mpr (ok.good t (by simp)).ne;rw[if_pos (by simp[decide_eq_true_eq];lia)];obtain⟨b,d,g,J⟩:=zml ok hg hl q R S U V M (by simp at hM;lia);rw[J,ab];dsimp only;have j:=ok.tail;have lo:=ok.lo t (by simp);rw[lq] at lo;have I:(t.2++(g5 n ts).flatten).Perm (g5 n (t::ts)).flatten:=by
      rw[zoc lo.1 lo.2];exact(zjp (ox (by lia))).symm
     have k:=I.length_eq;rw[aj] at k;obtain⟨Z,m,o,p,i⟩:=zhd q R ts f b d g (M++[tnD t]) (by simp at h;lia) (by simp at hM ⊢;lia) j (λx y=>hg x (I.mem_iff.mp (bn _ y))) (by lia);exact⟨Z,m,o,p,by rw[i];simp⟩
theorem zqg(ok:TurnsOk ss ts)(I:∀x∈ss.flatten,gg x)(J:ss.flatten.length<=14)(a:ss.length<=900):zl [ssL ss]=some (.lst (ts.map tnD)):=by
 have R:=ok.len;have z:=ok.left;have c:=ko (te:=fLst (gs n4 (bw (fVar 0) (fNil)))) (base:=[]) (λs:ew=>D.lst (s.map sD)) (λs:ew=>D.lst (s.map sD)) ss λs _=>⟨_,by simp;rfl⟩;have S:Few (ss.map λs=>D.lst (s.map sD)).length:=few (by rw[ac];lia);obtain⟨U,V,Y,Z,h⟩:=zhd (n:=ss.length) (by lia) (some (.sh (ssL ss))) ts 10000 none none none [] (by lia) (by simp;lia) (by rw[z];exact ok) (by rw[z];exact I) (by rw[z];exact J);rw[z,m4] at h;refine jt (e':=[some (.sh (ssL ss)),U,some (.sh (.lst (ts.map tnD))),V,Y,Z]) rfl ?_;show zm [some (.sh (.lst (ss.map λs=>D.lst (s.map sD)))),none,none,none,none,none]=_;unfold zld ssL at h;unfold ssL;generalize (ss.map λs=>D.lst (s.map sD))=L at *;simp[zm,iq,S,c,h]
def ip(ts:ez):b5:=(ts.map λt=>List.replicate t.2.length t.1).flatten
def iD(ns:b5):ei:=ns.map λn:Nat=>D.int (n:Int)
def ni(a b:ez):ip (a++b)=ip a++ip b:=by simp[ip]
def pz(t:Tn):ip [t]=List.replicate t.2.length t.1:=by simp[ip]
def zjq(ts:ez):(ip ts).length=(ts.map (·.2)).flatten.length:=by
 induction ts with
 |nil=>rfl |cons t ts ih =>
   rw[show t::ts=[t]++ts from rfl,ni,pz,aj,ff,ih];simp
def zog(d:D)(k:Nat):(List.replicate k [d]).flatten=List.replicate k d:=by simp_all
def zq6(a b:b5):iD (a++b)=iD a++iD b:=by simp[iD]
def zq7(k a:Nat):iD (List.replicate k a)=List.replicate k (.int (a:Int)):=by simp[iD]
def zq8(a:b5):(iD a).length=a.length:=by simp[iD]
theorem bndN(k:Nat)(h:k<=1000000):Bnd (-(2 ^ 62)) (2 ^ 62) (k:Int):=⟨by lia,by lia⟩
theorem ztk(ok:TurnsOk ss ts)(L:∀x∈ss.flatten,gg x)(J:ss.flatten.length<=14)(R:ss.length<=900):zka [ssL ss]=some (iD (ip ts)):=by
 have S:=zqg ok L J R;have z:(ip ts).length<=14:=by rw[zjq,ok.perm.length_eq];exact J
 obtain⟨e',h1,v2,rfl⟩:=p0 (i:=2) (g:=zz) tnD (λp e=>∃v2,e=[some (.sh (ssL ss)),some (.ow (iD (ip p))),v2]) ts
  [some (.sh (ssL ss)),some (.ow []),none] ⟨none,rfl⟩ (by
   rintro p t q e I ⟨v2,rfl⟩;have U:(ip p).length+t.2.length<=14:=by
    rw[I,ni,show t::q=[t]++q from rfl,ni,pz] at z;simp at z
    lia
   have V:Few (1*t.2.length):=few (by lia);have Y:Few ((iD (ip p)).length+(List.replicate t.2.length (D.int (t.1:Int))).length):=few (by rw[zq8,ff];lia);have Z:=bndN t.2.length (by lia);have a:iD (ip p)++List.replicate t.2.length (D.int (t.1:Int))=iD (ip (p++[t])):=by rw[ni,pz,zq6,zq7]
   refine⟨[some (.sh (ssL ss)),some (.ow (iD (ip (p++[t])))),some (.sh (tnD t))],?_,_,rfl⟩;rw[<-a];unfold tnD;simp only[zz,sOwn,fCat,fVar,fLst,fRep,gk,bw,fIxV,ixSl,fC,fNil,ah,af,ab,aq,aw,ay,zxx,zxy,av,cw,show(0+1<=64)=True by simp,if_true,fo,iu,V,Z,and_self,zog,Y])
 refine yj (e':=[some (.sh (ssL ss)),some (.ow (iD (ip ts))),v2]) rfl ?_;show y8 [some (.sh (ssL ss)),none,none]=_;simp[y8,S,h1]
theorem zii(ok:TurnsOk ss ts)(R:tf [ssL ss]=some (.lst (ts.map tnD)))(V:ss.flatten.length<=14):zn [ssL ss]=some (iD (ip ts)):=by
 have z:(ip ts).length<=14:=by rw[zjq,ok.perm.length_eq];exact V
 obtain⟨e',h1,v2,I,J,L,rfl⟩:=sg (ix:=[2,3,4,5]) (g:=vp) (λt:Tn=>[D.int (t.1:Int),.int (t.2.length:Int),.int (hrs t.2),.int (lss t.2)]) (λp e=>∃v2 I J L,e=[some (.sh (ssL ss)),some (.ow (iD (ip p))),v2,I,J,L]) ts
  [some (.sh (ssL ss)),some (.ow []),none,none,none,none] ⟨none,none,none,none,rfl⟩ (λ_ _=>rfl) (by
   rintro p t q e S ⟨v2,I,J,L,rfl⟩;have Y:(ip p).length+t.2.length<=14:=by
    rw[S,ni,show t::q=[t]++q from rfl,ni,pz] at z;simp at z
    lia
   have Z:Few (1*t.2.length):=few (by lia);have a:Few ((iD (ip p)).length+(List.replicate t.2.length (D.int (t.1:Int))).length):=few (by rw[zq8,ff];lia);have b:=bndN t.2.length (by lia);have c:iD (ip p)++List.replicate t.2.length (D.int (t.1:Int))=iD (ip (p++[t])):=by rw[ni,pz,zq6,zq7]
   refine⟨[some (.sh (ssL ss)),some (.ow (iD (ip (p++[t])))),some (.sh (.int (t.1:Int))),some (.sh (.int (t.2.length:Int))),some (.sh (.int (hrs t.2))),some (.sh (.int (lss t.2)))],?_,_,_,_,_,rfl⟩;rw[<-c];simp only[oh,vp,jj,qr,uh,fRep,gk,bw,fVar,fNil,ah,af,ab,aq,aw,ay,av,cw,show(0+1<=64)=True by simp,if_true,fo,iu,Z,b,and_self,zog,a])
 refine yj (e':=[some (.sh (ssL ss)),some (.ow (iD (ip ts))),v2,I,J,L]) rfl ?_;show zo [some (.sh (ssL ss)),none,none,none,none,none]=_;have U:forU [2,3,4,5] vp (ts.map tnD) [some (.sh (ssL ss)),some (.ow []),none,none,none,none]=_:=h1;simp[zo,R,U]
structure Whole (ss:ey) (os:b5):Prop where
 lo:∀a∈os,1<=a/\a<=ss.length
 cnt:∀(j:Nat) (s:ew),ss[j]?=some s->os.count (j+1)=s.length
theorem zoh(m:Nat):∀n:Nat,((List.range n).map λj=>if j=m then 1 else 0).sum=if m<n then 1 else 0
 |0=>by simp |n+1=>by
   rw[fj,b7,List.sum_append,zoh m n];simp only[bo,di,dw,List.sum_nil];by_cases h1:m<n
   ·rw[if_pos h1,if_neg (by lia),if_pos (by lia)];rfl
   ·rw[if_neg h1]
    by_cases h2:n=m
    ·rw[if_pos h2,if_pos (by lia)];rfl
    ·rw[if_neg h2,if_neg (by lia)];rfl
theorem zoi{α:Type}(f g:α->Nat):∀l:List α,(l.map λx=>f x+g x).sum=(l.map f).sum+(l.map g).sum
 | []=>rfl |x::l=>by
   simp[dw,zoi f g l]
   lia
theorem zoj(n:Nat):∀(p:b5),(∀a∈p,1<=a/\a<=n)->((List.range n).map λj=>p.count (j+1)).sum=p.length
 | [],_=>by
   have:∀l:b5,(l.map λj=>([]:b5).count (j+1)).sum=0:=λl=>by
    induction l with
    |nil=>rfl |cons a l z=>rw[bo,dw,z];rfl
   rw[this];rfl
 |a::p,h=>by
   have z:=zoj n p λb I=>h b (ak _ I);have J:=h a au;have e:(λj=>(a::p).count (j+1))=λj=>p.count (j+1)+if j=a-1 then 1 else 0:=by
    funext j;rw[jo];by_cases D:j=a-1
    ·rw[if_pos D,if_pos (by simp;lia)]
    ·rw[if_neg D,if_neg (by simp;lia)]
   rw[e,zoi,z,zoh,if_pos (by lia),av]
def zqh(ss:ey):((List.range ss.length).map λj=>(ss.getD j []).length).sum=ss.flatten.length:=by
 have:(List.range ss.length).map (λj=>(ss.getD j []).length)=ss.map List.length:=by
  apply gf;intro i;by_cases h:i<ss.length
  ·simp[h]
  ·simp[h]
 rw[this,d6]
variable{os:b5}
def Whole.len(h:Whole ss os):os.length=ss.flatten.length:=by
 rw[<-zoj ss.length os h.lo,<-zqh];congr 1;apply eo;intro j z;have z:j<ss.length:=cx.mp z;rw[h.cnt j ss[j] (by simp[z])];simp[z]
def uu{P:List α->Prop}(z:P [])(D:∀p a,P p->P (p++[a]))(p:List α):P p:=by
 have:∀l:List α,P l.reverse:=λl=>by
  induction l with
  |nil=>exact z |cons a l ih=>rw[i8];exact D _ _ ih
 rw[<-j5 p];exact this _
def k8(ss:ey)(a c:Nat):Sk:=(ss.getD (a-1) []).getD c (0,0,0)
def tk(ss:ey)(os:b5):ew:=(List.range os.length).map λi=>k8 ss (os.getD i 0) ((os.take i).count (os.getD i 0))
theorem pi(ss:ey)(p:b5)(a:Nat):tk ss (p++[a])=tk ss p++[k8 ss a (p.count a)]:=by
 unfold tk;rw[aj,cr,fj,b7];congr 1
 ·apply eo
  intro i hi;have hi:i<p.length:=cx.mp hi;have z:(p++[a]).getD i 0=p.getD i 0:=by
   rw[ae,ae,ce hi]
  rw[z,im (by lia)]
 ·have z:(p++[a]).getD p.length 0=a:=by simp
  simp only[bo,di];rw[z,j4]
def xu(ss:ey)(os:b5):(tk ss os).length=os.length:=by simp[tk]
theorem Whole.at{ss:ey}{p q:b5}{a:Nat}(h:Whole ss (p++a::q)):∃s,ss[a-1]?=some s/\p.count a<s.length/\s[p.count a]?=some (k8 ss a (p.count a))/\1<=a/\a<=ss.length:=by
 obtain⟨h1,h2⟩:=h.lo a (by simp);have z:a-1<ss.length:=by lia
 have I:=h.cnt (a-1) ss[a-1] (by simp[z]);rw[show a-1+1=a by lia,ia,fm] at I;have D:p.count a<ss[a-1].length:=by lia
 refine⟨ss[a-1],by simp[z],D,?_,h1,h2⟩;unfold k8;simp[z,D]
def Whole.mem(h:Whole ss os):∀(p:b5),∀(q:b5),os=p++q->∀x∈tk ss p,x∈ss.flatten:=by
 apply uu
 ·intro q _ x hx
  simp[tk] at hx
 ·intro p a I q D x hx
  rw[pi] at hx;rcases dh.mp hx with hx |hx
  ·exact I (a::q) (by rw[D];simp) x hx
  ·rw[D,b9,du] at h
   obtain⟨s,J,L,z,_⟩:=h.at;have e:x=k8 ss a (p.count a):=by simpa using hx
   subst e;exact cg.mpr ⟨s,bq J,bq z⟩
def Whole.sk(h:Whole ss os):∀x∈tk ss os,x∈ss.flatten:=h.mem os [] (by simp)
theorem zle(ts:ez)(j:Nat):(ip ts).count (j+1)=(ofS ts j).flatten.length:=by
 induction ts with
 |nil=>simp[ip,ofS] |cons t ts ih =>
   rw[show t::ts=[t]++ts from rfl,ni,pz,ia,ih];by_cases e:t.1=j+1
   ·rw[du,sx t ts j e,bx,aj,e,List.count_replicate_self]
   ·rw[du,y7 t ts j e,List.count_replicate,if_neg (by simpa using e)]
    lia
def TurnsOk.whole(ok:TurnsOk ss ts):Whole ss (ip ts):=by
 refine⟨λa D=>?_,λj s I=>?_⟩
 ·obtain⟨l,J,z⟩:=cg.mp D
  obtain⟨t,L,rfl⟩:=bi.mp J;rw[List.eq_of_mem_replicate z];exact ok.lo t L
 ·rw[zle,ok.part j s I]
def cntD(n:Nat)(f:Nat->Int):ei:=(List.range n).map λj=>D.int (f j)
def yr(n:Nat)(f:Nat->Int):(cntD n f).length=n:=by simp[cntD]
def zol(n:Nat)(f:Nat->Int)(j:Nat)(h:j<n):atI (cntD n f) (j:Int)=some (.int (f j)):=jz (λj:Nat=>D.int (f j)) (by simp[h])
def zlf(n:Nat)(f g:Nat->Int)(j:Nat)(h:∀i,i<n->i≠j->g i=f i):(cntD n f).set j (.int (g j))=cntD n g:=by
 apply gf;intro i;unfold cntD;rw[ja];by_cases hi:i<n
 ·by_cases e:j=i
  ·subst e;simp[hi]
  ·rw[if_neg e]
   simp[hi,h i hi (Ne.symm e)]
 ·by_cases e:j=i
  ·subst e;simp[hi]
  ·rw[if_neg e];simp[hi]
def zlg(n:Nat)(f:Nat->Int)(j:Nat)(h:j<n):(cntD n f)[j]?=some (.int (f j)):=by simp[cntD,h]
def yh(h:ds.length=ar)(z:g (jd n ds)=some (.nx,e')):runD n ar g ds=some .non:=by
 unfold runD;rw[if_pos h,z]
theorem zhn(J:1<=a)(R:a<=ss.length):zx [ssL ss,.int (a:Int)]=some .non:=by
 have z:decide ((a:Int)<1)=false:=by simp;lia
 have I:decide (((ss.map λs=>D.lst (s.map sD)).length:Int)<(a:Int))=false:=by rw[ac];simp;lia
 refine yh (e':=[some (.sh (ssL ss)),some (.sh (.int (a:Int)))]) rfl ?_;show zy [some (.sh (ssL ss)),some (.sh (.int (a:Int)))]=_;unfold ssL;generalize (ss.map λs=>D.lst (s.map sD))=L at *;simp only[zy,sIf,sNil,fOr,fTst,fBin,fVar,fC,gw,dLt,dGt,ah,af,ab,aq,aw,ay,z,I,cq,if_false]
def lenF(ss:ey)(p:b5)(j:Nat):Int:=((ss.getD j []).length:Int)-(p.count (j+1):Int)
def zqi(ss:ey):(ss.map λs=>D.int (s.length:Int))=cntD ss.length (lenF ss []):=by
 apply gf;intro i;unfold cntD lenF;by_cases h:i<ss.length
 ·simp[h]
 ·simp[h]
def zom(ss:ey):jy fYes (gw 0) [] (ss.map λs=>D.lst (s.map sD))=some (cntD ss.length (lenF ss [])):=by
 rw[<-zqi];exact ko (te:=gw 0) (base:=[]) (λs:ew=>D.lst (s.map sD)) (λs:ew=>D.int (s.length:Int)) ss λs _=>⟨_,by simp;rfl⟩
def sy(p:b5)(a b:Nat):(p++[a]).count b=p.count b+if a=b then 1 else 0:=by
 by_cases h:a=b
 ·simp[h]
 ·simp[h]
theorem zon(ss:ey)(p:b5)(a:Nat)(h1:1<=a):lenF ss (p++[a]) (a-1)=lenF ss p (a-1)-1/\∀i,i≠a-1->lenF ss (p++[a]) i=lenF ss p i:=by
 unfold lenF;refine⟨?_,λi hi=>?_⟩
 ·rw[sy,if_pos (by lia)];lia
 ·rw[sy,if_neg (by lia)];lia
def zmm(h:Whole ss os)(j:Nat)(z:j<ss.length):lenF ss os j=0:=by
 unfold lenF;rw[h.cnt j ss[j] (by simp[z])];simp[z]
variable{p:b5}
theorem zqj(h:Whole ss (p++a::q)):0<lenF ss p (a-1):=by
 obtain⟨s,z,D,_,h1,h2⟩:=h.at;unfold lenF;rw[show a-1+1=a by lia,ae,z];simp
 lia
def zoo(n:Nat)(f:Nat->Int):ints? (cntD n f)=some ((List.range n).map f):=by
 have:cntD n f=((List.range n).map f).map D.int:=by unfold cntD;rw[dm];rfl
 rw[this,ints_of]
theorem zlh(f:Nat->Int):∀n:Nat,(∀j,j<n->f j=0)->((List.range n).map f).sum=0
 |0,_=>rfl |n+1,h=>by
   rw[fj,b7,List.sum_append,zlh f n λj z=>h j (by lia)];simp[h n (by lia)]
theorem zho(h:Whole ss os)(r:ss.length<=1000):zu [ssL ss,.lst (iD os)]=some .non:=by
 obtain⟨e',h1,S,rfl⟩:=p0 (i:=3) (g:=vz) (λa:Nat=>D.int (a:Int)) (λp e=>∃S,e=[some (.sh (ssL ss)),some (.sh (.lst (iD os))),some (.ow (cntD ss.length (lenF ss p))),S]) os
  [some (.sh (ssL ss)),some (.sh (.lst (iD os))),some (.ow (cntD ss.length (lenF ss []))),none] ⟨none,rfl⟩ (by
   rintro p a q e U ⟨S,rfl⟩;have b:Whole ss (p++a::q):=by rw[<-U];exact h
   obtain⟨s,t,c,_,d,u⟩:=b.at;have v:=zqj b;obtain⟨f,k⟩:=zon ss p a d;have V:(a:Int)-1=((a-1:Nat):Int):=by lia
   have Y:=zol ss.length (lenF ss p) (a-1) (by lia);have J:=zlg ss.length (lenF ss p) (a-1) (by lia);have z:=zlf ss.length (lenF ss p) (lenF ss (p++[a])) (a-1) (λi _ hi=>k i hi);rw[f] at z;have l:decide (lenF ss p (a-1)=0)=false:=by simp;lia
   have Z:a-1<(cntD ss.length (lenF ss p)).length:=by rw[yr];lia
   have m:(0:Int)<=((a-1:Nat):Int):=by lia
   refine⟨[some (.sh (ssL ss)),some (.sh (.lst (iD os))),some (.ow (cntD ss.length (lenF ss (p++[a])))),some (.sh (.int (a:Int)))],?_,_,rfl⟩;rw[<-z];generalize cntD ss.length (lenF ss p)=L at *;simp only[vz,sSeq,sIf,sNil,og,t6,fTst,fBin,fIxV,ixSl,fVar,fC,dSub,dEq,ah,af,ab,aq,aw,ay,V,Y,l,cq,if_false,m,if_true,fo,J,Z])
 have V:((List.range ss.length).map (lenF ss os)).sum=0:=zlh _ _ λj n=>zmm h j n;have I:=zoo ss.length (lenF ss os);have c:=zom ss;have o:Few (ss.map λs=>D.lst (s.map sD)).length:=few (by rw[ac];lia);refine yh (e':=[some (.sh (ssL ss)),some (.sh (.lst (iD os))),some (.ow (cntD ss.length (lenF ss os))),S]) rfl ?_;show zw [some (.sh (ssL ss)),some (.sh (.lst (iD os))),none,none]=_;have R:forL 3 vz (iD os) [some (.sh (ssL ss)),some (.sh (.lst (iD os))),some (.ow (cntD ss.length (lenF ss []))),none]=_:=h1;unfold ssL at R ⊢;generalize iD os=O at *;generalize (ss.map λs=>D.lst (s.map sD))=L at *;simp[zw,iq,ug,o,c,R,I,V,Int.lt_irrefl]
def zhp(h:Whole ss os)(J:ss.length<=1000):zr [ssL ss,.lst (iD os)]=some .non:=by
 obtain⟨e',h1,v2,rfl⟩:=p0 (i:=2) (g:=vy) (λa:Nat=>D.int (a:Int)) (λp e=>∃v2,e=[some (.sh (ssL ss)),some (.sh (.lst (iD os))),v2]) os
  [some (.sh (ssL ss)),some (.sh (.lst (iD os))),none] ⟨none,rfl⟩ (by
   rintro p a q e z ⟨v2,rfl⟩;obtain⟨L,R⟩:=h.lo a (by rw[z];simp);have S:=zhn (ss:=ss) L R;simp[vy,S])
 have h2:=zho h J;refine yh (e':=[some (.sh (ssL ss)),some (.sh (.lst (iD os))),v2]) rfl ?_;show zt [some (.sh (ssL ss)),some (.sh (.lst (iD os))),none]=_;have I:forL 2 vy (iD os) [some (.sh (ssL ss)),some (.sh (.lst (iD os))),none]=_:=h1;generalize iD os=O at *;simp[zt,I,h2]
def cntF(p:b5)(j:Nat):Int:=(p.count (j+1):Int)
theorem zop(p:b5)(a:Nat)(h1:1<=a):cntF (p++[a]) (a-1)=cntF p (a-1)+1/\∀i,i≠a-1->cntF (p++[a]) i=cntF p i:=by
 unfold cntF;refine⟨?_,λi hi=>?_⟩
 ·rw[sy,if_pos (by lia)];lia
 ·rw[sy,if_neg (by lia)];lia
def zmn(ss:ey):jy fYes (fC (.int 0)) [] (ss.map λs=>D.lst (s.map sD))=some (cntD ss.length (cntF [])):=by
 rw[ko (te:=fC (.int 0)) (base:=[]) (λs:ew=>D.lst (s.map sD)) (λs:ew=>D.int 0) ss λs _=>⟨_,by simp;rfl⟩];congr 1;apply gf;intro i;unfold cntD cntF;by_cases h:i<ss.length
 ·simp[h]
 ·simp[h]
theorem zwo(J:Whole ss (p++a::q)) :
  (a:Int)-1=((a-1:Nat):Int)/\atI (cntD ss.length (cntF p)) ((a-1:Nat):Int)=some (.int (p.count a:Int))/\(cntD ss.length (cntF p))[a-1]?=some (.int (p.count a:Int)) /\
    (cntD ss.length (cntF p)).set (a-1) (.int ((p.count a:Int)+1))=cntD ss.length (cntF (p++[a]))/\a-1<(cntD ss.length (cntF p)).length/\ixN (cntD ss.length (cntF p)).length ((a-1:Nat):Int)=some (a-1) /\
    ∃s:ew,atI (ss.map λs=>D.lst (s.map sD)) ((a-1:Nat):Int)=some (.lst (s.map sD))/\atI (s.map sD) (p.count a:Int)=some (sD (k8 ss a (p.count a))):=by
 obtain⟨s,L,Y,R,S,Z⟩:=J.at;obtain⟨U,V⟩:=zop p a S;have I:cntF p (a-1)=(p.count a:Int):=by unfold cntF;rw[show a-1+1=a by lia]
 have z:=zlf ss.length (cntF p) (cntF (p++[a])) (a-1) (λi _ hi=>V i hi);rw[U,I] at z;refine⟨by lia,?_,?_,z,by rw[yr];lia,?_,s,jz (λs:ew=>D.lst (s.map sD)) L,jz sD R⟩
 ·rw[zol _ _ _ (by lia),I]
 ·rw[zlg _ _ _ (by lia),I]
 ·rw[pv (by lia) (by rw[yr];lia)]
  congr 1
theorem zfb(h:Whole ss os)(j:ss.length<=1000)(f:os.length<=1000):vg [ssL ss,.lst (iD os)]=some (.lst ((tk ss os).map sD)):=by
 obtain⟨e',h1,V,rfl⟩:=p0 (i:=4) (g:=vx) (λa:Nat=>D.int (a:Int)) (λp e=>∃V,e=[some (.sh (ssL ss)),some (.sh (.lst (iD os))),some (.ow (cntD ss.length (cntF p))),some (.ow ((tk ss p).map sD)),V]) os
  [some (.sh (ssL ss)),some (.sh (.lst (iD os))),some (.ow (cntD ss.length (cntF []))),some (.ow []),none] ⟨none,rfl⟩ (by
   rintro p a q e z ⟨V,rfl⟩;have k:Whole ss (p++a::q):=by rw[<-z];exact h
   obtain⟨l,Y,I,J,Z,m,s,b,c⟩:=zwo k;have d:Few (((tk ss p).map sD).length+1):=few (by rw[ac,xu];rw[z] at f;simp at f;lia);have n:(0:Int)<=((a-1:Nat):Int):=by lia
   have o:dIx (.lst (s.map sD)) (.int (p.count a:Int))=some (sD (k8 ss a (p.count a))):=c;refine⟨[some (.sh (ssL ss)),some (.sh (.lst (iD os))),some (.ow (cntD ss.length (cntF (p++[a])))),some (.ow ((tk ss (p++[a])).map sD)),some (.sh (.int (a:Int)))],?_,_,rfl⟩;rw[<-J,pi,b7,bo,di];unfold ssL;generalize (tk ss p).map sD=M at *;generalize s.map sD=S at *;simp only[vx,sSeq,jj,og,t6,kv,o4,fBin,fIxV,ixSl,fVar,fC,dSub,gn,ah,af,ab,aq,aw,ay,l,Y,b,o,d,n,if_true,fo,I,Z])
 have R:=zhp h j;have r:=zmn ss;have d:Few (ss.map λs=>D.lst (s.map sD)).length:=few (by rw[ac];lia);refine jt (e':=[some (.sh (ssL ss)),some (.sh (.lst (iD os))),some (.ow (cntD ss.length (cntF os))),some (.sh (.lst ((tk ss os).map sD))),V]) rfl ?_;show zp [some (.sh (ssL ss)),some (.sh (.lst (iD os))),none,none,none]=_;have U:forL 4 vx (iD os) [some (.sh (ssL ss)),some (.sh (.lst (iD os))),some (.ow (cntD ss.length (cntF []))),some (.ow []),none]=_:=h1;unfold ssL at U R ⊢;generalize (ss.map λs=>D.lst (s.map sD))=L at *;simp[zp,iq,R,d,r,U]
def k5(h:Int):List (Nat×Sk)->List cc
 | []=>[] |x::r=>[x.2.1,(x.1:Int),h,h+x.2.2.1]::k5 (h+x.2.2.1) r
def lg(x:Sk)(r:ew):hrs (x::r)=x.2.1+hrs r:=rfl
def mw(x:Sk)(r:ew):lss (x::r)=x.2.2+lss r:=rfl
def zh2(x:Nat×Sk):∀(p:List (Nat×Sk)) (h:Int),k5 h (p++[x])=k5 h p++[[x.2.1,(x.1:Int),h+hrs (p.map (·.2)),h+hrs (p.map (·.2))+x.2.2.1]]
 | [],h=>by simp[k5,hrs] |y::p,h=>by
   rw[e9,k5,k5,zh2 x p,bo,lg];rw[<-ki];rfl
def f6(h:Int):ew->Int
 | []=>0 |x::r=>x.2.2*(h+x.2.1)+f6 (h+x.2.1) r
theorem zd(x:Sk):∀(p:ew) (h:Int),f6 h (p++[x])=f6 h p+x.2.2*(h+hrs p+x.2.1)
 | [],h=>by simp[f6,hrs] |y::p,h=>by
   rw[e9,f6,f6,zd x p,lg,<-ki h]
   lia
def zli(x:Sk):tq [sD x]=some (.int x.2.1):=rfl
def ztl(x:Sk):vk [sD x]=some (.int x.2.2):=rfl
def zoq(x:Sk):zfv [sD x]=some (.int x.1):=rfl
def zjr:∀(p:List (Nat×Sk)) (h:Int),(k5 h p).length=p.length
 | [],_=>rfl |x::p,h=>by rw[k5,av,av,zjr p]
theorem zqk(h:Whole ss os)(S:ss.length<=1000)(b:os.length<=900):zjl [ssL ss,.lst (iD os)]=some (.lst ((k5 0 (os.zip (tk ss os))).map iT)):=by
 have U:=zfb h S (by lia);obtain⟨e',h1,z,I,J,L,rfl,rfl⟩:=sg (ix:=[4,5]) (g:=zdr) (λx:Nat×Sk=>[D.int (x.1:Int),sD x.2])
  (λp e=>∃z I J L,e=[some (.sh (ssL ss)),some (.sh (.lst (iD os))),some (.ow ((k5 0 p).map iT)),z,I,J,L]/\z=some (.sh (.int (hrs (p.map (·.2)))))) (os.zip (tk ss os))
  [some (.sh (ssL ss)),some (.sh (.lst (iD os))),some (.ow []),some (.sh (.int 0)),none,none,none] ⟨_,none,none,none,rfl,rfl⟩ (λ_ _=>rfl) (by
   rintro p x q e R ⟨z,I,J,L,rfl,rfl⟩;have V:Few (((k5 0 p).map iT).length+1):=few (by
    rw[ac,zjr];have:=congrArg List.length R;simp[List.length_zip] at this
    lia)
   have Y:iT [x.2.1,(x.1:Int),0+hrs (p.map (·.2)),0+hrs (p.map (·.2))+x.2.2.1]=.tup [.int x.2.1,.int (x.1:Int),.int (hrs (p.map (·.2))),.int (hrs (p.map (·.2))+x.2.2.1)]:=by simp[iT]
   have Z:hrs ((p++[x]).map (·.2))=hrs (p.map (·.2))+x.2.2.1:=by rw[b7,kn];simp[hrs]
   rw[zh2,b7,bo,di,Y,Z];generalize (k5 0 p).map iT=M at *;simp[oh,zdr,zli,zoq,V])
 refine jt (e':=[some (.sh (ssL ss)),some (.sh (.lst (iD os))),some (.sh (.lst ((k5 0 (os.zip (tk ss os))).map iT))),some (.sh (.int (hrs ((os.zip (tk ss os)).map (·.2))))),I,J,L]) rfl ?_;show zk [some (.sh (ssL ss)),some (.sh (.lst (iD os))),none,none,none,none,none]=_;have a:iZp [.lst (iD os),.lst ((tk ss os).map sD)]=some ((os.zip (tk ss os)).map λx=>D.tup [D.int (x.1:Int),sD x.2]):=by
  show some (zipD (iD os) ((tk ss os).map sD))=_;unfold iD;rw[zlc]
 simp only[zk,sSeq,sOwn,sSet,l4,sRet,gk,fNil,fC,gs,en,bw,fVar,ah,af,ab,aq,aw,ay,cw,eh,if_true,U,a,h1]
theorem zfx(h:Whole ss os)(I:∀x∈ss.flatten,gg x)(J:ss.length<=1000)(U:os.length<=900):tp [ssL ss,.lst (iD os)]=some (.int (f6 0 (tk ss os))):=by
 have L:=zfb h J (by lia);obtain⟨e',h1,z,rfl⟩:=p0 (i:=4) (g:=zds) sD (λp e=>∃z,e=[some (.sh (ssL ss)),some (.sh (.lst (iD os))),some (.sh (.int (f6 0 p))),some (.sh (.int (hrs p))),z]) (tk ss os)
  [some (.sh (ssL ss)),some (.sh (.lst (iD os))),some (.sh (.int 0)),some (.sh (.int 0)),none] ⟨none,rfl⟩ (by
   rintro p x q e D ⟨z,rfl⟩;obtain⟨_,_,_,_,V,Y⟩:=I x (h.sk x (by rw[D];simp));have sm:js x.2.2:=ku (by lia);have R:hrs (p++[x])=hrs p+x.2.1:=by rw[kn];simp[hrs]
   have S:f6 0 (p++[x])=f6 0 p+x.2.2*(hrs p+x.2.1):=by rw[zd,eg]
   rw[R,S];simp[zds,zli,ztl,oa sm])
 refine jt (e':=[some (.sh (ssL ss)),some (.sh (.lst (iD os))),some (.sh (.int (f6 0 (tk ss os)))),some (.sh (.int (hrs (tk ss os)))),z]) rfl ?_;show zj [some (.sh (ssL ss)),some (.sh (.lst (iD os))),none,none,none]=_;simp[zj,L,h1]
theorem zil(ok:TurnsOk ss ts)(D:tf [ssL ss]=some (.lst (ts.map tnD)))(L:∀x∈ss.flatten,gg x)(R:ss.length<=1000)(S:ss.flatten.length<=14):zh [ssL ss]=some (.int (f6 0 (tk ss (ip ts)))):=by
 have z:=zii ok D S;have J:=ok.whole;have I:=zfx J L R (by rw[J.len];lia);refine jt (e':=[some (.sh (ssL ss))]) rfl ?_;show zi [some (.sh (ssL ss))]=_;simp[zi,z,I]
def ztm(p q:ez)(j:Nat):ofS (p++q) j=ofS p j++ofS q j:=by unfold ofS;rw[gz,b7]
theorem zmo{α:Type}(f g:α->Int):∀l:List α,(l.map λx=>f x+g x).sum=(l.map f).sum+(l.map g).sum
 | []=>rfl |x::l=>by simp[dw,zmo f g l];lia
def zlj{α:Type}:∀l:List α,(l.map λ_=>(0:Int)).sum=0
 | []=>rfl |_::l=>by simp only[bo,dw,zlj l];rfl
def r3(r:cc):Int:=r.getD 2 0
def srt(r:cc):cc:=[if r.getD 0 0<=r.getD 1 0 then r.getD 0 0 else r.getD 1 0,if r.getD 0 0<=r.getD 1 0 then r.getD 1 0 else r.getD 0 0]
def sumI(f:α->Int)(l:List α):Int:=(l.map f).sum
def zlk(f:α->Int):sumI f []=0:=rfl
def yx(f:α->Int)(x:α)(l:List α):sumI f (x::l)=f x+sumI f l:=by simp[sumI]
def zll(f:α->Int)(l z:List α):sumI f (l++z)=sumI f l+sumI f z:=by simp[sumI]
def zh3{f g:α->Int}{l:List α}(h:∀x∈l,f x=g x):sumI f l=sumI g l:=by
 unfold sumI;rw[eo h]
theorem zor{α:Type}(f:α->Int):∀l:List α,(∀x∈l,0<=f x)->0<=sumI f l
 | [],_=>g6 0 |x::l,h=>by
   rw[yx];have:=h x au;have:=zor f l λy z=>h y (ak _ z)
   lia
def PS(w C:Sk->Int)(P:Int):ew->Int
 |x::y::r=>-(P+w x)*(C y-C x-y.2.1)+PS w C (P+w x) (y::r) |_=>0
def zwp(L:Whole ss os)(R:ss[j]?=some s):s.Sublist (tk ss os):=by
 have I:∀p:b5,∀q,os=p++q->(s.take (p.count (j+1))).Sublist (tk ss p):=by
  apply uu
  ·intro q _;simp
  ·intro p a D q J
   rw[b9,du] at J;have D:=D (a::q) J;rw[pi,sy];by_cases e:a=j+1
   ·subst e
    rw[if_pos rfl];obtain⟨s',z,U,S,_,_⟩:=(J ▸ L).at;rw[Nat.add_sub_cancel,R] at z;cases z;have:s.take (p.count (j+1)+1)=s.take (p.count (j+1))++[k8 ss (j+1) (p.count (j+1))]:=by
     rw[oz,S];rfl
    rw[this];exact List.Sublist.append D (List.Sublist.refl _)
   ·rw[if_neg e,Nat.add_zero]
    exact D.trans (List.sublist_append_left _ _)
 have:=I os [] (by simp);rw[L.cnt j s R,jg] at this;exact this
theorem zyb(ok:TurnsOk ss ts)(I:Whole ss os)(z:t∈ts):t.2.Sublist (tk ss os):=by
 obtain⟨h1,h2⟩:=ok.lo t z;have D:ss[t.1-1]?=some ss[t.1-1]:=ai (by lia);refine List.Sublist.trans ?_ (zwp I D);rw[<-ok.part _ _ D];apply cf;refine bi.mpr ⟨t,fz.mpr ⟨z,?_⟩,rfl⟩;simp
 lia
theorem zq9{ss:ey}{a:Nat}{s:ew}(D:ss[a-1]?=some s)(p:b5):∀k:Nat,p.count a+k<=s.length->tk ss (p++List.replicate k a)=tk ss p++(s.drop (p.count a)).take k
 |0,_=>by simp |k+1,h=>by
   rw[List.replicate_succ',<-b9,pi,zq9 D p k (by lia),b9];have z:p.count a+k<s.length:=by lia
   rw[oz];unfold k8;rw[ae,ae,D];simp[z]
theorem ztn(ok:TurnsOk ss ts):tk ss (ip ts)=(ts.map (·.2)).flatten:=by
 have D:∀p:ez,∀q,ts=p++q->tk ss (ip p)=(p.map (·.2)).flatten:=by
  apply uu
  ·intro q _;rfl
  ·intro p t I q z
   rw[b9,du] at z;have I:=I (t::q) z;obtain⟨h1,h2⟩:=ok.lo t (by rw[z];simp);have R:ss[t.1-1]?=some ss[t.1-1]:=ai (by lia);have J:=ok.part _ _ R;rw[z,ztm,sx t q (t.1-1) (by lia),d7,bx] at J;have L:=zle p (t.1-1);rw[show t.1-1+1=t.1 by lia] at L;rw[ni,pz,zq9 R _ _ (by rw[L,<-J];simp),I,L,<-J];simp
 exact D ts [] (by simp)
theorem zto(l:ey):(l.map λs:ew=>(s.length:Int)).sum=(l.flatten.length:Int):=by
 induction l with
 |nil=>rfl |cons a l ih=>rw[bo,dw,ih,bx,aj];lia
theorem zos(ss:ey)(J:ss.length<=1000):vn [ssL ss]=some (.int (ss.flatten.length:Int)):=by
 have c:=ko (te:=gw 0) (base:=[]) (λs:ew=>D.lst (s.map sD)) (λs:ew=>D.int (s.length:Int)) ss λs _=>⟨_,by simp;rfl⟩;have z:=q0 (λs:ew=>(s.length:Int)) ss;have I:Few (ss.map λs=>D.lst (s.map sD)).length:=few (by rw[ac];lia);rw[zto] at z;refine jt (e':=[some (.sh (ssL ss))]) rfl ?_;show zdt [some (.sh (ssL ss))]=_;unfold ssL;generalize (ss.map λs=>D.lst (s.map sD))=L at *;simp[zdt,iq,I,c,z]
def zlm(l:ei)(k:Nat)(h:k<=l.length):cutD l none (some (k:Int))=l.take k:=by
 have:=ztf (l.take k) (l.drop k);rwa [ju,dn,Nat.min_eq_left h] at this
def zql(l:ei)(k:Nat)(h:k<=l.length):cutD l (some (k:Int)) none=l.drop k:=by
 have:=zod (l.take k) (l.drop k);rwa [ju,dn,Nat.min_eq_left h] at this
def zkk:FS:=sSeq (t9 3 (pf (fiS (fVar 0)) [] (gs n4 (bw (fVar 0) (fNil))))) (sSeq (sSet 4 (fC (.int 0))) (sSeq (sIf (fTst (fBin dGt (gw 1) (fC (.int 1)))) (sSet 4 (fBin dSub (fIxV 1 (fC (.int 1))) (fC (.int 1)))) (sNil)) (sSeq (sIf (fTst (fBin dEq (fIxV 1 (fC (.int 0))) (fC (.str "put")))) (sSeq (zwa 3 (fVar 4) (zv9 false (fCat (fLst (gk (bw (fTup (bw (fVar 2) (bw (fIxV 1 (fC (.int 2))) (bw (fIxV 1 (fC (.int 3))) (fNil))))) (fNil)))) (fIxV 3 (fVar 4))))) (sRet (fLst (gk (bw (fVar 3) (bw (fVar 2) (fNil))))))) (sNil)) (sSeq (sIf (fTst (fBin dEq (fIxV 1 (fC (.int 0))) (fC (.str "tell")))) (sSeq (sSet 5 (fFrz false (fBin dIx (fIxV 3 (fVar 4)) (fBin dSub (fIxV 1 (fC (.int 2))) (fC (.int 1)))))) (sSeq (zwb 3 (fVar 4) (fBin dSub (fIxV 1 (fC (.int 2))) (fC (.int 1))) (fTup (bw (fIxV 5 (fC (.int 0))) (bw (fIxV 5 (fC (.int 1))) (bw (fIxV 1 (fC (.int 3))) (fNil)))))) (sRet (fLst (gk (bw (fVar 3) (bw (fIxV 5 (fC (.int 2))) (fNil)))))))) (sNil)) (sSeq (sIf (fTst (fBin dEq (fIxV 1 (fC (.int 0))) (fC (.str "dry")))) (sSet 4 (fBin dSub (fBin dIx (fBin dIx (en zl (bw (fVar 0) (fNil))) (fC (.int 0))) (fC (.int 0))) (fC (.int 1)))) (sNil)) (sSeq (sSet 5 (fFrz false (fBin dIx (fIxV 3 (fVar 4)) (fC (.int 0))))) (sSeq (zwa 3 (fVar 4) (zv9 false (fSl (fIxV 3 (fVar 4)) (fO1 (fC (.int 1))) (fO0)))) (sRet (fLst (gk (bw (fVar 3) (bw (fVar 5) (fNil)))))))))))))
def zkl:ei->el:=runD 6 3 zkk
inductive Deed where
 |put (a h l:Int) |tell (a p l:Int) |go (a:Int) |dry
abbrev fh:=List Deed
def dD:Deed->D
 | .put a h l=>.tup [.str "put",.int a,.int h,.int l]
 | .tell a p l=>.tup [.str "tell",.int a,.int p,.int l]
 | .go a=>.tup [.str "go",.int a] | .dry=>.tup [.str "dry"]
def Deed.isPut:Deed->Bool | .put ..=>true |_=>false
abbrev Spn:=Int×Int×Int
abbrev fk:=List Spn
abbrev Hs:=ey×fk
def spL(sp:fk):D:=.lst (sp.map sD)
def stD(s:Hs):D:=.tup [ssL s.1,spL s.2]
abbrev kH:AK:=.ins false "House" zqa
def hP(k:fh)(s:List Hs):em:=[.o (k.map dD),.o (s.map stD)]
abbrev hA(k:fh)(s:List Hs):Ag:=(kH,hP k s)
theorem zot(xs:ei)(x:D):atI (xs++[x]) (-1)=some x:=by
 unfold atI ixN;rw[if_neg (by decide),if_pos (by simp;lia),show(-1+((xs++[x]).length:Int)).toNat=xs.length by simp;lia];simp
def hrOf(sp:fk):Int:=match sp.getLast? with |none=>0 |some x=>x.2.1
def zyc(k:fh):Int:=1+(k.filter Deed.isPut).length
def putX(ss:ey)(n:Nat)(a h l:Int):cm:=if a<1\/(ss.length:Int)<a then some "UnknownStack" else if h<1\/60<h then some "BadHours" else if l<0\/100<l then some "BadLoss" else if ss.flatten.length<14 then(if n<60 then none else some "DeedsFull") else some "HouseFull"
def newS(n:Nat):Hs:=(List.replicate n [],[])
def zwq:Int->fk->Prop
 |_,[]=>True |b,x::r=>x.1=b/\x.1<=x.2.1/\zwq x.2.1 r
def zwr:Int->fk->Int
 |b,[]=>b |_,x::r=>zwr x.2.1 r
def zyd(ss:ey)(n:Nat)(a m l:Int):cm:=if a<1\/(ss.length:Int)<a then some "UnknownStack" else if (ss.getD (a.toNat-1) []).length=0 then some "EmptyStack" else if m<1\/((ss.getD (a.toNat-1) []).length:Int)<m then some "UnknownPlace" else if l<0\/100<l then some "BadLoss" else if n<60 then none else some "DeedsFull"
def goX(ss:ey)(n:Nat)(a:Int):cm:=if a<1\/(ss.length:Int)<a then some "UnknownStack" else if (ss.getD (a.toNat-1) []).length=0 then some "EmptyStack" else if n<60 then none else some "DeedsFull"
def dryX(ss:ey)(n:Nat):cm:=if 0<ss.flatten.length then(if n<60 then none else some "DeedsFull") else some "NothingWaits"
inductive Cmd where
 |d (x:Deed) |back
def cmdX(ss:ey)(n:Nat):Cmd->cm
 | .d (.put a h l)=>putX ss n a h l
 | .d (.tell a m l)=>zyd ss n a m l
 | .d (.go a)=>goX ss n a | .d .dry=>dryX ss n | .back=>if n=0 then some "NothingDone" else none
section
variable {c p q:FT} {f g:FE} {u v w:FS} {e:DE0} {i:Nat} {d:D} {x y:Str} {A B:Prop} [Decidable A] [Decidable B] {a b:Int}
end
structure SI (n i:Nat) (s:Hs):Prop where
 len:s.1.length=n
 few:s.1.flatten.length<=14
 good:∀x∈s.1.flatten,gg x
 chain:zwq 0 s.2
 rate:∀x∈s.2,0<=x.2.2/\x.2.2<=100000
 sp:s.2.length<=i
 hour:zwr 0 s.2<=60*s.2.length
def Stp(k:fh)(s:Hs)(d:Deed)(s':Hs):Prop:=cmdX s.1 k.length (.d d)=none/\∃z,zkl [ssL s.1,dD d,.int (zyc k)]=some (.lst [ssL s'.1,z])/\match d with | .dry=>∃x:Sk,z=sD x/\s'.2=s.2++[(hrOf s.2,hrOf s.2+x.2.1,lss s.1.flatten)] |_=>s'.2=s.2
structure HI (n:Nat) (k:fh) (p:List Hs) (s:Hs):Prop where
 n5:n<=5
 k60:k.length<=60
 kp:p.length=k.length
 all:∀i t,(p++[s])[i]?=some t->SI n i t
 st0:(p++[s])[0]?=some (newS n)
 tr:∀i d t t',k[i]?=some d->(p++[s])[i]?=some t->(p++[s])[i+1]?=some t'->Stp (k.take i) t d t'
def flat(ts:ez):ew:=(ts.map (·.2)).flatten
abbrev Ent:=Nat×Sk
def col(c:Nat)(L:List Ent):ew:=(L.filter λe=>e.1==c).map (·.2)
def non(a:Nat)(L:List Ent):ew:=(L.filter λe=>!(e.1==a)).map (·.2)
def ot(c:Nat)(x:Sk)(L:List Ent):col c ((c,x)::L)=x::col c L:=by simp[col]
variable{d:Nat}
def nk(h:d≠c)(x:Sk)(L:List Ent):col c ((d,x)::L)=col c L:=by simp[col,h]
def y4(c:Nat)(x:Sk)(L:List Ent):non c ((c,x)::L)=non c L:=by simp[non]
def vc(h:d≠c)(x:Sk)(L:List Ent):non c ((d,x)::L)=x::non c L:=by simp[non,h]
def zou(c:Nat)(A B:List Ent):col c (A++B)=col c A++col c B:=by simp[col]
theorem zln(d:Int):∀(X:ew) (h:Int),f6 (h+d) X=f6 h X+d*lss X
 | [],h=>by simp[f6,lss] |x::X,h=>by
   rw[f6,f6,show h+d+x.2.1=h+x.2.1+d by lia,zln d X,mw];generalize f6 (h+x.2.1) X=c
   grind
def ph(h:Int)(X:ew):f6 h X=f6 0 X+h*lss X:=by
 have:=zln h X 0;rwa [eg] at this
def so:∀(A B:ew) (h:Int),f6 h (A++B)=f6 h A+f6 (h+hrs A) B
 | [],B,h=>by simp[f6,hrs] |x::A,B,h=>by
   rw[e9,f6,f6,so A B,lg,ki h,ki]
def rmv(a:Nat):Nat->List Ent->List Ent
 |0,L=>L |_+1,[]=>[] |n+1,e::L=>if e.1=a then rmv a n L else e::rmv a (n+1) L
def yg(a:Nat):∀(L:List Ent) (n:Nat),col a (rmv a n L)=(col a L).drop n
 | [],0=>rfl | [],n+1=>rfl |e::L,0=>rfl | (d,x)::L,n+1=>by
   by_cases h:d=a
   ·subst h
    rw[rmv,if_pos rfl,yg d L n,ot,List.drop_succ_cons]
   ·rw[rmv,if_neg h,nk h,nk h]
    exact yg a L (n+1)
def uk{a c:Nat}(z:c≠a):∀(L:List Ent) (n:Nat),col c (rmv a n L)=col c L
 | [],0=>rfl | [],n+1=>rfl |e::L,0=>rfl | (d,x)::L,n+1=>by
   by_cases h:d=a
   ·subst h
    rw[rmv,if_pos rfl,uk z L n,nk (Ne.symm z)]
   ·rw[rmv,if_neg h]
    by_cases hd:d=c
    ·subst hd;rw[ot,ot,uk z L (n+1)]
    ·rw[nk hd,nk hd,uk z L (n+1)]
theorem rq(a:Nat):∀(L:List Ent) (r:ew),(∃t,col a L=r++t)->lss (L.map (·.2))=lss r+lss ((rmv a r.length L).map (·.2))/\hrs (L.map (·.2))=hrs r+hrs ((rmv a r.length L).map (·.2))
 |L,[],_=>by cases L <;> simp[rmv,lss,hrs]
 | [],x::r,⟨t,ht⟩=>by simp[col] at ht | (d,y)::L,x::r,⟨t,ht⟩=>by
   by_cases h:d=a
   ·subst h
    rw[ot,e9] at ht;obtain⟨e,z⟩:=kh ht;subst e;obtain⟨h1,h2⟩:=rq d L r ⟨t,z⟩;rw[av,rmv,if_pos rfl,bo,mw,lg,mw,lg,h1,h2];exact⟨by lia,by lia⟩
   ·rw[nk h] at ht
    obtain⟨h1,h2⟩:=rq a L (x::r) ⟨t,ht⟩;rw[av] at h1 h2;rw[av,rmv,if_neg h,bo,bo,mw,lg,mw (r:=List.map _ _),lg (r:=List.map _ _),h1,h2];exact⟨by lia,by lia⟩
theorem wu(a:Nat)(W P:Int)(hP:0<P):∀(L:List Ent) (r:ew) (G:Int),(∃t,col a L=r++t)->(∀e∈L,0<=e.2.2.1)->(∀u t,r=u++t->0<=P*lss t-W*hrs t)->(∀q t,L=q++t->0<=G+(W*hrs (non a q)-P*lss (non a q))) ->
  0<=P*(f6 0 (L.map (·.2))-f6 0 (r++(rmv a r.length L).map (·.2)))+hrs r*G
 |L,[],G,_,_,_,_=>by cases L <;> simp[rmv,hrs]
 | [],x::r,G,⟨t,ht⟩,_,_,_=>by simp[col] at ht | (d,y)::L,x::r,G,⟨t,ht⟩,hx,hs,hG=>by
   have V:0<=G:=by
    have:=hG [] _ rfl;simpa[non,hrs,lss] using this
   have U:0<=y.2.1:=hx _ au;by_cases h:d=a
   ·subst h
    rw[ot,e9] at ht;obtain⟨e,I⟩:=kh ht;subst e;have J:=wu d W P hP L r G ⟨t,I⟩ (λz S=>hx z (ak _ S)) (λu v e=>hs (y::u) v (by rw[e];rfl)) (λq v e=>by
     have:=hG ((d,y)::q) v (by rw[e];rfl);rwa [y4] at this)
    have m:=j7 U V;have R:=(rq d L r ⟨t,I⟩).1;have Y:lss (r++(rmv d r.length L).map (·.2))=lss (L.map (·.2)):=by rw[md,R]
    rw[av,rmv,if_pos rfl,bo,e9,f6,f6,ph (0+y.2.1) (L.map (·.2)),ph (0+y.2.1) (r++(rmv d r.length L).map (·.2)),Y,lg];generalize f6 0 (L.map (·.2))=c1 at *;generalize f6 0 (r++(rmv d r.length L).map (·.2))=c2 at *;generalize lss (L.map (·.2))=c3 at *;have D:P*((d,y).2.2.2*(0+(d,y).2.2.1)+(c1+(0+y.2.1)*c3)-(y.2.2*(0+y.2.1)+(c2+(0+y.2.1)*c3)))+(y.2.1+hrs r)*G=(P*(c1-c2)+hrs r*G)+y.2.1*G:=by dsimp only;grind
    rw[D]
    lia
   ·rw[nk h] at ht
    have J:=wu a W P hP L (x::r) (G+(W*y.2.1-P*y.2.2)) ⟨t,ht⟩ (λz S=>hx z (ak _ S)) hs (λq v e=>by
     have:=hG ((d,y)::q) v (by rw[e];rfl);rw[vc h,lg,mw,fq,fq] at this
     lia)
    have R:=(rq a L (x::r) ⟨t,ht⟩).1;have Z:=hs [] (x::r) rfl;rw[av] at J R;rw[av,rmv,if_neg h,bo,bo];generalize x::r=b at *;rw[so] at J;rw[so,f6,f6,ph (0+_) (L.map (·.2)),R,ph (0+hrs b+_)];rw[ph (0+hrs b)] at J;generalize f6 0 (L.map (·.2))=c1 at *;generalize f6 0 b=c2 at *;generalize lss ((rmv a (r.length+1) L).map (·.2))=c3 at *;generalize f6 0 ((rmv a (r.length+1) L).map (·.2))=c4 at *;have m:=j7 U Z;generalize hrs b=hb1 at *;generalize lss b=lb at *;have D:P*((d,y).2.2.2*(0+(d,y).2.2.1)+(c1+(0+(d,y).2.2.1)*(lb+c3))-(c2+((d,y).2.2.2*(0+hb1+(d,y).2.2.1)+(c4+(0+hb1+(d,y).2.2.1)*c3))))+hb1*G=(P*(c1-(c2+(c4+(0+hb1)*c3)))+hb1*(G+(W*y.2.1-P*y.2.2)))+y.2.1*(P*lb-W*hb1):=by dsimp only;grind
    rw[D]
    lia
theorem zjs{a c:Nat}(D:c≠a):∀q:List Ent,hrs (non a q)=hrs (col c q)+hrs (non a (q.filter λe=>!(e.1==c)))/\lss (non a q)=lss (col c q)+lss (non a (q.filter λe=>!(e.1==c)))
 | []=>by simp[non,col,hrs,lss] | (d,y)::q=>by
   obtain⟨h1,h2⟩:=zjs D q;by_cases hd:d=c
   ·subst hd
    rw[vc D,ot,ji (by simp),lg,lg,mw,mw,h1,h2];exact⟨by lia,by lia⟩
   ·rw[nk hd,jh (by simp[hd])]
    by_cases z:d=a
    ·subst z
     rw[y4,y4];exact⟨h1,h2⟩
    ·rw[vc z,vc z,lg,lg,mw,mw,h1,h2]
     exact⟨by lia,by lia⟩
theorem zra(a:Nat)(W P:Int):∀(n:Nat) (q:List Ent),q.length<=n->(∀c,c≠a->0<=W*hrs (col c q)-P*lss (col c q))->0<=W*hrs (non a q)-P*lss (non a q)
 |0,q,hq,_=>by
   rw[mh (Nat.le_zero.mp hq)];simp[non,hrs,lss]
 |n+1,q,hq,h=>by
   by_cases D:∃e∈q,e.1≠a
   ·obtain⟨⟨c,y⟩,J,I⟩:=D
    have I:c≠a:=I;obtain⟨h1,h2⟩:=zjs I q;have L:(q.filter λe=>!(e.1==c)).length<q.length:=by
     rw[List.length_filter_lt_length_iff_exists];exact⟨_,J,by simp⟩
    have R:=zra a W P n (q.filter λe=>!(e.1==c)) (by lia) (λd hd=>by
     by_cases e:d=c
     ·subst e
      rw[show col d (q.filter λe=>!(e.1==d))=[] by unfold col;rw[List.filter_filter,d5,e8];intro z _;simp];simp[hrs,lss]
     ·rw[show col d (q.filter λe=>!(e.1==c))=col d q by
       unfold col;rw[List.filter_filter];congr 1;apply List.filter_congr;intro z _;by_cases D:z.1=d
       ·simp[D,e]
       ·simp[D]]
      exact h d hd)
    have S:=h c I;rw[h1,h2,fq,fq]
    lia
   ·have:non a q=[]:=by
     unfold non;rw[d5,e8];intro e J;have:e.1=a:=Classical.byContradiction λz=>D ⟨e,J,z⟩;simp[this]
    rw[this];simp[hrs,lss]
theorem zlp{b:ew}(D:0<hrs b):∀(bs:ey) (X:ew),(∀u∈bs,Good u/\(∀x∈u,gg x)/\lss u*hrs b<=lss b*hrs u)->X <+: bs.flatten->lss X*hrs b<=lss b*hrs X
 | [],X,_,h=>by
   rw[List.flatten_nil,List.prefix_nil] at h;subst h;simp[hrs,lss]
 |u::bs,X,hb,h=>by
   obtain⟨I,J,L⟩:=hb u au;rw[bx] at h;rcases uv h with z | ⟨t,e,ht⟩
   ·have h1:=I.beg X z
    have R:=mv u J I.ne;have S:0<=hrs X:=ul X λx U=>J x (z.subset U);have V:=ee h1 (Int.le_of_lt D);have Y:=ee L S;have Z:lss X*hrs b*hrs u<=lss b*hrs X*hrs u:=by
     rw[show lss X*hrs b*hrs u=lss X*hrs u*hrs b by grind,show lss b*hrs X*hrs u=lss b*hrs u*hrs X by grind];exact Int.le_trans V (by rw[show lss u*hrs X*hrs b=lss u*hrs b*hrs X by grind];exact Y)
    exact i4 Z R
   ·subst e
    have c:=zlp D bs t (λv a=>hb v (ak _ a)) ht;rw[md,kn,gi,fq]
    lia
def ofE(ts:ez)(c:Nat):ew:=((ts.filter λt=>t.1==c).map (·.2)).flatten
theorem opt:∀(ts:ez) (L:List Ent),ts.Pairwise bef->(∀t∈ts,Good t.2)->(∀t∈ts,∀x∈t.2,gg x)->(∀e∈L,gg e.2)->(∀c,col c L=ofE ts c)->f6 0 (flat ts)<=f6 0 (L.map (·.2))/\lss (flat ts)=lss (L.map (·.2))
 | [],L,_,_,_,_,h=>by
   cases L with
   |nil=>exact⟨g6 _,rfl⟩ |cons e L =>
     have:=h e.1;rw[show e=(e.1,e.2) from rfl,ot] at this;simp[ofE] at this
 | (a,b)::ts,L,srt,hg,hs,hL,h=>by
   have Y:=fc.mp srt;have Z:Good b:=hg (a,b) au;have g:∀x∈b,gg x:=hs (a,b) au;have R:=mv b g Z.ne;have S:col a L=b++ofE ts a:=by rw[h a];simp[ofE]
   have J:∀c,c≠a->col c L=ofE ts c:=λc U=>by rw[h c];simp[ofE,Ne.symm U]
   have V:∀e∈rmv a b.length L,gg e.2:=λe D=>by
    have:∀(L:List Ent) (n:Nat),∀e∈rmv a n L,e∈L:=λL=>by
     induction L with
     |nil=>intro n e D;cases n <;> simpa[rmv] using D
     |cons z L ih =>
       intro n e D;cases n with
       |zero=>exact D |succ n =>
         rw[rmv] at D;split at D
         ·exact ak _ (ih n e D)
         ·rcases b8.mp D with q |q
          ·rw[q];exact au
          ·exact ak _ (ih (n+1) e q)
    exact hL e (this _ _ _ D)
   obtain⟨r,d⟩:=opt ts (rmv a b.length L) Y.2 (λt I=>hg t (ak _ I)) (λt I=>hs t (ak _ I)) V (λc=>by
    by_cases e:c=a
    ·subst e;rw[yg,S,List.drop_left]
    ·rw[uk e,J c e])
   obtain⟨i,_⟩:=rq a L b ⟨_,S⟩;have j:=wu a (lss b) (hrs b) R L b 0 ⟨_,S⟩ (λe D=>by have:=hL e D;unfold gg at this;lia) (λu t e=>by
    have h1:=Z.beg u ⟨t,e.symm⟩;have s:lss b=lss u+lss t:=by rw[e,md]
    have v:hrs b=hrs u+hrs t:=by rw[e,kn]
    generalize lss b=lb at *;generalize hrs b=hb at *;rw[show lss t=lb-lss u by lia,show hrs t=hb-hrs u by lia,Int.mul_sub,Int.mul_sub,fx hb lb,fx hb]
    lia) (λq t e=>by
    rw[eg];refine zra a _ _ q.length q (bg _) λc U=>?_;have k:col c q <+: ofE ts c:=by rw[<-J c U,e,zou];exact List.prefix_append _ _
    have:=zlp R _ (col c q) (λu l=>by
     obtain⟨t,I,m⟩:=bi.mp l;have I:=(fz.mp I).1;subst m;refine⟨hg t (ak _ I),hs t (ak _ I),?_⟩;have o:=Y.1 t I;rcases o with z |z
     ·exact Int.le_of_lt z
     ·exact Int.not_lt.mp z.1) k
    rw[fx (hrs b)]
    lia)
   rw[Int.mul_zero,Int.add_zero] at j;have f:f6 0 (b++(rmv a b.length L).map (·.2))<=f6 0 (L.map (·.2)):=by
    by_cases z:f6 0 (b++(rmv a b.length L).map (·.2))<=f6 0 (L.map (·.2))
    ·exact z
    ·have:=Int.mul_neg_of_pos_of_neg R (show f6 0 (L.map (·.2))-f6 0 (b++(rmv a b.length L).map (·.2))<0 by lia)
     lia
   have p:flat ((a,b)::ts)=b++flat ts:=rfl;rw[p];refine⟨?_,by rw[md,i,d]⟩;rw[so,ph (0+hrs b)];rw[so,ph (0+hrs b)] at f;rw[<-d] at f
   lia
def zws(I:Whole ss os)(J:ss[j]?=some s):∀p q:b5,os=p++q->col (j+1) (p.zip (tk ss p))=s.take (p.count (j+1)):=by
 apply uu
 ·intro q _
  rfl
 ·intro p a L q z
  rw[b9,du] at z;have h1:=L (a::q) z;rw[pi,List.zip_append (by rw[xu]),zou,h1,ia,show List.zip [a] [k8 ss a (p.count a)]=[(a,k8 ss a (p.count a))] from rfl];by_cases e:a=j+1
  ·subst e
   obtain⟨s',D,S,R,_⟩:=Whole.at (p:=p) (q:=q) (a:=j+1) (Eq.subst (motive:=λo=>Whole ss o) z I);rw[Nat.add_sub_cancel,J] at D;cases D;rw[ot,show List.count (j+1) [j+1]=1 by simp,List.take_add_one,R];rfl
  ·rw[nk e,show List.count (j+1) [a]=0 by simp[List.count_singleton,e],Nat.add_zero]
   exact ca _
theorem least(ok:TurnsOk ss ts)(J:∀x∈ss.flatten,gg x)(z:Whole ss os):f6 0 (flat ts)<=f6 0 (tk ss os):=by
 have L:(os.zip (tk ss os)).map (·.2)=tk ss os:=by rw[lz];rw[xu];exact bg _
 have:=(opt ts (os.zip (tk ss os)) ok.srt ok.good (ok.sk J) (λe D=>J _ (z.sk _ (by rw[<-L];exact List.mem_map_of_mem D))) (λc=>by
  by_cases h:∃j s,c=j+1/\ss[j]?=some s
  ·obtain⟨j,s,e,I⟩:=h
   subst e;rw[zws z I os [] (ca _).symm,z.cnt j s I,jg];exact(ok.part j s I).symm
  ·have Y:c=0\/ss.length<c:=by
    cases c with
    |zero=>exact .inl rfl |succ j =>
      by_cases R:j<ss.length
      ·exact absurd ⟨j,ss[j],rfl,ai R⟩ h
      ·exact .inr (by lia)
   have S:col c (os.zip (tk ss os))=[]:=by
    unfold col;rw[d5,e8];intro e D;have:=z.lo e.1 (jm D).1;simp
    lia
   have U:ofE ts c=[]:=by
    unfold ofE;rw[e8.mpr λt V=>by have:=ok.lo t V;simp;lia];rfl
   rw[S,U])).1
 rwa [L] at this
def stk(ss:ey)(c:Nat):ew:=if c=0 then[] else ss.getD (c-1) []
def chg(a:Nat)(l:Int):Nat->List Ent->List Ent
 |_,[]=>[] |n,e::L=>if e.1=a then(match n with |0=>(e.1,(e.2.1,e.2.2.1,l))::L |n+1=>e::chg a l n L) else e::chg a l n L
variable{s:Int}
def stp_last{k:fh}{p:List Hs}{s s':Hs}{d:Deed}(hi:HI n k p s)(h1:HI n (k++[d]) (p++[s]) s'):Stp k s d s':=by
 have z:=h1.tr k.length d s s' (by simp) (by rw[<-hi.kp];simp) (by rw[<-hi.kp,show p.length+1=(p++[s]).length by simp,nz]);rwa [j4] at z
def hd(t:Tn):Int:=(t.2.headD (0,0,0)).1
theorem ztq{ts:List α}{p q:List (α×Nat)}{x:α×Nat}(h:ts.zipIdx 0=p++x::q):∃hi:p.length<ts.length,x=(ts[p.length],p.length):=by
 have e:(ts.zipIdx 0)[p.length]?=some x:=by rw[h];simp
 rw[List.getElem?_zipIdx] at e;have hi:p.length<ts.length:=by
  by_cases z:p.length<ts.length
  ·exact z
  ·rw[cu (by lia)] at e;cases e
 rw[ai hi] at e;refine⟨hi,?_⟩;simpa using(az e).symm
def beg(T:ew)(n:Int):Int:=hrs (T.takeWhile λx=>!(x.1==n))
abbrev Rn:=Bool×Int×Int×Int×Int
inductive Adds (N:Int):List Rn->Int->Prop
 |nil:Adds N [] 0
 |cons {r:Rn} {l:List Rn} {v V:Int}:N*r.2.2.2.1=v*r.2.2.2.2->Adds N l V->Adds N (r::l) (v+V)
def WOf(h w:b5):Prop:=(∀a∈w,1<=a/\a<=h.length)/\∀j,j<h.length->w.count (j+1)=h.getD j 0
def dec(h:b5)(j:Nat):b5:=h.set j (h.getD j 0-1)
def oq(h:b5)(j:Nat):(dec h j).length=h.length:=by unfold dec;simp
def yf(h:b5)(j i:Nat)(z:j<h.length):(dec h j).getD i 0=if i=j then h.getD j 0-1 else h.getD i 0:=by
 unfold dec;rw[ae,ja];by_cases e:j=i
 ·subst e
  rw[if_pos rfl,if_pos z,if_pos rfl];rfl
 ·rw[if_neg e,if_neg (λq=>e q.symm),ae]
theorem lc:∀(h:b5) (j:Nat),0<h.getD j 0->(dec h j).sum+1=h.sum
 | [],j,q=>by simp at q |a::h,0,q=>by
   simp[dec] at q ⊢
   lia
 |a::h,j+1,q=>by
   have z:=lc h j (by simpa using q);unfold dec at z ⊢;simp at z ⊢
   lia
def wds:Nat->b5->List b5
 |0,_=>[] |f+1,h=>if h.sum=0 then[[]] else((List.range h.length).map λj=>if 0<h.getD j 0 then(wds f (dec h j)).map ((j+1)::·) else[]).flatten
variable{h:b5}
theorem ztr(I:h.sum=0)(w:b5):WOf h w↔w=[]:=by
 have D:∀j,h.getD j 0=0:=λj=>by
  by_cases z:j<h.length
  ·rw[ae,ai z]
   exact gy.mp I _ (ig z)
  ·rw[ae,cu (by lia)];rfl
 constructor
 ·intro q
  cases w with
  |nil=>rfl |cons a w =>
    have l:=q.1 a au;have c:=q.2 (a-1) (by lia);rw[D,show a-1+1=a by lia,fm] at c
    lia
 ·intro e
  subst e;exact⟨λa J=>absurd J fu,λj z=>by rw[D];rfl⟩
variable{w:b5}
theorem yq(D:j<h.length):WOf h ((j+1)::w)↔0<h.getD j 0/\WOf (dec h j) w:=by
 constructor
 ·intro q
  have c:=q.2 j D;rw[fm] at c;refine⟨by lia,λa ha=>by rw[oq];exact q.1 a (ak _ ha),λi hi=>?_⟩;rw[oq] at hi;rw[yf h j i D];have z:=q.2 i hi;by_cases e:i=j
  ·subst e;rw[if_pos rfl];lia
  ·rw[if_neg e,<-z,jw (by lia)]
 ·intro⟨p,q⟩
  refine⟨λa ha=>?_,λi hi=>?_⟩
  ·rcases b8.mp ha with e |ha
   ·subst e;exact⟨by lia,by lia⟩
   ·have:=q.1 a ha;rw[oq] at this;exact this
  ·have z:=q.2 i (by rw[oq];exact hi)
   rw[yf h j i D] at z;by_cases e:i=j
   ·subst e;rw[if_pos rfl] at z;rw[fm,z];lia
   ·rw[if_neg e] at z;rw[jw (by lia),z]
theorem om:∀(f:Nat) (h:b5),h.sum<f->∀w,w∈wds f h↔WOf h w
 |0,_,q,_=>by lia |f+1,h,q,w=>by
   unfold wds;by_cases D:h.sum=0
   ·rw[if_pos D,ztr D,de]
   ·rw[if_neg D,cg]
    constructor
    ·rintro⟨l,L,J⟩
     obtain⟨j,z,rfl⟩:=bi.mp L;have z:=cx.mp z;split at J
     ·rename_i p
      obtain⟨v,R,rfl⟩:=bi.mp J;have S:=lc h j p;exact(yq z).mpr ⟨p,(om f (dec h j) (by lia) v).mp R⟩
     ·exact absurd J fu
    ·intro I
     cases w with
     |nil =>
       exfalso;apply D;rw[gy];intro a U;obtain⟨j,z⟩:=List.mem_iff_getElem?.mp U;have:=I.2 j (am.mp z).1;rw[ae,z] at this;simpa using this.symm
     |cons a v =>
       have l:=I.1 a au;have e:a-1+1=a:=by lia
       rw[<-e] at I;obtain⟨p,V⟩:=(yq (by lia)).mp I;have S:=lc h (a-1) p;refine⟨_,bi.mpr ⟨a-1,cx.mpr (by lia),rfl⟩,?_⟩;rw[if_pos p];exact bi.mpr ⟨v,(om f _ (by lia) v).mpr V,by rw[e]⟩
theorem xt:∀(f:Nat) (h:b5),(wds f h).Nodup
 |0,_=>List.nodup_nil |f+1,h=>by
   unfold wds;split
   ·simp
   ·rw[o0,List.pairwise_flatten]
    refine⟨λl z=>?_,?_⟩
    ·obtain⟨j,_,rfl⟩:=bi.mp z
     split
     ·rw[i9]
      exact(xt f (dec h j)).imp λq e=>q (kh e).2
     ·exact List.Pairwise.nil
    ·rw[i9]
     refine(List.nodup_range (n:=h.length)).imp λ{i j} q x hx y hy e=>?_;subst e;split at hx
     ·split at hy
      ·obtain⟨v,_,rfl⟩:=bi.mp hx
       obtain⟨u,_,e⟩:=bi.mp hy;have:=(kh e).1;exact q (by lia)
      ·exact absurd hy fu
     ·exact absurd hx fu
def ut:WOf h w.reverse↔WOf h w:=by
 unfold WOf;simp only[ly,i3]
variable{f:Nat}
def zts(q:h.sum<f):(wds f h).Perm ((wds f h).map List.reverse):=by
 rw[List.perm_ext_iff_of_nodup (xt f h)]
 ·intro w
  rw[om f h q,bi];constructor
  ·intro z
   exact⟨w.reverse,(om f h q _).mpr (ut.mpr z),j5 w⟩
  ·rintro⟨v,D,rfl⟩
   exact ut.mpr ((om f h q v).mp D)
 ·rw[o0,i9]
  exact(xt f h).imp λq e=>q (List.reverse_inj.mp e)
theorem zow{f g:Nat->Int}{j:Nat}{d:Int}:∀n:Nat,j<n->(∀k,k<n->k≠j->g k=f k)->g j=f j+d->sumI g (List.range n)=sumI f (List.range n)+d
 |0,hj,_,_=>by lia |n+1,hj,h1,h2=>by
   rw[fj,zll,zll,yx,zlk,yx,zlk];by_cases e:j=n
   ·subst e
    have:sumI g (List.range j)=sumI f (List.range j):=zh3 λk z=>h1 k (by have:=cx.mp z;lia) (by have:=cx.mp z;lia);rw[this,h2]
    lia
   ·have:=zow (f:=f) (g:=g) (d:=d) n (by lia) (λk z q=>h1 k (by lia) q) h2
    rw[this,h1 n (by lia) (λq=>e q.symm)]
    lia
def j8(ss:ey)(h:b5):Int:=sumI (λk=>hrs ((ss.getD k []).take (h.getD k 0))) (List.range ss.length)
theorem zrb(ss:ey):∀(w:b5),(∀a∈w,1<=a/\a<=ss.length)->(∀k,k<ss.length->w.count (k+1)<=(ss.getD k []).length)->hrs (tk ss w.reverse)=sumI (λk=>hrs ((ss.getD k []).take (w.count (k+1)))) (List.range ss.length)
 | [],_,_=>by
   rw[List.reverse_nil];have:sumI (λk=>hrs ((ss.getD k []).take (([]:b5).count (k+1)))) (List.range ss.length)=0:=zlj _;rw[this];rfl
 |a::w,h1,h2=>by
   have J:=h1 a au;have D:=zrb ss w (λb I=>h1 b (ak _ I)) λk z=>by
    have:=h2 k z;rw[jo] at this
    lia
   have c:=h2 (a-1) (by lia);rw[show a-1+1=a by lia,fm] at c;rw[i8,pi,kn,D,i3];symm;refine zow (j:=a-1) ss.length (by lia) (λk z q=>by rw[jw (by lia)]) ?_;rw[show a-1+1=a by lia,fm];unfold k8;generalize ss.getD (a-1) []=s at *;rw[oz,kn,ai (by lia),ae,ai (by lia)];rfl
theorem ztt(D:h.length=ss.length)(I:∀k,h.getD k 0<=(ss.getD k []).length)(q:WOf h w):hrs (tk ss w.reverse)=j8 ss h:=by
 rw[zrb ss w (λa J=>by rw[<-D];exact q.1 a J) λk z=>by rw[q.2 k (by lia)];exact I k];unfold j8;exact zh3 λk z=>by rw[q.2 k (by have:=cx.mp z;lia)]
def CL(ss:ey)(f:Nat)(h:b5):cc:=(wds f h).map λw=>f6 0 (tk ss w.reverse)
theorem ztu(I:h.length=ss.length)(J:∀k,h.getD k 0<=(ss.getD k []).length)(U:h.sum<f+1)(L:h.sum≠0) :
  CL ss (f+1) h=((List.range h.length).map λj=>if 0<h.getD j 0 then(CL ss f (dec h j)).map (· + ((ss.getD j []).getD (h.getD j 0-1) (0,0,0)).2.2*j8 ss h) else[]).flatten:=by
 unfold CL;rw[wds,if_neg L,List.map_flatten,dm];congr 1;refine eo λj D=>?_;have D:=cx.mp D;show List.map _ (if 0<h.getD j 0 then(wds f (dec h j)).map ((j+1)::·) else[])=_;split
 ·rename_i p
  rw[dm,dm];refine eo λw R=>?_;have V:=lc h j p;have q:=(om f (dec h j) (by lia) w).mp R;have S:=(yq D).mpr ⟨p,q⟩;have z:=ztt I J S;show f6 0 (tk ss ((j+1)::w).reverse)=f6 0 (tk ss w.reverse)+_;have c:=q.2 j (by rw[oq];exact D);rw[yf h j j D,if_pos rfl] at c;rw[i8,pi] at z ⊢;rw[kn] at z;rw[zd,i3,c];rw[i3,c] at z;unfold k8 at z ⊢;rw[show j+1-1=j by lia] at z ⊢;generalize (ss.getD j []).getD (h.getD j 0-1) (0,0,0)=x at *;rw[<-z];simp[hrs]
 ·rfl
structure St (l:cc) (w m s:Int):Prop where
 w:w=l.length
 e:l=[]->m=-1/\s=0
 n:l≠[]->m∈l/\(∀x∈l,m<=x)/\s=l.count m
def St.nil:St [] 0 (-1) 0:=⟨rfl,λ_=>⟨rfl,rfl⟩,λh=>absurd rfl h⟩
variable{w m:Int}
def St.perm{z:cc}(h:St l w m s)(p:l.Perm z):St z w m s :=
 ⟨by rw[<-p.length_eq];exact h.w,λe=>h.e (by subst e;exact List.perm_nil.mp p),λn=>by
  obtain⟨h1,h2,D⟩:=h.n λe=>n (by subst e;exact List.nil_perm.mp p);exact⟨p.mem_iff.mp h1,λx I=>h2 x (p.mem_iff.mpr I),by rw[<-p.count_eq];exact D⟩⟩
theorem zjt(d m:Int):∀l:cc,(l.map (· + d)).count (m+d)=l.count m
 | []=>rfl |x::l=>by
   rw[bo,jo,jo,zjt d m l];congr 1;by_cases e:x=m
   ·subst e;simp
   ·rw[if_neg (by simpa using e),if_neg (by simp;lia)]
theorem St.add(h:St l w m s)(z:l≠[])(d:Int):St (l.map (· + d)) w (m+d) s:=by
 obtain⟨h1,h2,D⟩:=h.n z;refine⟨by rw[ac];exact h.w,λe=>absurd (d5.mp e) z,λ_=>⟨bi.mpr ⟨m,h1,rfl⟩,λx I=>?_,by rw[zjt];exact D⟩⟩;obtain⟨y,J,rfl⟩:=bi.mp I;have:=h2 y J
 lia
theorem St.app{a b:cc}{L z s':Int}(h:St a w m s)(h':St b L z s')(R:b≠[])(Z:∀x∈a,0<=x) :
  St (a++b) (w+L) (if m<0\/z<m then z else m) (if m<0\/z<m then s' else if z=m then s+s' else s):=by
 obtain⟨S,D,b3⟩:=h'.n R;refine⟨by rw[aj,h.w,h'.w];simp,λe=>absurd (List.append_eq_nil_iff.mp e).2 R,λ_=>?_⟩;by_cases e:a=[]
 ·obtain⟨d,f⟩:=h.e e
  subst e;rw[if_pos (.inl (by lia)),if_pos (.inl (by lia))];exact⟨S,D,b3⟩
 ·obtain⟨U,I,V⟩:=h.n e
  have g:=Z m U;by_cases c:z<m
  ·rw[if_pos (.inr c),if_pos (.inr c)]
   refine⟨bn _ S,λx J=>(dh.mp J).elim (λq=>by have:=I x q;lia) (D x),?_⟩;rw[ia,mj (l:=a) (λq=>by have:=I z q;lia),iu];exact b3
  ·rw[if_neg (by lia),if_neg (by lia)]
   refine⟨db _ U,λx J=>(dh.mp J).elim (I x) (λq=>by have:=D x q;lia),?_⟩;rw[ia];by_cases Y:z=m
   ·subst Y;rw[if_pos rfl,V,b3];simp
   ·rw[if_neg Y,mj (l:=b) (λq=>by have:=D m q;lia),V];simp
end LB
namespace SQ
open PySem L2 LB
def qw(m:ei->el):FS:=sIf (fTst (fBin dGt (fVar 3) (fC (.int 0)))) (sSeq (sSet 4 (fLst (fCat (fLst (fCat (fLst (fSl (fVar 0) (fO0) (fO1 (fVar 2)))) (fLst (gk (bw (fBin dSub (fVar 3) (fC (.int 1))) (fNil)))))) (fLst (fSl (fVar 0) (fO1 (fBin gn (fVar 2) (fC (.int 1)))) (fO0)))))) (jj (qr 1 (iq (fiS (en m (bw (fVar 4) (fNil)))) [2] fYes (fLst (fCat (fLst (gk (bw (fBin gn (fVar 1) (fC (.int 1))) (fNil)))) (fVar 0))))))) (sNil)
def mf(m:ei->el):FS:=sSeq (sIf (fTst (fBin dEq (en bSum (bw (fVar 0) (fNil))) (fC (.int 0)))) (sRet (fLst (gk (bw (fLst (gk (fNil))) (fNil))))) (sNil)) (sSeq (sOwn 1 (gk (fNil))) (sSeq (l4 [2,3] (gs (iEn 0) (bw (fVar 0) (fNil))) ((qw m))) (sRet (fVar 1))))
def zb3:ei->el:=recD 5 1 mf 9
def z6:FS:=sSeq (sIf (fTst (fBin dGt (en vn (bw (fVar 0) (fNil))) (fC (.int 7)))) (rd) (sNil)) (sRet (en zb3 (bw (fLst (iq (fiS (fVar 0)) [] fYes (gw 0))) (fNil))))
def z5:ei->el:=runD 1 1 z6
def z9:FS:=sSeq (sSet 1 (fLst (iq (fiS (en z5 (bw (fVar 0) (fNil)))) [0] fYes (en tp (bw (fVar 1) (bw (fVar 0) (fNil))))))) (sSeq (sSet 2 (en p9 (bw (fVar 1) (fNil)))) (sRet (fTup (bw (gw 1) (bw (fVar 2) (bw (fBin o9 (fVar 1) (fVar 2)) (fNil)))))))
def z8:ei->el:=runD 3 1 z9
def z7:FS:=jj (kv 1 (fBin dMul (fIxV 1 (fUn dNeg (fC (.int 1)))) (fBin gn (gw 2) (fC (.int 1)))))
def mx:FS:=sIf (fTst (fBin dGt (fIxV 5 (fVar 10)) (fC (.int 0)))) (sSeq (sSet 11 (fIxV 3 (fBin dSub (fVar 4) (fIxV 1 (fVar 10))))) (sSeq (sSet 12 (fBin gn (fIxV 11 (fC (.int 1))) (fBin dMul (fBin dIx (fBin dIx (fIxV 0 (fVar 10)) (fBin dSub (fIxV 5 (fVar 10)) (fC (.int 1)))) (fC (.int 2))) (fVar 6)))) (sSeq (sSet 7 (fBin gn (fVar 7) (fIxV 11 (fC (.int 0))))) (sSeq (sIf (fOr (fTst (fBin dLt (fVar 8) (fC (.int 0)))) (fTst (fBin dLt (fVar 12) (fVar 8)))) (sSeq (sSet 8 (fVar 12)) (sSet 9 (fC (.int 0)))) (sNil)) (sIf (fTst (fBin dEq (fVar 12) (fVar 8))) (sSet 9 (fBin gn (fVar 9) (fIxV 11 (fC (.int 2))))) (sNil)))))) (sNil)
def tw:FS:=sSeq (sSet 5 (fLst (pd (gs iR1 (bw (gw 0) (fNil))) [4,1,0] fYes (fBin dMod (fBin dDiv (fVar 1) (fIxV 2 (fVar 0))) (fBin gn (en bLen (bw (fIxV 3 (fVar 0)) (fNil))) (fC (.int 1))))))) (sSeq (sSet 6 (en bSum (bw (fLst (iq (gs iR1 (bw (gw 0) (fNil))) [0,5] fYes (en bSum (bw (fLst (iq (fiS (fLst (fSl (fIxV 1 (fVar 0)) (fO0) (fO1 (fIxV 2 (fVar 0)))))) [] fYes (fIxV 0 (fC (.int 1))))) (fNil))))) (fNil)))) (sSeq (sSet 7 (fC (.int 0))) (sSeq (sSet 8 (fUn dNeg (fC (.int 1)))) (sSeq (sSet 9 (fC (.int 0))) (sSeq (sFor 10 (gs iR1 (bw (gw 0) (fNil))) (mx)) (jj (kv 3 (fLst (gk (bw (fVar 7) (bw (fVar 8) (bw (fVar 9) (fNil)))))))))))))
def z4:FS:=sSeq (sOwn 1 (gk (bw (fC (.int 1)) (fNil)))) (sSeq (sFor 2 (fiS (fVar 0)) (z7)) (sSeq (sOwn 3 (gk (bw (fLst (gk (bw (fC (.int 1)) (bw (fC (.int 0)) (bw (fC (.int 1)) (fNil)))))) (fNil)))) (sSeq (sFor 4 (gs iR2 (bw (fC (.int 1)) (bw (fIxV 1 (fUn dNeg (fC (.int 1)))) (fNil)))) (tw)) (sRet (fIxV 3 (fUn dNeg (fC (.int 1))))))))
def z0:ei->el:=runD 13 1 z4
def wt:FS:=sSeq (sSet 1 (en vh (bw (en tu (bw (fVar 0) (bw (fC (.int 15)) (fNil)))) (bw (fC (.int 7)) (fNil))))) (sSeq (sSet 2 (fLst (gs y9 (bw (fVar 1) (fNil))))) (sSeq (sSet 3 (en z8 (bw (fVar 2) (fNil)))) (sSeq (sSet 4 (en zh (bw (fVar 2) (fNil)))) (sSeq (sSet 5 (en z0 (bw (fVar 1) (fNil)))) (sSeq (sIf (fOr (fNot (fTst (en zch (bw (fVar 2) (bw (fVar 1) (fNil)))))) (fNot (fTst (en tz (bw (fVar 3) (bw (fTup (bw (fIxV 5 (fC (.int 0))) (bw (fIxV 5 (fC (.int 1))) (bw (fIxV 5 (fC (.int 2))) (fNil))))) (fNil))))))) (sRet (fC (.bl false))) (sNil)) (sRet (qi (en tv (bw (fVar 4) (fNil))) (fBin dEq (fVar 4) (fIxV 5 (fC (.int 1)))))))))))
def zwt:ei->el:=runD 6 1 wt
end SQ
namespace SQ
open PySem L2 LB PyProof.Rows
def top(i:Nat):Stmt:=PySem.Challenge.pw_rotstacks_k14_least_of_all.main.body.getD i (.Pass ⟨0,0,0,0⟩)
local macro_rules | `(tactic| walk_at "g") => `(tactic| first | exact gl_d (by kernel_rfl) | exact gl_c (by kernel_rfl) | exact gl_p (by kernel_rfl))
local macro_rules | `(tactic| exists $t:term) => `(tactic| as_aux_lemma => exact $t)
local macro_rules | `(tactic| walk_at "b") => `(tactic| exact ⟨by walk_at "g", by assumption⟩)
def ok_all{P:Program}{w:World}{K:dc}{mg:Str->b2}(T1:Def K mg (top 1) "sack_hours" ["sack"])(T2:Def K mg (top 2) "sack_loss" ["sack"])(T3:Def K mg (top 3) "sacks_in_all" ["stacks"])(T5:Def K mg (top 5) "share_gap" ["one", "other"])(T6:Def K mg (top 6) "share_sign" ["one", "other"])(T7:Def K mg (top 7) "single_block" ["sack"])(T8:Def K mg (top 8) "joined_block" ["upper", "lower"])(T9:Def K mg (top 9) "block_share" ["block"])(b:Def K mg (top 10) "has_greater_share" ["upper", "lower"])(c:Def K mg (top 11) "stack_blocks" ["stack"])(d:Def K mg (top 19) "turn_share" ["turn"])(e:Def K mg (top 20) "place_of_turn" ["turns", "turn"])(g:Def K mg (top 21) "block_turns" ["stacks"])(h:Def K mg (top 22) "told_order" ["stacks"])(i:Def K mg (top 23) "check_known" ["stacks", "at"])(k:Def K mg (top 24) "check_whole" ["stacks", "order"])(l:Def K mg (top 25) "check_order" ["stacks", "order"])(n:Def K mg (top 26) "taken_sacks" ["stacks", "order"])(o:Def K mg (top 28) "order_cost" ["stacks", "order"])(p:Def K mg (top 29) "least_cost" ["stacks"])(q:Def K mg (top 32) "orders_of_heights" ["heights"])(s:Def K mg (top 33) "all_orders" ["stacks"])(u:Def K mg (top 34) "least_of_all" ["stacks"])(v:Def K mg (top 36) "_law_whole" ["_law_found"])(x:Def K mg (top 37) "_law_at" ["_law_script", "_law_k"])(y:Def K mg (top 38) "_law_draws" ["_law_script", "_law_many"])(A:Def K mg (top 39) "_law_more_below" ["_law_stack"])(B:Def K mg (top 40) "_law_stacks" ["_law_draws_here", "_law_most"])(C:Def K mg (top 41) "_law_same_row" ["_law_found", "_law_due"])(E:Def K mg (top 42) "_law_same_rows" ["_law_found", "_law_due"])(F:Def K mg (top 43) "_law_same_stacks" ["_law_found", "_law_due"])(G:Def K mg (top 44) "_law_copy" ["_law_stacks_here"])(H:Def K mg (top 45) "_law_least" ["_law_stacks_here"])(z:∃t,mg "MOST_SACKS" = some (.int 7 t))(Y:mg "bool" = none)(I:mg "enumerate" = none)(M:mg "int" = none)(D:mg "isinstance" = none)(N:mg "len" = none)(Z:mg "list" = none)(O:mg "min" = none)(J:mg "range" = none)(Q:mg "str" = none)(T:mg "sum" = none)(L:mg "tuple" = none):∀base f fd,Fun K "law" "law" (top 46) f fd->FnOk P w K mg base CX0 13 f fd ["_law_script"] (dSp K zwt):=by
 intro base;have c1:Cal P w K mg base CX0 "sack_hours" 1 (dSp K tq):=by exists iy T1 ["sack"] λr a t=>fb (ib (f7 cz a))
 have c2:Cal P w K mg base CX0 "sack_loss" 1 (dSp K vk):=by exists iy T2 ["sack"] λr a t=>fb (ib (f7 cz a))
 have c3:Cal P w K mg base CX0 "sacks_in_all" 1 (dSp K vn):=by exists iy T3 ["stacks"] λr a t=>fb (ib (uo (cy (i7 (qs a (ke (cj a)) (λ_ _ _ _ _ _ _ a=>je a))) d9)))
 have c5:Cal P w K mg base CX0 "share_gap" 1 (dSp K vm):=by exists iy T5 ["one", "other"] λr a t=>fb (ib (kr (l9 (f7 cz a) (f7 cz a)) (l9 (f7 cz a) (f7 cz a))))
 have c6:Cal P w K mg base CX0 "share_sign" 2 (dSp K ny):=by exists iy T6 ["one", "other", "gap"] λr a t=>ek (g7 t (il c5 r (cy (cj a) (cy (cj a) d9)))) (ek (jb (o5 (cj a) cz) (fb (ib cz)) jc) (ek (jb (qh (cj a) cz) (fb (ib (ql cz))) jc) (fb (ib cz))))
 have c7:Cal P w K mg base CX0 "single_block" 2 (dSp K vt):=by exists iy T7 ["sack"] λr a t=>fb (ib (m8 (cy cz (cy (il c1 r (cy (cj a) d9)) (cy (il c2 r (cy (cj a) d9)) d9)))))
 have c8:Cal P w K mg base CX0 "joined_block" 1 (dSp K vq):=by exists iy T8 ["upper", "lower"] λr a t=>fb (ib (m8 (cy (j0 (f7 cz a) (f7 cz a)) (cy (j0 (f7 cz a) (f7 cz a)) (cy (j0 (f7 cz a) (f7 cz a)) d9)))))
 have c9:Cal P w K mg base CX0 "block_share" 1 (dSp K tm):=by exists iy T9 ["block"] λr a t=>fb (ib (m8 (cy (f7 cz a) (cy (f7 cz a) d9))))
 have X:Cal P w K mg base CX0 "has_greater_share" 3 (dSp K nv):=by exists iy b ["upper", "lower"] λr a t=>fb (ib (zxj (il c6 r (cy (il c9 r (cy (cj a) d9)) (cy (il c9 r (cy (cj a) d9)) d9))) cz))
 have aa:Cal P w K mg base CX0 "stack_blocks" 4 (dSp K zdq):=by exists iy c ["stack", "blocks", "sack", "block"] λr a t=>ek (l6 (t.psF (jk d9))) (ek (k9 (ke (cj a)) t.pg (ek (g7 t (il c7 r (cy (cj a) d9))) (ek (zk0 (dt_w (rg (o5 (je a) cz) (r8 (l8 (ln (il X r (cy (f7 (ql cz) a) (cy (cj a) d9)))))))) (fb (g7 t (il c8 r (cy (zvw a) (cy (cj a) d9)))))) (fb (lp (sw (cj a) a)))))) (fb (ib (cj a))))
 have R:Cal P w K mg base CX0 "turn_share" 1 (dSp K p4):=by exists iy d ["turn"] λr a t=>fb (ib (m8 (cy (f7 cz a) (cy (f7 cz a) d9))))
 have ag:Cal P w K mg base CX0 "place_of_turn" 3 (dSp K zdg):=by exists iy e ["turns", "turn", "place"] λr a t=>ek (g7 t cz) (ek (zk0 (dt_w (rg (qh (cj a) (je a)) (r8 (zxl (il c6 r (cy (il R r (cy (f7 (cj a) a) d9)) (cy (il R r (cy (cj a) d9)) d9))) cz)))) (fb (yn t cz))) (fb (ib (cj a))))
 have al:Cal P w K mg base CX0 "block_turns" 5 (dSp K tf):=by exists iy g ["stacks", "turns", "at", "stack", "many", "hours", "loss", "turn"] λr a t=>ek (l6 (t.psF (jk d9))) (ek (yo (zpw (cy (cj a) d9)) (me t (me t uq)) (fb (znu (ke (il aa r (cy (cj a) d9))) (me t (me t (me t uq))) (ek (g7 t (m8 (cy (cj a) (cy (cj a) (cy (cj a) (cy (cj a) d9)))))) (fb (lp (znt (zp5 ag r (zs0 (zxv (cy (cj a) d9)) a)) (cj a) a))))))) (fb (ib (cj a))))
 have an:Cal P w K mg base CX0 "told_order" 6 (fSp K zn):=by exists zwc h ["stacks", "order", "at", "many", "hours", "loss"] λr a t=>ek (l6 (t.psF (jk d9))) (ek (znu (ke (il al r (cy (cj a) d9))) (me t (me t (me t (me t uq)))) (fb (lp (zjg (zv2 (jk (cy (cj a) d9)) (cj a)) a)))) (fb (zsm a)))
 have ao:Cal P w K mg base CX0 "check_known" 1 (dSp K zx):=by exists iy i ["stacks", "at"] λr a t=>fb (jb (dt_w (qg (qh (cj a) cz) (qk (o5 (cj a) (je a))))) (fb u6) jc)
 have ap:Cal P w K mg base CX0 "check_whole" 1 (dSp K zu):=by exists iy k ["stacks", "order", "left", "at"] λr a t=>ek (l6 (u5 a t (ke (cj a)) (λ_ _ _ _ _ _ _ a=>je a))) (ek (k9 (ke (cj a)) t.pg (ek (jb (mn (f7 (kr (cj a) cz) a) cz) (fb u6) jc) (fb (zp0 (kr (cj a) cz) cz a)))) (fb (jb (o5 (zsz a) cz) (fb u6) jc)))
 have ar:Cal P w K mg base CX0 "check_order" 2 (dSp K zr):=by exists iy l ["stacks", "order", "at"] λr a t=>ek (k9 (ke (cj a)) t.pg (fb (lp (il ao r (cy (cj a) (cy (cj a) d9)))))) (fb (lp (il ap r (cy (cj a) (cy (cj a) d9)))))
 have ax:Cal P w K mg base CX0 "taken_sacks" 3 (dSp K vg):=by exists iy n ["stacks", "order", "taken", "sacks", "at"] λr a t=>ek (lp (il ar r (cy (cj a) (cy (cj a) d9)))) (ek (l6 (u5 a t (ke (cj a)) (λ_ _ _ _ _ _ _ a=>cz))) (ek (l6 (t.psF (jk d9))) (ek (k9 (ke (cj a)) t.pg (ek (lp (sw (n6 (f7 (kr (cj a) cz) a) (f7 (kr (cj a) cz) a)) a)) (fb (zpz (kr (cj a) cz) cz a)))) (fb (ib (cj a))))))
 have S:Cal P w K mg base CX0 "order_cost" 4 (dSp K tp):=by exists iy o ["stacks", "order", "cost", "hour", "sack"] λr a t=>ek (g7 t cz) (ek (g7 t cz) (ek (k9 (ke (il ax r (cy (cj a) (cy (cj a) d9)))) t.pg (ek (yn t (il c1 r (cy (cj a) d9))) (fb (yn t (l9 (il c2 r (cy (cj a) d9)) (cj a)))))) (fb (ib (cj a)))))
 have a1:Cal P w K mg base CX0 "least_cost" 7 (dSp K zh):=by exists iy p ["stacks"] λr a t=>fb (ib (il S r (cy (cj a) (cy (i7 (znh an r (cy (cj a) d9))) d9))))
 have a2:Cal P w K mg base CX0 "orders_of_heights" 10 (dSp K zb3):=by exists zx4 9 q ["heights", "orders", "place", "height", "rest"] λj m=>λcs r a t=>ek (jb (mn (uo (cy (cj a) d9)) cz) (fb (ib (i7 (jk (cy (i7 (jk d9)) d9))))) jc) (ek (l6 (t.psF (jk d9))) (ek (yo (zsy (cy (cj a) d9)) (me t (me t uq)) (fb (jb (o5 (cj a) cz) (ek (g7 t (i7 (um (i7 (um (i7 (uc (cj a) uy (ux (cj a)))) (i7 (jk (cy (kr (cj a) cz) d9))))) (i7 (uc (cj a) (ux (j0 (cj a) cz)) uy))))) (fb (lp (zjg (qs a (ke (il (hkj:=bg _) cs r (cy (cj a) d9))) (λ_ _ _ _ _ _ _ a=>i7 (um (i7 (jk (cy (j0 (cj a) cz) d9))) (cj a)))) a)))) jc))) (fb (ib (cj a)))))
 have a3:Cal P w K mg base CX0 "all_orders" 11 (dSp K z5):=by exists iy s ["stacks"] λr a t=>ek (jb (o5 (il c3 r (cy (cj a) d9)) (zp9 z)) (fb u6) jc) (fb (ib (il a2 r (cy (i7 (qs a (ke (cj a)) (λ_ _ _ _ _ _ _ a=>je a))) d9))))
 have a4:Cal P w K mg base CX0 "least_of_all" 12 (dSp K z8):=by exists iy u ["stacks", "costs", "least"] λr a t=>ek (znp (u5 a t (ke (il a3 r (cy (cj a) d9))) (λ_ _ _ _ _ _ _ a=>il S r (cy (cj a) (cy (cj a) d9))))) (ek (g7 t (zs2 (cy (cj a) d9))) (fb (ib (m8 (cy (je a) (cy (cj a) (cy (zp8 (cj a) (cj a)) d9)))))))
 have U:Cal P w K mg base CX0 "_law_whole" 1 (dSp K tv):=by exists iy v ["_law_found"] λr a t=>fb (ib (zqy (oj zv1 (cj a)) (zqx (zvl (oj zsr (cj a))))))
 have a5:Cal P w K mg base CX0 "_law_at" 1 (dSp K sv):=by exists iy x ["_law_script", "_law_k"] λr a t=>ek (jb (qh (cj a) (je a)) (fb (ib (f7 (cj a) a))) jc) (fb (ib cz))
 have a6:Cal P w K mg base CX0 "_law_draws" 2 (dSp K tu):=by exists iy y ["_law_script", "_law_many", "_law_made", "_law_state", "_law_k", "_law_cell"] λr a t=>ek (l6 (t.psF (jk d9))) (ek (g7 t cz) (ek (k9 (nt (cy (cj a) d9)) t.pg (ek (g7 t (il a5 r (cy (cj a) (cy (cj a) d9)))) (ek (jb (mn (kf (je a) cz) cz) (ek (g7 t (kf (j0 (j0 (j0 (l9 (cj a) cz) (cj a)) (cj a)) cz) cz)) (fb (g7 t (kf (l9 (j0 (cj a) (cj a)) cz) cz)))) jc) (fb (lp (sw (cj a) a)))))) (fb (ib (cj a)))))
 have a7:Cal P w K mg base CX0 "_law_more_below" 1 (dSp K p6):=by exists iy A ["_law_stack", "_law_last"] λr a t=>ek (jb (mn (je a) cz) (fb (ib (i7 (jk d9)))) jc) (ek (g7 t (f7 (kr (je a) cz) a)) (fb (ib (i7 (um (i7 (uc (cj a) uy (ux (kr (je a) cz)))) (i7 (jk (cy (m8 (cy (f7 cz a) (cy (f7 cz a) (cy (j0 (f7 cz a) cz) d9)))) d9))))))))
 have a8:Cal P w K mg base CX0 "_law_stacks" 2 (dSp K vh):=by exists iy B ["_law_draws_here", "_law_most", "_law_many", "_law_count", "_law_menu", "_law_turn", "_law_made", "_law_pool", "_law_k", "_law_cell", "_law_hours", "_law_loss", "_law_place", "_law_number"] λr a t=>ek (g7 t (n6 (i7 (jk (cy cz (cy cz (cy cz (cy cz (cy cz (cy cz (cy cz (cy cz (cy cz (cy cz (cy cz (cy cz d9)))))))))))))) (kf (f7 cz a) cz))) (ek (g7 t (kr (cj a) (kf (mr (f7 cz a) cz) (j0 (cj a) cz)))) (ek (g7 t (kf (mr (f7 cz a) cz) cz)) (ek (g7 t (kf (mr (f7 cz a) cz) cz)) (ek (zso (zpp a t (nt (cy (cj a) d9)) (λ_ _ _ _ _ _ _ a=>jk d9))) (ek (l6 (t.psF (zj3 (cy cz (cy cz d9))))) (ek (k9 (nt (cy (l9 (cj a) (zvr (cy (cj a) (cy cz d9)))) d9)) t.pg (ek (g7 t (f7 (j0 cz (cj a)) a)) (ek (g7 t (j0 cz (kf (cj a) cz))) (ek (g7 t (kf (mr (cj a) cz) cz)) (ek (jb (mn (cj a) cz) (ek (g7 t (j0 cz (kf (cj a) (kr cz (l9 cz (cj a)))))) (fb (g7 t (kf (mr (cj a) cz) (kr cz (l9 cz (cj a))))))) jc) (ek (jb (mn (cj a) cz) (ek (g7 t (n6 (i7 (jk (cy cz (cy cz (cy cz (cy cz d9)))))) (kf (cj a) cz))) (fb (g7 t (n6 (i7 (jk (cy cz (cy cz (cy cz (cy cz d9)))))) (kf (mr (cj a) cz) cz))))) jc) (ek (jb (mn (cj a) cz) (ek (g7 t (n6 (i7 (jk (cy (cj a) (cy (j0 cz (kf (cj a) cz)) d9)))) (cj a))) (fb (g7 t (cj a)))) jc) (ek (g7 t (kf (n6 (i7 (jk (cy (mr (cj a) cz) (cy (cj a) d9)))) (l9 (mr (cj a) cz) (cj a))) (cj a))) (ek (g7 t (zpn (kf (mr (cj a) cz) (je a)) a)) (fb (lp (zl6 (cj a) (λ_ _=>m8 (cy (cj a) (cy (cj a) (cy (cj a) d9)))) a)))))))))))) (ek (jb (dt_w (rg (mn (cj a) cz) (r8 (mn (cj a) cz)))) (fb (znp (u5 a t (ke (cj a)) (λ_ _ _ _ _ _ _ a=>il a7 r (cy (cj a) d9))))) jc) (fb (ib (cj a))))))))))
 have V:Cal P w K mg base CX0 "_law_same_row" 2 (dSp K tz):=by exists iy C ["_law_found", "_law_due", "_law_k"] λr a t=>ek (jb (dt_w (qg (l8 (ln (oj zpr (cj a)))) (qk (ud (je a) (je a))))) (fb (ib lm)) jc) (ek (k9 (nt (cy (je a) d9)) t.pg (ek (jb (dt_w (rg (ln (oj xv (f7 (cj a) a))) (r8 (l8 (ln (oj xv (f7 (cj a) a))))))) (fb (ib lm)) jc) (ek (jb (dt_w (rg (l8 (ln (oj xv (f7 (cj a) a)))) (r8 (l8 (ln (il U r (cy (f7 (cj a) a) d9))))))) (fb (ib lm)) jc) (fb (jb (ud (f7 (cj a) a) (f7 (cj a) a)) (fb (ib lm)) jc))))) (fb (ib lm)))
 have a9:Cal P w K mg base CX0 "_law_same_rows" 3 (dSp K wd):=by exists iy E ["_law_found", "_law_due", "_law_k"] λr a t=>ek (jb (dt_w (qg (l8 (ln (oj znr (cj a)))) (qk (ud (je a) (je a))))) (fb (ib lm)) jc) (ek (k9 (nt (cy (je a) d9)) t.pg (fb (jb (l8 (ln (il V r (cy (f7 (cj a) a) (cy (f7 (cj a) a) d9))))) (fb (ib lm)) jc))) (fb (ib lm)))
 have bb:Cal P w K mg base CX0 "_law_same_stacks" 4 (dSp K zch):=by exists iy F ["_law_found", "_law_due", "_law_k"] λr a t=>ek (jb (dt_w (qg (l8 (ln (oj znr (cj a)))) (qk (ud (je a) (je a))))) (fb (ib lm)) jc) (ek (k9 (nt (cy (je a) d9)) t.pg (fb (jb (l8 (ln (il a9 r (cy (f7 (cj a) a) (cy (f7 (cj a) a) d9))))) (fb (ib lm)) jc))) (fb (ib lm)))
 have bd:Cal P w K mg base CX0 "_law_copy" 1 (fSp K y9):=by exists zwc G ["_law_stacks_here"] λr a t=>fb (zsl (qs a (ke (cj a)) (λ_ _ _ _ _ _ _ a=>i7 (zsg (cy (cj a) d9)))))
 have be:Cal P w K mg base CX0 "_law_least" 1 (dSp K z0):=by exists iy H ["_law_stacks_here", "_law_steps", "_law_stack", "_law_best", "_law_code", "_law_taken", "_law_hour", "_law_ways", "_law_least_here", "_law_same", "_law_k", "_law_ahead", "_law_total"] λr a t=>ek (l6 (t.psF (jk (cy cz d9)))) (ek (k9 (ke (cj a)) t.pg (fb (lp (sw (l9 (f7 (ql cz) a) (j0 (je a) cz)) a)))) (ek (l6 (t.psF (jk (cy (i7 (jk (cy cz (cy cz (cy cz d9))))) d9)))) (ek (k9 (znn (cy cz (cy (f7 (ql cz) a) d9))) t.pg (ek (g7 t (i7 (zp2 a (zxu (nt (cy (je a) d9))) (λ_ _ _ _ _ _ _ a=>kf (mr (cj a) (f7 (cj a) a)) (j0 (zvp (cy (f7 (cj a) a) d9)) cz))))) (ek (g7 t (uo (cy (i7 (qs a (nt (cy (je a) d9)) (λ_ _ _ _ _ _ _ a=>uo (cy (i7 (qs a (ke (i7 (uc (f7 (cj a) a) uy (ux (f7 (cj a) a))))) (λ_ _ _ _ _ _ _ a=>f7 cz a))) d9)))) d9))) (ek (g7 t cz) (ek (g7 t (ql cz)) (ek (g7 t cz) (ek (k9 (nt (cy (je a) d9)) t.pg (fb (jb (o5 (f7 (cj a) a) cz) (ek (g7 t (f7 (kr (cj a) (f7 (cj a) a)) a)) (ek (g7 t (j0 (f7 cz a) (l9 (n6 (n6 (f7 (cj a) a) (kr (f7 (cj a) a) cz)) cz) (cj a)))) (ek (g7 t (j0 (cj a) (f7 cz a))) (ek (jb (dt_w (qg (qh (cj a) cz) (qk (qh (cj a) (cj a))))) (ek (g7 t (cj a)) (fb (g7 t cz))) jc) (fb (jb (mn (cj a) (cj a)) (fb (g7 t (j0 (cj a) (f7 cz a)))) jc)))))) jc))) (fb (lp (sw (i7 (jk (cy (cj a) (cy (cj a) (cy (cj a) d9))))) a)))))))))) (fb (ib (f7 (ql cz) a))))))
 exact zx3 ["_law_script", "_law_stacks_here", "_law_handed", "_law_found", "_law_least_here", "_law_due"] λr a t=>ek (g7 t (il a8 r (cy (il a6 r (cy (cj a) (cy cz d9))) (cy cz d9)))) (ek (g7 t (i7 (znh bd r (cy (cj a) d9)))) (ek (g7 t (il a4 r (cy (cj a) d9))) (ek (g7 t (il a1 r (cy (cj a) d9))) (ek (g7 t (il be r (cy (cj a) d9))) (ek (jb (dt_w (qg (l8 (ln (il bb r (cy (cj a) (cy (cj a) d9))))) (qk (l8 (ln (il V r (cy (cj a) (cy (m8 (cy (f7 cz a) (cy (f7 cz a) (cy (f7 cz a) d9)))) d9)))))))) (fb (ib lm)) jc) (fb (ib (zqy (il U r (cy (cj a) d9)) (zqx (zxk (cj a) (f7 cz a)))))))))))
end SQ
namespace SQ
open PySem L2 LB
def ints_of(l:cc):ints? (l.map D.int)=some l:=by
 induction l with
 |nil=>rfl |cons a l ih=>rw[bo,ints?,ih];rfl
def zlq:∀h:b5,(h.map λn:Nat=>(n:Int)).sum=(h.sum:Int)
 | []=>rfl |a::h=>by rw[bo,dw,dw,zlq h];simp
theorem ye{α:Type}(B:Nat):∀l:List (List α),(∀r∈l,r.length<=B)->l.flatten.length<=l.length*B
 | [],_=>by simp |a::l,h=>by
   have h1:=h a au;have h2:=ye B l λr z=>h r (ak _ z);rw[bx,aj,av,Nat.add_mul]
   lia
theorem yd:∀(f:Nat) (h:b5),h.length<=5->(wds f h).length<=5 ^ h.sum
 |0,_,_=>by simp[wds] |f+1,h,hl=>by
   unfold wds;split
   ·rename_i e;rw[e];simp
   ·rename_i e
    obtain⟨n,hn⟩:∃n,h.sum=n+1:=⟨h.sum-1,by lia⟩;have q:=ye (5 ^ n) ((List.range h.length).map λj=>if 0<h.getD j 0 then(wds f (dec h j)).map ((j+1)::·) else[]) λr z=>by
     obtain⟨j,_,rfl⟩:=bi.mp z;split
     ·rename_i p
      have D:=lc h j p;rw[ac];have:=yd f (dec h j) (by rw[oq];exact hl);rwa [show(dec h j).sum=n by lia] at this
     ·exact eh _
    rw[ac,h9] at q;rw[hn,Nat.pow_succ,Nat.mul_comm];exact bh q (Nat.mul_le_mul_right _ hl)
theorem zrc:∀(f:Nat) (h w:b5),w∈wds f h->w.length=h.sum
 |0,_,_,q=>by simp[wds] at q |f+1,h,w,q=>by
   unfold wds at q;split at q
   ·rename_i e;rw[de.mp q,e];rfl
   ·obtain⟨l,D,z⟩:=cg.mp q
    obtain⟨j,_,rfl⟩:=bi.mp D;split at z
    ·rename_i p
     obtain⟨v,I,rfl⟩:=bi.mp z;have:=zrc f _ v I;have J:=lc h j p;rw[av];lia
    ·exact absurd z fu
abbrev wD(w:b5):D:=.lst (iD w)
variable{n:Nat}
def zwu(h:n<=7):5 ^ n<=78125:=bh (j2 (by decide) h) (by decide)
abbrev rowF(f:Nat)(h:b5)(j:Nat):List b5:=if 0<h.getD j 0 then(wds f (dec h j)).map ((j+1)::·) else[]
theorem zju:∀(f:Nat) (h:b5),h.length<=5->h.sum<f->h.sum<=7->recD 5 1 mf f [.lst (iD h)]=some (.lst ((wds f h).map wD))
 |0,_,_,q,_=>by lia |f+1,h,hl,hf,h7=>by
   have o:bSum [.lst (iD h)]=some (.int (h.sum:Int)):=by
    have:=q0 (λn:Nat=>(n:Int)) h;rw[zlq] at this;exact this
   show runD 5 1 (mf (recD 5 1 mf f)) [.lst (iD h)]=_;have u:=λj (p:0<h.getD j 0)=>zju f (dec h j) (by rw[oq];exact hl) (by have:=lc h j p;lia) (by have:=lc h j p;lia);generalize K:recD 5 1 mf f=m at *;by_cases s:h.sum=0
   ·rw[wds,if_pos s]
    refine jt (e':=[some (.sh (.lst (iD h))),none,none,none,none]) rfl ?_;show mf m [some (.sh (.lst (iD h))),none,none,none,none]=_;have V:decide ((h.sum:Int)=0)=true:=decide_eq_true (by lia);generalize iD h=HD at *;simp only[mf,sSeq,sIf,sRet,en,bw,fNil,fVar,fC,fBin,fTst,fLst,gk,o,dEq,V,av,cw,eh,show(0+1<=64)=True by simp,if_true,ah,af,ab,aq];rfl
   ·have V:decide ((h.sum:Int)=0)=false:=decide_eq_false (by lia)
    have Y:wds (f+1) h=((List.range h.length).map (rowF f h)).flatten:=by rw[wds,if_neg s]
    have Z:∀j,(rowF f h j).length<=15625:=λj=>by
     unfold rowF;split
     ·rename_i p
      have v:=lc h j p;rw[ac];refine bh (yd f (dec h j) (by rw[oq];exact hl)) ?_;exact bh (j2 (by decide) (show(dec h j).sum<=6 by lia)) (by decide)
     ·exact eh _
    have hi:iEn 0 [.lst (iD h)]=some ((h.zipIdx 0).map λz:Nat×Nat=>D.tup [D.int (z.2:Nat),D.int (z.1:Int)]):=by
     show some (k7 0 (h.map λn:Nat=>D.int (n:Int)))=_;rw[yz]
    obtain⟨e',h1,S,U,J,rfl⟩:=sg (ix:=[2,3]) (g:=qw m) (λz:Nat×Nat=>[D.int (z.2:Nat),D.int (z.1:Int)])
     (λp e=>∃S U J,e=[some (.sh (.lst (iD h))),some (.ow ((((List.range p.length).map (rowF f h)).flatten).map wD)),S,U,J]) (h.zipIdx 0) [some (.sh (.lst (iD h))),some (.ow []),none,none,none] ⟨none,none,none,rfl⟩ (λ_ _=>rfl) (by
       rintro p x q e a ⟨S,U,J,rfl⟩;obtain⟨hi,rfl⟩:=ztq a;have R:h.getD p.length 0=h[p.length]:=by rw[ae,ai hi];rfl
       have y:((List.range (p++[(h[p.length],p.length)]).length).map (rowF f h)).flatten=((List.range p.length).map (rowF f h)).flatten++rowF f h p.length:=by
        rw[aj,cr,fj,b7,d7];simp
       have fl:=ye 15625 ((List.range p.length).map (rowF f h)) λr A=>by
        obtain⟨j,_,rfl⟩:=bi.mp A;exact Z j
       rw[ac,h9] at fl;have B:=bh fl (Nat.mul_le_mul_right 15625 (show p.length<=5 by lia));have M:=Z p.length;rw[y,b7];have L:Few (((((List.range p.length).map (rowF f h)).flatten).map wD).length+((rowF f h p.length).map wD).length):=few (by rw[ac,ac];lia);generalize (((List.range p.length).map (rowF f h)).flatten).map wD=ACC at *;generalize N:p.length=k at *;by_cases c:0<h[k]
       ·have t:=u k (by rw[R];exact c)
        have I:rowF f h k=(wds f (dec h k)).map ((k+1)::·):=by unfold rowF;rw[if_pos (by rw[R];exact c)]
        rw[I] at L ⊢;have b:decide ((0:Int)<(h[k]:Int))=true:=decide_eq_true (by lia);have O:(iD h).length=h.length:=by unfold iD;rw[ac]
        have ct:=zlm (iD h) k (by lia);have C:=zql (iD h) (k+1) (by lia);have E:(iD h).take k++[.int ((h[k]:Int)-1)]++(iD h).drop (k+1)=iD (dec h k):=by
         unfold dec iD;rw[R,<-qz,<-List.map_drop,List.set_eq_take_append_cons_drop,if_pos hi,b7,bo,show((h[k]:Int)-1)=((h[k]-1:Nat):Int) by lia,b9];rfl
        have d:Few (((iD h).take k).length+(0+1)):=few (by rw[dn];lia);have i:Few (((iD h).take k++[D.int ((h[k]:Int)-1)]).length+((iD h).drop (k+1)).length):=few (by rw[aj,dn,l0,cr];lia);have F:=ko (te:=fLst (fCat (fLst (gk (bw (fBin gn (fVar 1) (fC (.int 1))) fNil))) (fVar 0))) (base:=[some (.sh (.int (k:Nat)))]) wD (λw=>wD ((k+1)::w)) (wds f (dec h k)) λw Y=>by
         have P:=zrc f (dec h k) w Y;have v:=lc h k (by rw[R];exact c);have G:Few (0+1+(iD w).length):=few (by unfold iD;rw[ac];lia);refine⟨[some (.sh (wD w)),some (.sh (.int (k:Nat)))],?_⟩;rw[show wD ((k+1)::w)=.lst (.int ((k:Int)+1)::iD w) from rfl];unfold wD;generalize iD w=WL at *;simp only[fLst,fCat,gk,bw,fNil,fBin,fVar,fC,gn,G,av,cw,show(0+1<=64)=True by simp,if_true,ah,af,ab,aq,e9,m4]
        have l:Few ((wds f (dec h k)).map wD).length:=few (by rw[ac];have:=Z k;rw[I,ac] at this;lia);have H:((wds f (dec h k)).map ((k+1)::·)).map wD=(wds f (dec h k)).map λw=>wD ((k+1)::w):=by rw[dm];rfl
        rw[H] at L ⊢;generalize (wds f (dec h k)).map (λw=>wD ((k+1)::w))=NEW at *;generalize (wds f (dec h k)).map wD=OLD at *;refine⟨[some (.sh (.lst (iD h))),some (.ow (ACC++NEW)),some (.sh (.int (k:Nat))),some (.sh (.int (h[k]:Int))),some (.sh (.lst (iD (dec h k))))],?_,_,_,_,rfl⟩;show qw m [some (.sh (.lst (iD h))),some (.ow ACC),some (.sh (.int (k:Nat))),some (.sh (.int (h[k]:Int))),J]=_;rw[<-E] at t ⊢;generalize (iD h).take k=TK at *;generalize (iD h).drop (k+1)=DR at *;generalize iD h=HD at *;generalize h[k]=hk2 at *;have kk:((k:Int)+1)=((k+1:Nat):Int):=by lia
        simp only[qw,sIf,sSeq,sSet,jj,fTst,fBin,fVar,fC,dGt,b,if_true,fLst,fCat,fSl,fO0,fO1,ct,gn,kk,C,gk,bw,fNil,dSub,d,i,av,cw,show(0+1<=64)=True by simp,qr,iq,fiS,en,t,l,bo,di,kb,List.getD_cons_succ,capt,F,uh,L,ah,af,aw,ay,ab,aq]
       ·have I:rowF f h k=[]:=by unfold rowF;rw[if_neg (by rw[R];exact c)]
        rw[I,di,ca];have b:decide ((0:Int)<(h[k]:Int))=false:=decide_eq_false (by lia);refine⟨[some (.sh (.lst (iD h))),some (.ow ACC),some (.sh (.int (k:Nat))),some (.sh (.int (h[k]:Int))),J],?_,_,_,_,rfl⟩;show qw m [some (.sh (.lst (iD h))),some (.ow ACC),some (.sh (.int (k:Nat))),some (.sh (.int (h[k]:Int))),J]=_;generalize iD h=HD at *;generalize h[k]=hk2 at *;simp only[qw,sIf,sNil,fTst,fBin,fVar,fC,dGt,b,cq,if_false,ah,af,ab,aq])
    rw[List.length_zipIdx,<-Y] at h1;refine jt (e':=[some (.sh (.lst (iD h))),some (.sh (.lst ((wds (f+1) h).map wD))),S,U,J]) rfl ?_;show mf m [some (.sh (.lst (iD h))),none,none,none,none]=_;generalize (wds (f+1) h).map wD=RES at *;generalize iD h=HD at *;generalize (h.zipIdx 0).map (λz:Nat×Nat=>D.tup [D.int (z.2:Nat),D.int (z.1:Int)])=EN at *;simp only[mf,sSeq,sIf,sRet,sNil,sOwn,l4,en,gs,bw,fNil,fVar,fC,fBin,fTst,fLst,gk,o,dEq,V,hi,h1,cw,eh,if_true,cq,if_false,ah,af,aw,ay,ab,aq]
variable{ss:ey}
def yw{w:b5}:WOf (ss.map List.length) w↔Whole ss w:=by
 constructor
 ·intro q
  refine⟨λa I=>by have:=q.1 a I;rwa [ac] at this,λj s z=>?_⟩;have D:=(am.mp z).1;rw[q.2 j (by rw[ac];exact D),ae,bv,z];rfl
 ·intro q
  refine⟨λa I=>by rw[ac];exact q.lo a I,λj D=>?_⟩;rw[ac] at D;have z:ss[j]?=some ss[j]:=ai D;rw[q.cnt j _ z,ae,bv,z];rfl
theorem uj:∀(f:Nat) (h:b5),h.sum<f->wds f h≠[]
 |0,_,q=>by lia |f+1,h,q=>by
   unfold wds;split
   ·simp
   ·rename_i D
    obtain⟨j,z,p⟩:∃j,j<h.length/\0<h.getD j 0:=by
     by_cases c:∃j,j<h.length/\0<h.getD j 0
     ·exact c
     ·exfalso
      apply D;rw[gy];intro a I;obtain⟨j,z⟩:=List.mem_iff_getElem?.mp I;have l:=(am.mp z).1;by_cases e:a=0
      ·exact e
      ·exact absurd ⟨j,l,by rw[ae,z];show 0<a;lia⟩ c
    intro e;have L:=lc h j p;obtain⟨v,J⟩:=List.exists_mem_of_ne_nil _ (uj f (dec h j) (by lia));have:(j+1)::v∈(((List.range h.length).map λj=>if 0<h.getD j 0 then(wds f (dec h j)).map ((j+1)::·) else[]).flatten):=by
     refine cg.mpr ⟨_,bi.mpr ⟨j,cx.mpr z,rfl⟩,?_⟩;rw[if_pos p];exact bi.mpr ⟨v,J,rfl⟩
    rw[e] at this;exact absurd this fu
theorem zls:∀(f g:Nat) (h:b5),h.sum<f->h.sum<g->wds f h=wds g h
 |0,_,_,q,_=>by lia |_,0,_,_,q=>by lia |f+1,g+1,h,q1,q2=>by
   unfold wds;split
   ·rfl
   ·congr 1
    refine eo λj _=>?_;split
    ·rename_i p
     have z:=lc h j p;rw[zls f g (dec h j) (by lia) (by lia)]
    ·rfl
theorem zwv(I:ss.length<=5)(R:ss.flatten.length<=7):z5 [ssL ss]=some (.lst ((wds 9 (ss.map List.length)).map wD)):=by
 have sm:(ss.map List.length).sum=ss.flatten.length:=by rw[d6]
 have z:=zju 9 (ss.map List.length) (by rw[ac];exact I) (by lia) (by lia);have sk:vn [ssL ss]=some (.int (ss.flatten.length:Int)):=zos ss (by lia);have c:=ko (te:=gw 0) (base:=[]) (λs:ew=>D.lst (s.map sD)) (λs:ew=>D.int (s.length:Int)) ss λs _=>⟨[some (.sh (.lst (s.map sD)))],by simp[gw]⟩;have J:Few (ss.map λs=>D.lst (s.map sD)).length:=few (by rw[ac];lia);have e:iD (ss.map List.length)=ss.map λs:ew=>D.int (s.length:Int):=by unfold iD;rw[dm];rfl
 have L:decide ((7:Int)<(ss.flatten.length:Int))=false:=decide_eq_false (by lia);refine jt (e':=[some (.sh (ssL ss))]) rfl ?_;show z6 [some (.sh (ssL ss))]=_;rw[e] at z;generalize (wds 9 (ss.map List.length)).map wD=RES at *;unfold z6;rw[show zb3=recD 5 1 mf 9 from rfl];generalize recD 5 1 mf 9=mo at *;unfold ssL at *;generalize (ss.map λs:ew=>D.int (s.length:Int))=LN at *;generalize (ss.map λs=>D.lst (s.map sD))=SL at *;simp only[sSeq,sIf,sRet,sNil,fTst,fBin,en,bw,fNil,fVar,fC,fLst,iq,fiS,sk,dGt,L,J,c,z,di,if_true,cq,if_false,ah,ab,aq]
theorem zjv(L:ss.length<=5)(V:ss.flatten.length<=7)(Y:∀x∈ss.flatten,gg x) :
  ∃w m k,St (CL ss 9 (ss.map List.length)) w m k/\z8 [ssL ss]=some (.tup [.int w,.int m,.int k]):=by
 have sm:(ss.map List.length).sum=ss.flatten.length:=by rw[d6]
 have Z:=zwv L V;have J:=uj 9 (ss.map List.length) (by lia);have a:=om 9 (ss.map List.length) (by lia);have I:=yd 9 (ss.map List.length) (by rw[ac];exact L);have I:=bh I (zwu (show(ss.map List.length).sum<=7 by lia));have b:=zts (f:=9) (h:=ss.map List.length) (by lia);have c:((wds 9 (ss.map List.length)).map λo=>f6 0 (tk ss o)).Perm (CL ss 9 (ss.map List.length)):=by
  have:=b.map λo=>f6 0 (tk ss o);rw[dm] at this;exact this
 generalize wds 9 (ss.map List.length)=WS at *;have R:=ko (te:=en tp (bw (fVar 1) (bw (fVar 0) fNil))) (base:=[some (.sh (ssL ss))]) wD (λo=>D.int (f6 0 (tk ss o))) WS λo d=>by
  have S:=yw.mp ((a o).mp d);have oc:=zfx S Y (by lia) (by rw[S.len];lia);exact⟨[some (.sh (wD o)),some (.sh (ssL ss))],by simp only[en,bw,fNil,fVar,oc,ah,af,ab,aq]⟩
 have g:Few (WS.map wD).length:=few (by rw[ac];lia);have i:(WS.map λo=>D.int (f6 0 (tk ss o)))=(WS.map λo=>f6 0 (tk ss o)).map D.int:=by rw[dm];rfl
 rw[i] at R;have z:(WS.map λo=>f6 0 (tk ss o))≠[]:=λe=>J (d5.mp e);generalize j:(WS.map λo=>f6 0 (tk ss o))=cs at *;obtain⟨M,U⟩:=zji z;obtain⟨l,n⟩:=ym U;have p:p9 [.lst (cs.map D.int)]=some (.int M):=by
  unfold p9;dsimp only;rw[ints_of,ab,U];rfl
 have q:o9 (.lst (cs.map D.int)) (.int M)=some (.int (cs.count M:Nat)):=by
  unfold o9;dsimp only;rw[ints_of];rfl
 have st:St cs (cs.length:Int) M (cs.count M:Nat):=⟨rfl,λe=>absurd e z,λ_=>⟨l,n,rfl⟩⟩;refine⟨_,_,_,st.perm c,?_⟩;refine jt (e':=[some (.sh (ssL ss)),some (.sh (.lst (cs.map D.int))),some (.sh (.int M))]) rfl ?_;show z9 [some (.sh (ssL ss)),none,none]=_;have r:((cs.map D.int).length:Int)=(cs.length:Int):=by rw[ac]
 generalize cs.map D.int=CD at *;generalize WS.map wD=WD at *;generalize ssL ss=SS at *;simp only[z9,sSeq,sSet,sRet,fLst,iq,fiS,en,bw,fNil,fVar,fBin,fTup,gw,Z,g,bo,di,kb,capt,R,p,r,q,av,cw,show(0+1+1+1<=64)=True by simp,if_true,ah,af,aw,ay,ab,aq]
def pr(p:ey):Nat:=(p.map λs=>s.length+1).prod
def ztw(p:ey)(s:ew):pr (p++[s])=pr p*(s.length+1):=by unfold pr;simp
def qp(p:ey):0<pr p:=by
 induction p with
 |nil=>decide |cons s p ih=>unfold pr at ih ⊢;rw[bo,List.prod_cons];exact Nat.mul_pos (gl _) ih
def rn(s:ew)(p:ey):pr (s::p)=(s.length+1)*pr p:=by unfold pr;rw[bo,List.prod_cons]
def dg:ey->Nat->b5
 | [],_=>[] |s::p,c=>c % (s.length+1)::dg p (c / (s.length+1))
def o7:∀(p:ey) (c:Nat),(dg p c).length=p.length
 | [],_=>rfl |s::p,c=>by rw[dg,av,o7 p,av]
theorem wq:∀(p:ey) (c k:Nat),k<p.length->(dg p c).getD k 0=c / pr (p.take k) % ((p.getD k []).length+1)
 | [],_,_,h=>by cases h
 |s::p,c,0,_=>by
   rw[List.take_zero,show pr []=1 from rfl,Nat.div_one];rfl
 |s::p,c,k+1,h=>by
   rw[av] at h;rw[List.take_succ_cons,rn,<-Nat.div_div_eq_div_mul];show(dg p (c / (s.length+1))).getD k 0=_;rw[wq p _ k (by lia)];rfl
theorem wp(p:ey)(c k:Nat):(dg p c).getD k 0<=(p.getD k []).length:=by
 by_cases h:k<p.length
 ·rw[wq p c k h]
  have:=oy (c / pr (p.take k)) (gl (p.getD k []).length)
  lia
 ·rw[ae,cu (by rw[o7];lia)]
  exact eh _
def dg_0:∀p:ey,(dg p 0).sum=0
 | []=>rfl |s::p=>by rw[dg,dw,Nat.zero_mod,Nat.zero_div,dg_0 p]
theorem zrd:∀p:ey,dg p (pr p-1)=p.map List.length
 | []=>rfl |s::p=>by
   have h:=qp p;obtain⟨q,hq⟩:∃q,pr p=q+1:=⟨pr p-1,by lia⟩;have z:=zrd p;rw[hq] at z;rw[dg,rn,hq,bo];have e:(s.length+1)*(q+1)-1=s.length+(s.length+1)*q:=by rw[Nat.mul_add];lia
   rw[e,i6,lv (dz _),j3 _ _ (gl _),lw (dz _),iu];rw[show q+1-1=q by lia] at z;rw[z]
theorem zre:∀(p:ey) (c k:Nat),k<p.length->0<(dg p c).getD k 0->pr (p.take k)<=c/\dg p (c-pr (p.take k))=dec (dg p c) k
 | [],_,_,h,_=>by cases h
 |s::p,c,0,_,h=>by
   have h:0<c % (s.length+1):=h;rw[List.take_zero,show pr []=1 from rfl];have h2:=my c (s.length+1);have D:c % (s.length+1)<s.length+1:=oy _ (gl _);have R:1<=c:=by
    by_cases z:c=0
    ·subst z;simp at h
    ·lia
   refine⟨R,?_⟩;obtain⟨r,hr⟩:∃r,c % (s.length+1)=r+1:=⟨c % (s.length+1)-1,by lia⟩;have e:c-1=r+(s.length+1)*(c / (s.length+1)):=by lia
   rw[dg,dg];have S:(c-1) % (s.length+1)=r:=by rw[e,i6,lv (by lia)]
   have U:(c-1) / (s.length+1)=c / (s.length+1):=by
    rw[e,j3 _ _ (gl _),lw (show r<s.length+1 by lia),iu]
   rw[S,U,hr];rfl
 |s::p,c,k+1,h,I=>by
   rw[av] at h;have I:0<(dg p (c / (s.length+1))).getD k 0:=I;obtain⟨L,V⟩:=zre p (c / (s.length+1)) k (by lia) I;rw[List.take_succ_cons,rn];have h2:=my c (s.length+1);generalize hP:pr (p.take k)=P at *;have J:(s.length+1)*P<=c:=by
    have:=Nat.mul_le_mul_left (s.length+1) L
    lia
   refine⟨J,?_⟩;have e:c-(s.length+1)*P=c % (s.length+1)+(s.length+1)*(c / (s.length+1)-P):=by
    rw[Nat.mul_sub];have:=Nat.mul_le_mul_left (s.length+1) L
    lia
   rw[dg,dg];have D:c % (s.length+1)<s.length+1:=oy _ (gl _);rw[e,i6,lv D,j3 _ _ (gl _),lw D,iu,V];rfl
theorem zrf:∀(p:ey) (c:Nat),c<pr p->(dg p c).sum=0->c=0
 | [],c,h,_=>by have:c<1:=h;lia |s::p,c,h,e=>by
   rw[dg,dw] at e;rw[rn] at h;have h1:c / (s.length+1)=0:=zrf p _ (Nat.div_lt_of_lt_mul h) (by lia);have h2:=my c (s.length+1);rw[h1] at h2
   lia
theorem xr:∀(p:ey) (c:Nat),(dg p c).sum<=p.flatten.length
 | [],_=>bg 0 |s::p,c=>by
   rw[dg,dw,bx,aj];have:=xr p (c / (s.length+1));have:=oy c (gl s.length)
   lia
def zww:∀(p:ey),(∀s∈p,s.length<=7)->pr p<=8 ^ p.length
 | [],_=>bg 1 |s::p,h=>by
   rw[rn,av,Nat.pow_succ,Nat.mul_comm];exact Nat.mul_le_mul (zww p λt z=>h t (ak _ z)) (lr (h s au))
theorem zoy:∀(X:ew) (h:Int),0<=h->(∀x∈X,0<=x.2.1/\0<=x.2.2)->0<=f6 h X
 | [],_,_,_=>g6 0 |x::X,h,h0,hg=>by
   have z:=hg x au;have I:=zoy X (h+x.2.1) (by lia) λy D=>hg y (ak _ D);rw[f6];have:=j7 z.2 (show 0<=h+x.2.1 by lia)
   lia
theorem wo(D:∀x∈ss.flatten,gg x)(j c:Nat):0<=((ss.getD j []).getD c (0,0,0)).2.1/\0<=((ss.getD j []).getD c (0,0,0)).2.2/\((ss.getD j []).getD c (0,0,0)).2.2<=100:=by
 by_cases h:c<(ss.getD j []).length
 ·have I:j<ss.length:=by
   by_cases z:j<ss.length
   ·exact z
   ·rw[ae,cu (by lia)] at h;cases h
  have J:ss[j]?=some (ss.getD j []):=by rw[ae,ai I];rfl
  have L:(ss.getD j []).getD c (0,0,0)∈ss.getD j []:=by rw[ae (l:=ss.getD j []),ai h];exact ig h
  have:=D _ (cg.mpr ⟨_,bq J,L⟩);unfold gg at this
  lia
 ·rw[ae (l:=ss.getD j []),cu (by lia)]
  exact⟨g6 0,g6 0,by decide⟩
def zye(D:∀x∈ss.flatten,gg x)(f:Nat)(h:b5):∀x∈CL ss f h,0<=x:=λx I=>by
 obtain⟨w,_,rfl⟩:=bi.mp I;refine zoy _ 0 (g6 0) λy z=>?_;unfold tk at z;obtain⟨i,_,rfl⟩:=bi.mp z;have:=wo D ((w.reverse.getD i 0)-1) ((w.reverse.take i).count (w.reverse.getD i 0));exact⟨this.1,this.2.1⟩
def zt0(D:∀x∈ss.flatten,gg x)(h:b5):0<=j8 ss h:=zor _ _ λk z=>ul _ λx I=>by
 have z:=cx.mp z;have J:ss[k]?=some (ss.getD k []):=by rw[ae,ai z];rfl
 exact D x (cg.mpr ⟨_,bq J,j6 I⟩)
abbrev dOf(ss:ey)(h:b5)(j:Nat):Int:=((ss.getD j []).getD (h.getD j 0-1) (0,0,0)).2.2*j8 ss h
abbrev rwF(ss:ey)(h:b5)(j:Nat):cc:=if 0<h.getD j 0 then(CL ss 8 (dec h j)).map (· + dOf ss h j) else[]
abbrev Tr:=Int×Int×Int
abbrev trD(r:Tr):D:=.lst [.int r.1,.int r.2.1,.int r.2.2]
abbrev stp(p:ey):ei:=(List.range (p.length+1)).map λi=>D.int ((pr (p.take i):Nat):Int)
theorem zrg{p:ey}{k:Nat}(h:k<=p.length):atI (stp p) (k:Int)=some (.int ((pr (p.take k):Nat):Int)):=jz (λi=>D.int ((pr (p.take i):Nat):Int)) (ir (by lia))
def stp_last(p:ey):atI (stp p) (-1)=some (.int ((pr p:Nat):Int)):=by
 unfold stp;rw[fj,b7,iz,zot,jg]
theorem zwx(E:∀x∈ss.flatten,gg x)(hn:ss.length<=5){c:Nat}{I:List Tr}{v2:ep}(hc:I.length=c)(hr:∀(i:Nat) (r:Tr),I[i]?=some r->St (CL ss 9 (dg ss i)) r.1 r.2.1 r.2.2)(h7:ss.flatten.length<=7)(V Y Z:ep):∃w m q S J L,St (((List.range ss.length).map (rwF ss (dg ss c))).flatten) w m q /\
  forL 10 mx (rngD 0 ss.length) [some (.sh (ssL ss)),some (.ow (stp ss)),v2,some (.ow (I.map trD)),some (.sh (.int (c:Int))),some (.sh (.lst (iD (dg ss c)))),some (.sh (.int (j8 ss (dg ss c)))),some (.sh (.int 0)),some (.sh (.int (-1))),some (.sh (.int 0)),V,Y,Z] =
   some (.nx,[some (.sh (ssL ss)),some (.ow (stp ss)),v2,some (.ow (I.map trD)),some (.sh (.int (c:Int))),some (.sh (.lst (iD (dg ss c)))),some (.sh (.int (j8 ss (dg ss c)))),some (.sh (.int w)),some (.sh (.int m)),some (.sh (.int q)),S,J,L]):=by
 obtain⟨e',h1,w,m,q,S,J,L,st,rfl⟩:=nj (i:=10) (g:=mx) (λk e=>∃w m q S J L,St (((List.range k).map (rwF ss (dg ss c))).flatten) w m q/\e=[some (.sh (ssL ss)),some (.ow (stp ss)),v2,some (.ow (I.map trD)),some (.sh (.int (c:Int))),some (.sh (.lst (iD (dg ss c)))),some (.sh (.int (j8 ss (dg ss c)))),some (.sh (.int w)),some (.sh (.int m)),some (.sh (.int q)),S,J,L])
  (rngD 0 ss.length) [some (.sh (ssL ss)),some (.ow (stp ss)),v2,some (.ow (I.map trD)),some (.sh (.int (c:Int))),some (.sh (.lst (iD (dg ss c)))),some (.sh (.int (j8 ss (dg ss c)))),some (.sh (.int 0)),some (.sh (.int (-1))),some (.sh (.int 0)),V,Y,Z] ⟨0,-1,0,V,Y,Z,St.nil,rfl⟩ (by
    rintro k d e T ⟨w,m,q,S,J,L,st,rfl⟩;obtain⟨rfl,W⟩:=ng T;rw[eg];have X:k<(dg ss c).length:=by rw[o7];exact W
    have U:atI (iD (dg ss c)) (k:Int)=some (.int ((dg ss c).getD k 0:Nat)):=by
     have e0:(dg ss c)[k]?=some ((dg ss c).getD k 0):=by rw[ae,ai X];rfl
     exact jz (λn:Nat=>D.int (n:Int)) e0
    have ef:((List.range (k+1)).map (rwF ss (dg ss c))).flatten=((List.range k).map (rwF ss (dg ss c))).flatten++rwF ss (dg ss c) k:=by
     rw[fj,b7,d7];simp
    have nn:∀x∈((List.range k).map (rwF ss (dg ss c))).flatten,0<=x:=λx t=>by
     obtain⟨l,hl,t⟩:=cg.mp t;obtain⟨j,_,rfl⟩:=bi.mp hl;unfold rwF at t;split at t
     ·obtain⟨y,hy,rfl⟩:=bi.mp t
      have:=zye E 8 _ y hy;have:=j7 (wo E j ((dg ss c).getD j 0-1)).2.1 (zt0 E (dg ss c));unfold dOf
      lia
     ·exact absurd t fu
    rw[ef];by_cases F:0<(dg ss c).getD k 0
    ·obtain⟨d1,d2⟩:=zre ss c k W F
     have pk:=qp (ss.take k);have G:=zrg (p:=ss) (k:=k) (by lia);have aa:c-pr (ss.take k)<I.length:=by lia
     obtain⟨r,hre⟩:∃r,I[c-pr (ss.take k)]?=some r:=⟨_,ai aa⟩;have a:=hr _ r hre;rw[d2] at a;have sd:=lc (dg ss c) k F;have ds:=xr ss c;have fe:CL ss 9 (dec (dg ss c) k)=CL ss 8 (dec (dg ss c) k):=by unfold CL;rw[zls 9 8 _ (by lia) (by lia)]
     rw[fe] at a;have v:CL ss 8 (dec (dg ss c) k)≠[]:=λe=>uj 8 (dec (dg ss c) k) (by lia) (d5.mp e);have H:rwF ss (dg ss c) k=(CL ss 8 (dec (dg ss c) k)).map (· + dOf ss (dg ss c) k):=by unfold rwF;rw[if_pos F]
     have A:=a.add v (dOf ss (dg ss c) k);rw[<-H] at A;have b:=st.app A (by rw[H];exact λe=>v (d5.mp e)) nn;have B:atI (I.map trD) ((c:Int)-((pr (ss.take k):Nat):Int))=some (trD r):=by
      rw[show(c:Int)-((pr (ss.take k):Nat):Int)=((c-pr (ss.take k):Nat):Int) by lia];exact jz trD hre
     have hs:ss[k]?=some (ss.getD k []):=by rw[ae,ai W];rfl
     have K:atI (ss.map λs=>D.lst (s.map sD)) (k:Int)=some (.lst ((ss.getD k []).map sD)):=jz (λs:ew=>D.lst (s.map sD)) hs;have dl:=wp ss c k;have C:atI ((ss.getD k []).map sD) (((dg ss c).getD k 0:Nat)-1:Int)=some (sD ((ss.getD k []).getD ((dg ss c).getD k 0-1) (0,0,0))):=by
      rw[show(((dg ss c).getD k 0:Nat)-1:Int)=(((dg ss c).getD k 0-1:Nat):Int) by lia];refine jz sD ?_;rw[ae (l:=ss.getD k []),ai (by lia)];rfl
     have lb:=wo E k ((dg ss c).getD k 0-1);unfold dOf at b;generalize (ss.getD k []).getD ((dg ss c).getD k 0-1) (0,0,0)=x at *;have mm:dMul (.int x.2.2) (.int (j8 ss (dg ss c)))=some (.int (x.2.2*j8 ss (dg ss c))):=oa (ku (by lia));have gt:decide ((0:Int)<((dg ss c).getD k 0:Nat))=true:=decide_eq_true (by lia);obtain⟨f,R,h⟩:=r;have M:atI [D.int f,.int R,.int h] 0=some (.int f):=rfl;have N:atI [D.int f,.int R,.int h] 1=some (.int R):=rfl;have R2:atI [D.int f,.int R,.int h] 2=some (.int h):=rfl;have O:atI [D.int x.1,.int x.2.1,.int x.2.2] 2=some (.int x.2.2):=rfl;rw[show sD x=.tup [.int x.1,.int x.2.1,.int x.2.2] from rfl] at C;rw[show trD (f,R,h)=.lst [.int f,.int R,.int h] from rfl] at B;dsimp only at b;generalize x.2.2*j8 ss (dg ss c)=dd at *;refine⟨_,?_,_,_,_,some (.sh (.int (k:Int))),some (.sh (.lst [.int f,.int R,.int h])),some (.sh (.int (R+dd))),b,rfl⟩;show mx [some (.sh (ssL ss)),some (.ow (stp ss)),v2,some (.ow (I.map trD)),some (.sh (.int (c:Int))),some (.sh (.lst (iD (dg ss c)))),some (.sh (.int (j8 ss (dg ss c)))),some (.sh (.int w)),some (.sh (.int m)),some (.sh (.int q)),some (.sh (.int (k:Int))),J,L]=_;unfold ssL;generalize iD (dg ss c)=TD at *;generalize ((dg ss c).getD k 0:Nat)=tk0 at *;generalize j8 ss (dg ss c)=HO at *;generalize I.map trD=RD at *;generalize stp ss=SD at *;generalize (ss.map λs=>D.lst (s.map sD))=SL at *;by_cases o:m<0\/R+dd<m
     ·rw[if_pos o,if_pos o]
      by_cases c0:m<0
      ·have u:decide (m<0)=true:=decide_eq_true c0
       simp only[mx,sIf,sSeq,sSet,sNil,fTst,fBin,fIxV,ixSl,fVar,fC,dGt,gt,U,G,dSub,B,M,N,R2,dIx,K,C,O,mm,gn,fOr,dLt,u,dEq,decide_true,eg,if_true,ah,af,aw,ay,ab,aq]
      ·have u:decide (m<0)=false:=decide_eq_false c0
       have P:decide (R+dd<m)=true:=decide_eq_true (o.resolve_left c0);simp only[mx,sIf,sSeq,sSet,sNil,fTst,fBin,fIxV,ixSl,fVar,fC,dGt,gt,U,G,dSub,B,M,N,R2,dIx,K,C,O,mm,gn,fOr,dLt,u,P,dEq,decide_true,eg,if_true,cq,if_false,ah,af,aw,ay,ab,aq]
     ·rw[if_neg o,if_neg o]
      have u:decide (m<0)=false:=decide_eq_false λz=>o (.inl z);have P:decide (R+dd<m)=false:=decide_eq_false λz=>o (.inr z);by_cases Q:R+dd=m
      ·have b3:decide (R+dd=m)=true:=decide_eq_true Q
       rw[if_pos Q];simp only[mx,sIf,sSeq,sSet,sNil,fTst,fBin,fIxV,ixSl,fVar,fC,dGt,gt,U,G,dSub,B,M,N,R2,dIx,K,C,O,mm,gn,fOr,dLt,u,P,b3,dEq,if_true,cq,if_false,ah,af,aw,ay,ab,aq]
      ·have b3:decide (R+dd=m)=false:=decide_eq_false Q
       rw[if_neg Q];simp only[mx,sIf,sSeq,sSet,sNil,fTst,fBin,fIxV,ixSl,fVar,fC,dGt,gt,U,G,dSub,B,M,N,R2,dIx,K,C,O,mm,gn,fOr,dLt,u,P,b3,dEq,if_true,cq,if_false,ah,af,aw,ay,ab,aq]
    ·have H:rwF ss (dg ss c) k=[]:=by unfold rwF;rw[if_neg F]
     rw[H,ca];have gt:decide ((0:Int)<((dg ss c).getD k 0:Nat))=false:=decide_eq_false (by lia);refine⟨[some (.sh (ssL ss)),some (.ow (stp ss)),v2,some (.ow (I.map trD)),some (.sh (.int (c:Int))),some (.sh (.lst (iD (dg ss c)))),some (.sh (.int (j8 ss (dg ss c)))),some (.sh (.int w)),some (.sh (.int m)),some (.sh (.int q)),some (.sh (.int (k:Int))),J,L],?_,w,m,q,_,_,_,st,rfl⟩;show mx [some (.sh (ssL ss)),some (.ow (stp ss)),v2,some (.ow (I.map trD)),some (.sh (.int (c:Int))),some (.sh (.lst (iD (dg ss c)))),some (.sh (.int (j8 ss (dg ss c)))),some (.sh (.int w)),some (.sh (.int m)),some (.sh (.int q)),some (.sh (.int (k:Int))),J,L]=_;generalize iD (dg ss c)=TD at *;simp only[mx,sIf,sNil,fTst,fBin,fIxV,ixSl,fVar,fC,dGt,gt,U,cq,if_false,ah,af,aw,ay,ab,aq])
 rw[np] at st;exact⟨w,m,q,S,J,L,st,h1⟩
def zoz(n:Nat):rngD 0 n=(List.range n).map λi:Nat=>D.int (0+(i:Int)):=rfl
theorem zmp(Y:pr ss<=100000)(c:Nat):jy fYes (fBin dMod (fBin dDiv (fVar 1) (fIxV 2 (fVar 0))) (fBin gn (en bLen (bw (fIxV 3 (fVar 0)) fNil)) (fC (.int 1)))) [some (.sh (.int (c:Int))),some (.sh (.lst (stp ss))),some (.sh (ssL ss))] (rngD 0 ss.length)=some (iD (dg ss c)):=by
 rw[zoz];have I:=ko (te:=fBin dMod (fBin dDiv (fVar 1) (fIxV 2 (fVar 0))) (fBin gn (en bLen (bw (fIxV 3 (fVar 0)) fNil)) (fC (.int 1)))) (base:=[some (.sh (.int (c:Int))),some (.sh (.lst (stp ss))),some (.sh (ssL ss))]) (λi:Nat=>D.int (0+(i:Int))) (λi:Nat=>D.int (((dg ss c).getD i 0:Nat):Int)) (List.range ss.length) λj z=>by
  have z:=cx.mp z;have J:ss[j]?=some (ss.getD j []):=by rw[ae,ai z];rfl
  have L:atI (ss.map λs=>D.lst (s.map sD)) (0+(j:Int))=some (.lst ((ss.getD j []).map sD)):=by rw[eg];exact jz (λs:ew=>D.lst (s.map sD)) J
  have R:atI (stp ss) (0+(j:Int))=some (.int ((pr (ss.take j):Nat):Int)):=by rw[eg];exact zrg (by lia)
  have Z:=qp (ss.take j);have pl:pr (ss.take j)<=pr ss:=by
   have:pr ss=pr (ss.take j)*pr (ss.drop j):=by
    conv=>lhs;rw[<-ju j ss]
    unfold pr;rw[b7,List.prod_append]
   rw[this];exact Nat.le_mul_of_pos_right _ (qp _)
  have S:dDiv (.int (c:Int)) (.int ((pr (ss.take j):Nat):Int))=some (.int ((c:Int) / ((pr (ss.take j):Nat):Int))):=zs4 (by lia) (by lia);have U:((((ss.getD j []).map sD).length:Nat):Int)=((ss.getD j []).length:Int):=by rw[ac]
  have mo:dMod (.int ((c:Int) / ((pr (ss.take j):Nat):Int))) (.int (((ss.getD j []).length:Int)+1))=some (.int ((c:Int) / ((pr (ss.take j):Nat):Int) % (((ss.getD j []).length:Int)+1))):=zs3 (by lia);have V:(c:Int) / ((pr (ss.take j):Nat):Int) % (((ss.getD j []).length:Int)+1)=(((dg ss c).getD j 0:Nat):Int):=by
   rw[wq ss c j z];rfl
  rw[V] at mo;refine⟨[some (.sh (.int (0+(j:Int)))),some (.sh (.int (c:Int))),some (.sh (.lst (stp ss))),some (.sh (ssL ss))],?_⟩;unfold ssL;generalize stp ss=SD at *;generalize (ss.map λs=>D.lst (s.map sD))=SL at *;simp only[fBin,fVar,fIxV,ixSl,en,bw,fNil,fC,R,S,L,bLen,U,gn,mo,ah,af,aw,ay,ab,aq]
 rw[I];congr 1;unfold iD;apply List.ext_getElem
 ·rw[ac,ac,h9,o7]
 ·intro i h1 h2
  rw[List.getElem_map,List.getElem_map,List.getElem_range,ae,ai (by simpa using h2)];rfl
theorem zo0(V:ss.flatten.length<=7)(c:Nat):jy fYes (en bSum (bw (fLst (iq (fiS (fLst (fSl (fIxV 1 (fVar 0)) fO0 (fO1 (fIxV 2 (fVar 0)))))) [] fYes (fIxV 0 (fC (.int 1))))) fNil)) [some (.sh (ssL ss)),some (.sh (.lst (iD (dg ss c))))] (rngD 0 ss.length)=some ((List.range ss.length).map λi=>D.int (hrs ((ss.getD i []).take ((dg ss c).getD i 0)))):=by
 rw[zoz];refine ko (λi:Nat=>D.int (0+(i:Int))) (λi:Nat=>D.int (hrs ((ss.getD i []).take ((dg ss c).getD i 0)))) (List.range ss.length) λj z=>?_;have z:=cx.mp z;have I:ss[j]?=some (ss.getD j []):=by rw[ae,ai z];rfl
 have J:atI (ss.map λs=>D.lst (s.map sD)) (0+(j:Int))=some (.lst ((ss.getD j []).map sD)):=by rw[eg];exact jz (λs:ew=>D.lst (s.map sD)) I
 have L:atI (iD (dg ss c)) (0+(j:Int))=some (.int (((dg ss c).getD j 0:Nat):Int)):=by
  rw[eg];have R:(dg ss c)[j]?=some ((dg ss c).getD j 0):=by rw[ae,ai (by rw[o7];exact z)];rfl
  exact jz (λn:Nat=>D.int (n:Int)) R
 have dl:=wp ss c j;have ct:=zlm ((ss.getD j []).map sD) ((dg ss c).getD j 0) (by rw[ac];exact dl);rw[<-qz] at ct;have Y:=(cf (bq I)).length_le;have S:Few (((ss.getD j []).take ((dg ss c).getD j 0)).map sD).length:=few (by rw[ac,dn];lia);have U:=ko (te:=fIxV 0 (fC (.int 1))) (base:=[]) sD (λx:Sk=>D.int x.2.1) ((ss.getD j []).take ((dg ss c).getD j 0)) λs _=>⟨_,by simp[sD,o3];rfl⟩;have bs:=q0 (λx:Sk=>x.2.1) ((ss.getD j []).take ((dg ss c).getD j 0));refine⟨[some (.sh (.int (0+(j:Int)))),some (.sh (ssL ss)),some (.sh (.lst (iD (dg ss c))))],?_⟩;unfold ssL;rw[show hrs ((ss.getD j []).take ((dg ss c).getD j 0))=(((ss.getD j []).take ((dg ss c).getD j 0)).map λx:Sk=>x.2.1).sum from rfl];generalize ((ss.getD j []).take ((dg ss c).getD j 0)).map (λx:Sk=>D.int x.2.1)=H1 at *;generalize ((ss.getD j []).take ((dg ss c).getD j 0)).map sD=H2 at *;generalize (((ss.getD j []).take ((dg ss c).getD j 0)).map λx:Sk=>x.2.1).sum=H3 at *;generalize iD (dg ss c)=TD at *;generalize (ss.map λs=>D.lst (s.map sD))=SL at *;simp only[en,bw,fNil,fLst,iq,fiS,fSl,fO0,fO1,fVar,fIxV,ixSl,fC,J,L,ct,S,U,bs,di,if_true,ah,af,aw,ay,ab,aq]
theorem zqm(A:∀x∈ss.flatten,gg x)(B:ss.length<=5)(y:ss.flatten.length<=7)(C:pr ss<=100000)(v2:ep) :
  ∃(z:List Tr) (a R S U V Y I J L:ep),z.length=pr ss/\(∀(i:Nat) (r:Tr),z[i]?=some r->St (CL ss 9 (dg ss i)) r.1 r.2.1 r.2.2) /\
  forL 4 tw (rngD 1 (pr ss-1)) [some (.sh (ssL ss)),some (.ow (stp ss)),v2,some (.ow [trD (1,0,1)]),none,none,none,none,none,none,none,none,none] =
   some (.nx,[some (.sh (ssL ss)),some (.ow (stp ss)),v2,some (.ow (z.map trD)),a,R,S,U,V,Y,I,J,L]):=by
 have O:=qp ss;obtain⟨e',h1,z,a,R,S,U,V,Y,I,J,L,b,l,rfl⟩:=nj (i:=4) (g:=tw) (λi e=>∃(z:List Tr) (a R S U V Y I J L:ep),z.length=i+1/\(∀(j:Nat) (r:Tr),z[j]?=some r->St (CL ss 9 (dg ss j)) r.1 r.2.1 r.2.2)/\e=[some (.sh (ssL ss)),some (.ow (stp ss)),v2,some (.ow (z.map trD)),a,R,S,U,V,Y,I,J,L])
  (rngD 1 (pr ss-1)) [some (.sh (ssL ss)),some (.ow (stp ss)),v2,some (.ow [trD (1,0,1)]),none,none,none,none,none,none,none,none,none] ⟨[(1,0,1)],none,none,none,none,none,none,none,none,none,rfl,λj r h=>by
    have Z:j=0:=by have:=(am.mp h).1;simpa using this
    subst Z;cases h;have E:CL ss 9 (dg ss 0)=[0]:=by
     unfold CL;rw[wds,if_pos (dg_0 ss)];rfl
    rw[E];exact⟨rfl,λe=>(by cases e),λ_=>⟨by simp,λx F=>by cases de.mp F;exact g6 0,rfl⟩⟩,rfl⟩ (by
    rintro i d e n ⟨z,a,R,S,U,V,Y,I,J,L,b,l,rfl⟩;obtain⟨rfl,hi⟩:=ng n;rw[show(1:Int)+(i:Int)=((i+1:Nat):Int) by lia];have tc:=zmp C (i+1);have G:=zo0 y (i+1);have bs:=q0 (λk:Nat=>hrs ((ss.getD k []).take ((dg ss (i+1)).getD k 0))) (List.range ss.length);rw[show((List.range ss.length).map λk:Nat=>hrs ((ss.getD k []).take ((dg ss (i+1)).getD k 0))).sum=j8 ss (dg ss (i+1)) from rfl] at bs;have o:=l5 ss.length (by lia);have H:Few (rngD 0 ss.length).length:=few (by rw[np];lia);have p:(iD (dg ss (i+1))).all qd=true:=by
     unfold iD;rw[List.all_map];exact gm.mpr λ_ _=>rfl
    obtain⟨w,m,q,t,u,v,st,h2⟩:=zwx (v2:=v2) A B b l y I J L;have ds:=xr ss (i+1);have K:(dg ss (i+1)).sum≠0:=λe=>by
     have:=zrf ss (i+1) (by lia) e
     lia
    have cs:=ztu (ss:=ss) (f:=8) (h:=dg ss (i+1)) (o7 ss _) (λk=>wp ss (i+1) k) (by lia) K;rw[o7] at cs;rw[show((List.range ss.length).map (rwF ss (dg ss (i+1)))).flatten=CL ss 9 (dg ss (i+1)) from cs.symm] at st;have fa:Few ((z.map trD).length+1):=few (by rw[ac];lia);refine⟨[some (.sh (ssL ss)),some (.ow (stp ss)),v2,some (.ow ((z++[(w,m,q)]).map trD)),some (.sh (.int ((i+1:Nat):Int))),some (.sh (.lst (iD (dg ss (i+1))))),some (.sh (.int (j8 ss (dg ss (i+1))))),some (.sh (.int w)),some (.sh (.int m)),some (.sh (.int q)),t,u,v],?_,z++[(w,m,q)],_,_,_,_,_,_,_,_,_,by rw[aj,cr];lia,λj r Z=>?_,rfl⟩
    ·show tw [some (.sh (ssL ss)),some (.ow (stp ss)),v2,some (.ow (z.map trD)),some (.sh (.int ((i+1:Nat):Int))),R,S,U,V,Y,I,J,L]=_
     rw[b7,iz];have lss:(((ss.map λs=>D.lst (s.map sD)).length:Nat):Int)=(ss.length:Int):=by rw[ac]
     unfold ssL at *;generalize ((List.range ss.length).map λk:Nat=>D.int (hrs ((ss.getD k []).take ((dg ss (i+1)).getD k 0))))=HL at *;generalize iD (dg ss (i+1))=TD at *;generalize j8 ss (dg ss (i+1))=HO at *;generalize z.map trD=RD at *;generalize stp ss=SD at *;generalize (ss.map λs=>D.lst (s.map sD))=SL at *;generalize rngD 0 ss.length=RN at *;simp only[tw,sSeq,sSet,sFor,jj,fLst,pd,iq,gs,en,bw,fNil,gw,lss,o,H,if_true,bo,di,kb,List.getD_cons_succ,k6,capt,tc,p,G,bs,fC,fUn,dNeg,h2,kv,o4,gk,fVar,fa,av,cw,show(0+1+1+1<=64)=True by simp,ah,af,aw,ay,ab,aq]
    ·by_cases c:j<z.length
     ·rw[ce c] at Z
      exact l j r Z
     ·have M:=(am.mp Z).1
      rw[aj,cr] at M;have N:j=i+1:=by lia
      subst N;rw[<-b,nz] at Z;cases Z;exact st)
 rw[np] at b;exact⟨z,a,R,S,U,V,Y,I,J,L,by lia,l,h1⟩
theorem zqn(p:ey)(s:ew):stp (p++[s])=stp p++[.int ((pr (p++[s]):Nat):Int)]:=by
 unfold stp;rw[aj,cr,fj,b7,iz];congr 1
 ·refine eo λi hi=>?_
  have:=cx.mp hi;rw[im (by lia)]
 ·rw[g9 (by simp)]
theorem ir2(h1:0<n)(h2:n<=100000):iR2 [.int 1,.int (n:Int)]=some (rngD 1 (n-1)):=by
 unfold iR2;dsimp only;rw[if_pos ⟨⟨by decide,by decide⟩,⟨by lia,by lia⟩⟩,show((n:Int)-1).toNat=n-1 by lia]
theorem zjw(d:∀x∈ss.flatten,gg x)(U:ss.length<=5)(V:ss.flatten.length<=7) :
  ∃w m k,St (CL ss 9 (ss.map List.length)) w m k/\z0 [ssL ss]=some (.lst [.int w,.int m,.int k]):=by
 have Y:∀s∈ss,s.length<=7:=λs f=>bh (cf f).length_le V;have Z:pr ss<=100000:=bh (zww ss Y) (bh (j2 (by decide) U) (by decide));have h:=qp ss;obtain⟨G,h1,v2,rfl⟩:=p0 (i:=2) (g:=z7) (λs:ew=>D.lst (s.map sD)) (λp e=>∃v2,e=[some (.sh (ssL ss)),some (.ow (stp p)),v2,none,none,none,none,none,none,none,none,none,none]) ss [some (.sh (ssL ss)),some (.ow [.int 1]),none,none,none,none,none,none,none,none,none,none,none] ⟨none,rfl⟩ (by
  rintro p s q e I ⟨v2,rfl⟩;have j:=Y s (by rw[I];simp);have pl:p.length<=5:=by have:=congrArg List.length I;simp at this;lia
  have l:=stp_last p;have n:(((s.map sD).length:Nat):Int)=(s.length:Int):=by rw[ac]
  have mm:dMul (.int ((pr p:Nat):Int)) (.int ((s.length:Int)+1))=some (.int (((pr p:Nat):Int)*((s.length:Int)+1))):=x9 (ku (by lia));have o:((pr p:Nat):Int)*((s.length:Int)+1)=((pr (p++[s]):Nat):Int):=by rw[ztw];simp
  rw[o] at mm;have fa:Few ((stp p).length+1):=few (by unfold stp;rw[ac,h9];lia);refine⟨[some (.sh (ssL ss)),some (.ow (stp (p++[s]))),some (.sh (.lst (s.map sD))),none,none,none,none,none,none,none,none,none,none],?_,_,rfl⟩;rw[zqn];generalize stp p=SP at *;generalize s.map sD=SL at *;simp only[z7,jj,kv,o4,fBin,fIxV,ixSl,fUn,dNeg,fC,gw,l,n,gn,mm,fa,if_true,ah,af,aw,ay,ab,aq])
 obtain⟨z,t,u,v,y,A,B,J,L,R,a,C,h2⟩:=zqm d U V Z v2;obtain⟨r,hre⟩:∃r,z[pr ss-1]?=some r:=⟨_,ai (by lia)⟩;have st:=C _ r hre;rw[zrd] at st;obtain⟨b,hR0⟩:∃b,z=b++[r]:=by
  have S:z≠[]:=λe=>by rw[e] at a;simp at a;lia
  refine⟨z.dropLast,?_⟩;have:z.getLast S=r:=by
   rw[List.getLast_eq_getElem];have:=(am.mp hre).2;rw[<-this];congr 1
   lia
  rw[<-this,List.dropLast_concat_getLast]
 have c:atI (z.map trD) (-1)=some (trD r):=by rw[hR0,b7,iz];exact zot _ _
 have E:=stp_last ss;have F:=ir2 h Z;obtain⟨w,m,k⟩:=r;refine⟨w,m,k,st,?_⟩;refine jt (e':=[some (.sh (ssL ss)),some (.ow (stp ss)),v2,some (.ow (z.map trD)),t,u,v,y,A,B,J,L,R]) rfl ?_;show z4 [some (.sh (ssL ss)),none,none,none,none,none,none,none,none,none,none,none,none]=_;rw[show trD (1,0,1)=D.lst [.int 1,.int 0,.int 1] from rfl] at h2;rw[show trD (w,m,k)=D.lst [.int w,.int m,.int k] from rfl] at c;unfold ssL at *;generalize z.map trD=RD at *;generalize stp ss=SD at *;generalize rngD 1 (pr ss-1)=RN at *;generalize (ss.map λs=>D.lst (s.map sD))=SL at *;simp only[z4,sSeq,sOwn,sFor,sRet,gk,bw,fNil,fC,fiS,fVar,fLst,h1,gs,fIxV,ixSl,fUn,dNeg,E,F,h2,c,av,cw,show(0+1<=64)=True by simp,show(0+1+1+1<=64)=True by simp,if_true,ah,af,aw,ay,ab,aq]
theorem zt1{l:cc}{w m k D z I:Int}(h:St l w m k)(h':St l D z I)(J:l≠[]):w=D/\m=z/\k=I:=by
 obtain⟨L,R,S⟩:=h.n J;obtain⟨U,V,b3⟩:=h'.n J;have e:m=z:=by
  have:=R z U;have:=V m L
  lia
 subst e;exact⟨by rw[h.w,h'.w],rfl,by rw[S,b3]⟩
theorem good(ns:cc)(f:ns.length<=63):zwt [.lst (ns.map D.int)]=some (.bl true):=by
 obtain⟨cs,g,hd⟩:=zqc ns 15 (by lia);obtain⟨ss,U,z⟩:=zn4 cs 7 (by lia) (by lia);rw[zya] at z;have hd:tu [.lst (ns.map D.int),.int 15]=some (.lst (cs.map D.int)):=hd;have z:vh [.lst (cs.map D.int),.int 7]=some (ssL ss):=z;have c:=U.many;have d:=U.tot;have I:=U.good;have V:=ztg ss (by lia);have Y:=zhm ss (by lia) λs h=>bh (cf h).length_le (by lia);obtain⟨ts,ok,Z⟩:=zhl ss I (by lia);have J:=zil ok Z I (by lia) (by lia);obtain⟨w,m,k,st,i⟩:=zjv c d I;obtain⟨B,C,E,a,j⟩:=zjw I c d;have sm:(ss.map List.length).sum=ss.flatten.length:=by rw[d6]
 have L:CL ss 9 (ss.map List.length)≠[]:=λe=>uj 9 (ss.map List.length) (by lia) (d5.mp e);obtain⟨rfl,rfl,rfl⟩:=zt1 st a L;obtain⟨l,o,_⟩:=st.n L;have R:=om 9 (ss.map List.length) (by lia);have p:f6 0 (tk ss (ip ts))=m:=by
  have q:f6 0 (tk ss (ip ts))∈CL ss 9 (ss.map List.length):=bi.mpr ⟨(ip ts).reverse,(R _).mpr (ut.mpr (yw.mpr ok.whole)),by rw[j5]⟩;have r:=o _ q;obtain⟨v,t,u⟩:=bi.mp l;have x:=yw.mp (ut.mpr ((R v).mp t));have y:=least ok I x;rw[show flat ts=tk ss (ip ts) from(ztn ok).symm] at y;rw[<-u] at r ⊢
  lia
 rw[p] at J;have A:=zk8 m;have b:=zg8 [w,m,k] (by simp);have b:tz [.tup [.int w,.int m,.int k],.tup [.int w,.int m,.int k]]=some (.bl true):=b;have S:D.lst (ss.map λs=>D.lst (s.map sD))=ssL ss:=rfl;refine jt (e':=[some (.sh (.lst (ns.map D.int))),some (.sh (ssL ss)),some (.sh (ssL ss)),some (.sh (.tup [.int w,.int m,.int k])),some (.sh (.int m)),some (.sh (.lst [.int w,.int m,.int k]))]) rfl ?_;show wt [some (.sh (.lst (ns.map D.int))),none,none,none,none,none]=_;generalize ns.map D.int=NS at *;generalize cs.map D.int=CS at *;generalize (ss.map λs=>D.lst (s.map sD))=SD at *;generalize ssL ss=SL at *;simp only[wt,sSeq,sSet,sIf,sRet,sNil,en,gs,bw,fNil,fVar,fC,fLst,hd,z,V,S,i,J,j,fOr,fNot,fTst,Y,fTup,fIxV,ixSl,xk,o3,p8,b,A,qi,fBin,dEq,decide_true,av,cw,show(0+1+1+1<=64)=True by simp,if_true,Bool.not_true,cq,if_false,ah,af,aw,ay,ab,aq]
end SQ
end
open PySem PySem.W PyProof.Rows
open L2 (us1 us2 us3 us4 us5)
theorem PySem.Challenge.cw_rotstacks_k14_least_of_all_holds : PySem.Challenge.rw_rotstacks_k14_least_of_all.Holds := by
 refine headO ?_
 k_fill
 refine L2.walkD (k:=13) (s:="_law_script") (l:=PySem.Challenge.rw_rotstacks_k14_least_of_all) ⟨rfl,by decide,by decide⟩ rfl rfl (λw h Y=>PySem.W.kIn_of Y) ?F;case F =>
  intro w mg fa h KX G hmg;refine' L2.law_mk KX G hmg ?a ?l ?c ?k ?b (SQ.ok_all _ _ _ _ _ _ _ _ _ _ _ _ _ _ _ _ _ _ _ _ _ _ _ _ _ _ _ _ _ _ _ _ _ _ _ _ _ _ _ _ _ _ _ _ _) SQ.good
  (case a=>k_is)
  (case l=>k_is)
  (case c=>k_is)
  (case k=>k_is)
  (case b=>exact λv=>rfl)
  all_goals first | (refine' L2.def_mk (by assumption) (by assumption) ?a ?l ?c ?k ?b;(case a=>k_is);(case l=>k_is);(case c=>k_is);(case k=>k_is);(case b=>first |exact us1 λ_=>rfl |exact us2 λ_ _=>rfl |exact us3 λ_ _ _=>rfl |exact us4 λ_ _ _ _=>rfl |exact us5 λ_ _ _ _ _=>rfl)) |exact PySem.W.mg_none_of KX G (by k_is) | (refine' L2.con_mk KX G ?a;(case a=>k_is)) |k_is

