import PyProof.Rows.All
import Wide.All
import OpenK.AllK
import Wide.FinOn
import Lean
import PyProof.EqAt
import PyProof.EqKinds
import PyProof.TupleCall
import PyProof.Draws
import PyProof.ZipIter
import PyProof.EnumMake
import PyProof.AttrMissHeap
import KE.KDictOf
import PyProof.Rows.SeqMore2
import PyProof.Rows.SortWalk
import KE.KTryMore
import PyProof.RulesAs
import PyProof.NsDelKeeps
import KE.KIsAll
import PyProof.ExcArgs
import PySem.Challenge.RW_rotstacks_k14_least_of_all
set_option Elab.async false
set_option linter.all false
set_option maxRecDepth 100000
set_option compiler.extract_closed false
set_option bootstrap.genMatcherCode false
local macro_rules | `(↑$t)=>`(some $t)
local macro_rules | `(command|@[simp] def $i:declId $s:optDeclSig $v:declVal)=>`(command|@[simp] noncomputable def $i:declId $s:optDeclSig $v:declVal)
local macro_rules | `(command|def $i:declId $s:optDeclSig $v:declVal)=>`(command|noncomputable def $i:declId $s:optDeclSig $v:declVal)
set_option maxHeartbeats 0
def ab:=@Option.bind_some
def ac:=@List.length_map
def ae:=@List.getD_eq_getElem?_getD
def af:=@List.getElem?_cons_succ
def ah:=@List.getElem?_cons_zero
def ai:=@List.mem_cons_of_mem
def aj:=@List.length_append
def ak:=@List.getElem?_eq_getElem
def am:=@List.length_cons
def aq:=@List.getElem?_eq_some_iff
def au:=@List.mem_cons_self
def av:=@Option.map_some
def aw:=@List.set_cons_zero
def ay:=@Option.some.inj
def az:=@List.set_cons_succ
def a0:=@List.size_toArray
def ba:=@Nat.lt_of_lt_of_le
def bc:=@PySem.Heap.get?_push_of_some
def bg:=@Nat.le_refl
def bh:=@List.map_cons
def bi:=@Nat.le_trans
def bj:=@List.mem_map
def bn:=@List.mem_of_getElem?
def bo:=@PySem.Heap.lt_size
def bq:=@List.mem_append_right
def bu:=@List.getElem?_map
def bv:=@Bool.false_ne_true
def bw:=@List.flatten_cons
def bz:=@Nat.ne_of_lt
def b6:=@List.lookup_cons
def b7:=@List.map_append
def b8:=@List.mem_cons
def b9:=@List.getElem?_append_left
def ca:=@List.getElem?_eq_none
def cb:=@List.append_assoc
def ce:=@List.append_nil
def cf:=@PySem.Heap.get?_push_size
def cg:=@List.sublist_flatten_of_mem
def cj:=@List.mem_flatten
def cr:=@Bool.false_eq_true
def cu:=@List.length_singleton
def cv:=@Option.bind_eq_some_iff
def cw:=@List.mem_append
def cx:=@List.length_nil
def cy:=@List.mem_range
def de:=@List.mem_append_left
def df:=@List.mem_singleton
def dh:=@PySem.mem_of_lookup
def di:=@PySem.W.kia_one
def dm:=@List.map_nil
def dn:=@List.map_map
def dq:=@List.length_take
def du:=@List.singleton_append
def dw:=@List.sum_cons
def dy:=@List.length_set
def dz:=@PySem.F.plainAttrs_list
def d3:=@Nat.lt_succ_self
def d4:=@List.getElem?_set_ne
def d5:=@PyProof.Rows.callWith_type1
def d6:=@List.getElem?_append_right
def d7:=@List.map_eq_nil_iff
def d8:=@List.length_flatten
def d9:=@List.flatten_append
def ee:=@List.nodup_cons
def eh:=@List.pairwise_cons
def ek:=@Int.mul_le_mul_of_nonneg_right
def en:=@Int.zero_add
def eo:=@Nat.zero_le
def e9:=@List.map_congr_left
def fb:=@List.getElem?_set_self
def fc:=@List.filter_eq_nil_iff
def ff:=@List.not_mem_nil
def fg:=@List.cons_append
def fj:=@List.all_eq_true
def fm:=@Bool.and_eq_true
def fq:=@List.length_replicate
def ft:=@List.drop_eq_getElem_cons
def fu:=@List.range_succ
def fx:=@List.ext_getElem?
def fy:=@List.count_cons_self
def fz:=@Int.toNat_natCast
def f6:=@Int.mul_add
def f7:=@Array.length_toList
def f8:=@Int.mul_comm
def gc:=@List.mem_filter
def gh:=@Nat.lt_irrefl
def gi:=@Int.mul_assoc
def gk:=@Nat.lt_succ_of_lt
def gl:=@Int.add_mul
def gp:=@Nat.succ_pos
def gv:=@List.replicate_succ
def gw:=@List.length_pos_iff
def gz:=@List.find?_cons
def g7:=@List.sum_eq_zero_iff_forall_eq_nat
def g8:=@List.filter_append
def g9:=@Int.le_refl
def ib:=@Option.map_eq_some_iff
def ic:=@List.take_of_length_le
def ie:=@List.length_range
def ig:=@List.count_append
def ij:=@List.takeWhile_append_dropWhile
def il:=@List.getElem_mem
def im:=@List.drop_length
def ip:=@List.take_append_of_le_length
def iq:=@List.pairwise_append
def ir:=@List.of_mem_zip
def iy:=@List.getElem?_range
def iz:=@Nat.zero_add
def i4:=@List.map_singleton
def i5:=@List.count_reverse
def i6:=@Int.le_of_mul_le_mul_right
def i8:=@Nat.add_mul_mod_self_left
def ja:=@List.reverse_cons
def jb:=@List.pairwise_map
def jc:=@List.getElem?_set
def jh:=@Nat.le_of_not_lt
def ji:=@List.take_length
def jj:=@List.filter_cons_of_pos
def jk:=@List.filter_cons_of_neg
def jp:=@List.count_cons
def jq:=@Bool.eq_iff_iff
def jw:=@List.take_append_drop
def jx:=@List.eq_nil_or_concat
def jy:=@List.count_cons_of_ne
def jz:=@List.concat_eq_append
def j3:=@Nat.sub_succ_lt_self
def j4:=@Nat.pow_le_pow_right
def j5:=@Nat.add_mul_div_left
def j6:=@List.take_left
def j7:=@List.reverse_reverse
def j8:=@List.mem_of_mem_take
def j9:=@Int.mul_nonneg
def kf:=@List.getD_cons_zero
def kg:=@List.filterMap_cons
def kj:=@PySem.W.mg_of
def kl:=@List.cons.inj
def km:=@Int.add_assoc
def kq:=@Int.mul_right_comm
def kr:=@Int.emod_lt_of_pos
def k4:=@PySem.W.kitx_list
def k5:=@Nat.succ.inj
def k6:=@Nat.ne_of_gt
def k7:=@Nat.lt_of_succ_le
def k8:=@Nat.le_succ_of_le
def k9:=@Nat.le_of_lt
def lc:=@Bool.not_eq_true'
def lr:=@List.eraseIdxIfInBounds_toArray
def lz:=@Nat.succ_le_succ
def l0:=@Nat.mod_eq_of_lt
def l3:=@Nat.div_eq_of_lt
def l4:=@List.perm_middle
def l5:=@List.mem_reverse
def l6:=@List.map_snd_zip
def l8:=@List.length_drop
def mv:=@List.eq_nil_of_length_eq_zero
def mw:=@List.count_eq_zero_of_not_mem
def mx:=@Int.mul_le_mul_of_nonneg_left
def m9:=@Nat.mod_add_div
def nc:=@Nat.le_antisymm
def ng:=@List.nil_append
def nh:=@Int.emod_nonneg
def og:=@List.getElem?_concat_length
def o6:=@Nat.mod_lt
def o7:=@List.take_succ
def o8:=@List.nodup_iff_pairwise_ne
def rj:=@PySem.F.type_list_append
def rn:=@PySem.F.slot_list_append
def rq:=@Option.isSome_iff_exists
def r8:=@List.map_take
def se:=@List.any_cons
def ui:=@List.getElem?_replicate
def uj:=@List.eraseIdx_cons_succ
abbrev b2:=List PySem.Str
abbrev b4:=List PySem.Value
abbrev b5:=Option PySem.Value
abbrev cc:=List PySem.Addr
abbrev cd:=List Nat
abbrev ci:=List Int
abbrev cm:=List PySem.Env
abbrev da:=List PySem.Expr
abbrev dc:=Option PySem.Str
abbrev dt:=Option Int
abbrev eb:=PySem.W.Frag
abbrev ed:=List (PySem.Addr×PySem.Obj)
abbrev ei:=Array PySem.Value
namespace PySem.W.Fast
def tw13184622150755146257:=0
def tw12228147544654841872:=0
def tw3301900299095288138:=0
def tw14726039395708169042:=0
def tw8750706357444734042:=0
def tw11695338289939695011:=0
def tw11281214088086372846:=0
def tw18082950596058812086:=0
def tw14375272207224854766:=0
def tw11276991364880623187:=0
def tw15974327944981590682:=0
def tw5276463441047106903:=0
def tw15359102603107413231:=0
def tw8733693490319877307:=0
def tw12791392028554949626:=0
def tw13615431965992697423:=0
def tw8140187065305788796:=0
def tw7753557234431668989:=0
def tw10843531812203080730:=0
def tw16359311613717473350:=0
def tw13039843896363346800:=0
def tw6276198620921834515:=0
def tw17806559798037380195:=0
def tw7550565278720862832:=0
def tw189144516369473838:=0
def tw3198611166169939942:=0
def tw1818741713449625889:=0
def tw8864141805567143515:=0
def tw11514965064213606460:=0
def tw14434645473729482494:=0
def tw8591202846033229865:=0
def tw1100227391971026961:=0
def tw2824953636588753854:=0
def tw7203798550950037231:=0
def tw8860451591181354368:=0
def tw7027161504191823226:=0
def tw5346366755811755404:=0
def tw13034153179754800167:=0
def tw1791896970342499120:=0
def tw8132564728747547695:=0
def tw9274248297696571190:=0
def tw4730779231596670380:=0
def tw12753231255117558486:=0
def tw4895425382642465790:=0
def tw13720367999651837026:=0
def tw3430228630206576119:=0
def tw14584273011410283914:=0
def tw12978444730273849538:=0
def tw587545333870980003:=0
def tw16784015904583153738:=0
def tw113418834073767240:=0
def tw5967039926259306271:=0
def tw15594794917597159775:=0
def tw12269178056795562494:=0
def tw17134667622271701769:=0
def tw13617027138147984029:=0
def tw15146276678955778912:=0
def tw15509039178638469261:=0
def tw11462230743417447401:=0
def tw15974428737142519235:=0
end PySem.W.Fast
open_top headO for PySem.Challenge.rw_rotstacks_k14_least_of_all
noncomputable section
namespace L2
open PySem PySem.Spec PyProof.Rows
abbrev Key:=Sum Int Str
def zum:Key->Value->Bool
 | .inl k,v=>Value.isInt k v | .inr x,v=>Value.isStrOf x v
def keyH(w:World):Key->Int
 | .inl k=>hashInt k | .inr x=>hashStr w x
def n6:∀ {k:Key} {v:Value},zum k v=true->(∃i t,k=Sum.inl i/\v=Value.int i t)\/(∃x t,k=Sum.inr x/\v=Value.str x t)
 | .inl i,v,h=>by
   obtain⟨t,e⟩:=Value.isInt_shape (k:=i) (v:=v) h;exact .inl ⟨i,t,rfl,e⟩
 | .inr x,v,h=>by
   obtain⟨t,e⟩:=Value.isStrOf_shape (x:=x) (v:=v) h;exact .inr ⟨x,t,rfl,e⟩
def zun(a b:Int):decide ((Sum.inl a:Key)=Sum.inl b)=(a==b):=by
 by_cases e:a=b
 ·subst e;simp
 ·have h:¬(Sum.inl a:Key)=Sum.inl b:=λq=>e (Sum.inl.inj q)
  rw[decide_eq_false h];exact(beq_eq_false_iff_ne.mpr e).symm
def zuo(a b:Str):decide ((Sum.inr a:Key)=Sum.inr b)=decide (a=b):=by
 by_cases e:a=b
 ·subst e;simp
 ·have h:¬(Sum.inr a:Key)=Sum.inr b:=λq=>e (Sum.inr.inj q)
  rw[decide_eq_false h,decide_eq_false e]
def zup(a:Int)(b:Str):decide ((Sum.inl a:Key)=Sum.inr b)=false:=decide_eq_false (λq=>nomatch q)
def zuq(a:Str)(b:Int):decide ((Sum.inr a:Key)=Sum.inl b)=false:=decide_eq_false (λq=>nomatch q)
def zm8(prog:Program)(w:World):PySem.KeyKind prog w Key where
 is:=zum
 hash:=keyH w
 inj:=λv a b I D=>by
  rcases n6 I with⟨i,t,rfl,rfl⟩ | ⟨x,t,rfl,rfl⟩
  ·rcases n6 D with⟨j,u,rfl,e⟩ | ⟨y,u,rfl,e⟩
   ·injection e with e1 _;rw[e1]
   ·exact nomatch e
  ·rcases n6 D with⟨j,u,rfl,e⟩ | ⟨y,u,rfl,e⟩
   ·exact nomatch e
   ·injection e with e1 _;rw[e1]
 byValue:=λk v h=>by
  rcases n6 h with⟨i,t,rfl,rfl⟩ | ⟨x,t,rfl,rfl⟩ <;> rfl
 pyHash:=λz h=>by
  rcases n6 z with⟨i,t,rfl,rfl⟩ | ⟨x,t,rfl,rfl⟩
  ·exact wpAny_pyHash_int h
  ·exact wpAny_pyHash_str h
 eqBool:=λL z h=>by
  rcases n6 L with⟨i,t,rfl,rfl⟩ | ⟨x,t,rfl,rfl⟩
  ·rcases n6 z with⟨j,u,rfl,rfl⟩ | ⟨y,u,rfl,rfl⟩
   ·rw[zun] at h;exact wpAny_eqBool_int h
   ·rw[zup] at h;exact SeqAt.EqAt.int_str i t y u _ _ _ _ h
  ·rcases n6 z with⟨j,u,rfl,rfl⟩ | ⟨y,u,rfl,rfl⟩
   ·rw[zuq] at h;exact SeqAt.EqAt.str_int x t j u _ _ _ _ h
   ·rw[zuo] at h;exact wpAny_eqBool_str h
 «strs»:=λk x t v h=>by
  rcases n6 h with⟨i,u,rfl,e⟩ | ⟨y,u,rfl,e⟩
  ·exact nomatch e
  ·injection e with e1 _
   subst e1;cases v <;> rfl
inductive V where
 |non |bl (b:Bool) |int (i:Int) |str (x:Str) |byt (b:Array UInt8) |flt (b:UInt64) |ref (a:Addr) |ty (n:String)
 deriving DecidableEq
abbrev el:=List V
def RelV:V->Value->Prop
 | .non,u=>u=Value.none | .bl b,u=>u=Value.bool b | .int i,u=>∃t,u=Value.int i t
 | .str x,u=>∃t,u=Value.str x t | .byt b,u=>∃t,u=Value.bytes b t | .flt b,u=>∃t,u=Value.float b t | .ref a,u=>u=Value.ref a | .ty n,u=>u=Value.type n
abbrev Vals:el->b4->Prop:=Paired RelV
def Vals.length{xs:el}{us:b4}(r:Vals xs us):xs.length=us.length:=Paired.length r
def Vals.get:∀ {xs:el} {us:b4} {i:Nat} {x:V},Vals xs us->xs[i]?=↑x->∃u,us[i]?=↑u/\RelV x u
 |_,_,_,_,.nil,e=>by simp at e |_,_,0,_,.cons r _,e=>by simp at e;subst e;exact⟨_,rfl,r⟩ |_,_,i+1,x,.cons _ t,e=>by
   obtain⟨u,h1,h2⟩:=Vals.get (i:=i) (x:=x) t (by simpa using e);exact⟨u,by simpa using h1,h2⟩
def Vals.set{x:V}{u:Value}(r:RelV x u):∀ {xs:el} {us:b4} (i:Nat),Vals xs us->Vals (xs.set i x) (us.set i u)
 |_,_,_,.nil=>.nil |_,_,0,.cons _ t=>.cons r t |_,_,i+1,.cons q t=>.cons q (Vals.set r i t)
variable{xs ys:el}{us:b4}
def Vals.append{z:b4}(h:Vals xs us)(s:Vals ys z):Vals (xs++ys) (us++z):=by
 induction h with
 |nil=>exact s |cons r _ q=>exact .cons r q
def Vals.take:∀ {xs:el} {us:b4} (n:Nat),Vals xs us->Vals (xs.take n) (us.take n)
 |_,_,0,_=>.nil |_,_,_+1,.nil=>.nil |_,_,n+1,.cons r t=>.cons r (Vals.take n t)
def Vals.drop:∀ {xs:el} {us:b4} (n:Nat),Vals xs us->Vals (xs.drop n) (us.drop n)
 |_,_,0,r=>r |_,_,_+1,.nil=>.nil |_,_,n+1,.cons _ t=>Vals.drop n t
def RelO:Option V->b5->Prop
 |some v,↑u=>RelV v u |none,none=>True |_,_=>False
def KV{κ:Type}:List (κ×V)->List (κ×Value)->Prop:=Paired λ(p:κ×V) (q:κ×Value)=>p.1=q.1/\RelV p.2 q.2
def kV:Key->V
 | .inl i=>.int i
 | .inr x=>.str x
inductive HO where
 |lst (xs:el)
 |tup (xs:el)
 |dK (kvs:List (Key×V)) |dT (kvs:List (List Key×V))
 |set (S:Int->Bool) (n:Nat)
 |ins (C dx:Addr) (fs:List (Str×V))
 |own (x:Addr)
 |xd (fs:List (Str×V))
 |met (f x:Addr)
 |rng (lo hi:Int)
 |frz (o:Obj) (u:HO)
 |tbl (ps:ei)
 |ext (φ:Heap->Prop)
abbrev Hp:=Addr->Option HO
def upd(H:Hp)(a:Addr)(o:HO):Hp:=λb=>if b=a then ↑o else H b
variable{H:Hp}{a:Addr}{o:HO}
def ko:upd H a o a=↑o:=by unfold upd;rw[if_pos rfl]
variable{b:Addr}
def h9(h:b≠a):upd H a o b=H b:=by unfold upd;rw[if_neg h]
def lq(h:H a=↑o)(h':H b=none):a≠b:=by
 intro e;subst e;rw[h] at h';cases h'
section
variable (P:Program) (w:World)
def ObjOk(H:Hp)(h:Heap)(a:Addr):HO->Prop
 | .lst xs=>xs.length<=sizeLine/\∃(its:b4) (n:Nat),Vals xs its/\h.get? a=some { cls:=.type "list",data:=.seq its.toArray n } | .tup xs=>xs.length<=sizeLine/\∃its:b4,Vals xs its/\IsTup h a its.toArray | .dK kvs=>kvs.length<=sizeLine/\(a==sysModules)=false/\∃vs,KV kvs vs/\h.DictOf (zm8 P w) a vs | .dT kvs=>kvs.length<=sizeLine/\(a==sysModules)=false/\∃xs:List (List Key×Addr×Value),
    Paired (λ(p:List Key×V) (q:List Key×Addr×Value)=>p.1=q.1/\H q.2.1=↑(.tup (p.1.map kV))/\RelV p.2 q.2.2) kvs xs /\
    ∃o es z,h.get? a=↑o/\o.ExactDict/\o.data=.dict es z/\es.toList=xs.map (entryOfKey (tupleKind (zm8 P w)))/\(xs.map (·.1)).Nodup
 | .set S n=>h.SetOf (intKind P w) a S n | .ins C dx fs=>H dx=↑(.own a)/\fs.length<=1000/\dx≠a/\h.get? a=↑(PySem.W.instObj C dx) /\
    ∃mA,h.Ns1 dx mA/\(∀f,RelO (fs.lookup f) (mA f))/\PySem.Within mA (fs.map (·.1))
 | .own _=>∃o,h.get? a=↑o | .xd fs=>∃mA,h.Ns1 a mA/\∀f,RelO (fs.lookup f) (mA f) | .rng lo hi=>∃t u v,h.get? a=some { cls:=.type "range",data:=.fields #[.int lo t,.int hi u,.int 1 v] } | .frz o u=>h.get? a=↑o/\ObjOk H h a u | .tbl ps=>h.get? a=some { cls:=.none,data:=.fields ps } | .met f x=>h.get? a=↑(PySem.W.methodObj (.ref f) (.ref x)) | .ext φ=>φ h/\(∃o,h.get? a=↑o)/\∀h1 h2:Heap,φ h1->(∀o,h1.get? a=↑o->h2.get? a=↑o)->φ h2
def HOk(H:Hp)(h:Heap):Prop:=∀a o,H a=↑o->ObjOk P w H h a o
end
variable{P:Program}{w:World}{h:Heap}
def ObjOk.lt(x:ObjOk P w H h a o):a<h.objs.size:=by
 cases o with
 |lst xs=>obtain⟨_,_,_,_,e⟩:=x;exact bo e |tup xs=>obtain⟨_,_,_,p⟩:=x;exact p.lt |dK kvs=>obtain⟨_,_,_,_,o,_,_,e,_⟩:=x;exact bo e |dT kvs=>obtain⟨_,_,_,_,o,_,_,e,_⟩:=x;exact bo e |set S n=>obtain⟨o,_,_,_,e,_⟩:=x;exact bo e |ins C dx fs=>obtain⟨_,_,_,e,_⟩:=x;exact bo e |own y=>obtain⟨_,e⟩:=x;exact bo e |xd fs=>obtain⟨_,⟨_,_,_,e,_⟩,_⟩:=x;exact bo e |rng lo hi=>obtain⟨_,_,_,e⟩:=x;exact bo e |frz ob u=>obtain⟨e,_⟩:=x;exact bo e |tbl ps=>exact bo (show h.get? a=↑_ from x) |met f y=>exact bo (show h.get? a=↑_ from x) |ext φ=>obtain⟨_,⟨_,e⟩,_⟩:=x;exact bo e
variable{α:Type}
def Paired.mapP{β:Type}{F G:α->β->Prop}{z:List α}{D:List β}(h:Paired F z D)(f:∀a b,F a b->G a b):Paired G z D:=by
 induction h with
 |nil=>exact .nil |cons r _ q=>exact .cons (f _ _ r) q
variable{H':Hp}{h':Heap}
def ObjOk.stay(x:ObjOk P w H h a o)(k:∀b u,(b=a\/H b=↑(.own a))->h.get? b=↑u->h'.get? b=↑u)(L:∀b,H b=↑(.own a)->H' b=↑(.own a))(U:∀b xs,H b=↑(.tup xs)->H' b=↑(.tup xs)):ObjOk P w H' h' a o:=by
 induction o with
 |lst xs=>obtain⟨z,its,n,r,e⟩:=x;exact⟨z,its,n,r,k _ _ (.inl rfl) e⟩ |tup xs=>obtain⟨z,its,r,D,e,c⟩:=x;exact⟨z,its,r,D,k _ _ (.inl rfl) e,c⟩ |dK kvs=>obtain⟨z,y,vs,r,D,es,I,e,c⟩:=x;exact⟨z,y,vs,r,D,es,I,k _ _ (.inl rfl) e,c⟩ |dT kvs =>
   obtain⟨z,y,xs,r,D,es,I,e,c⟩:=x;exact⟨z,y,xs,Paired.mapP r λp q z=>⟨z.1,U _ _ z.2.1,z.2.2⟩,D,es,I,k _ _ (.inl rfl) e,c⟩
 |set S n=>obtain⟨D,es,I,t,e,c⟩:=x;exact⟨D,es,I,t,k _ _ (.inl rfl) e,c⟩ |ins C dx fs =>
   obtain⟨d,z,V,e,mA,⟨od,es,I,Y,c⟩,r⟩:=x;exact⟨L _ d,z,V,k _ _ (.inl rfl) e,mA,⟨od,es,I,k _ _ (.inr d) Y,c⟩,r⟩
 |own y=>obtain⟨D,e⟩:=x;exact⟨D,k _ _ (.inl rfl) e⟩ |xd fs=>obtain⟨mA,⟨od,es,I,e,c⟩,r⟩:=x;exact⟨mA,⟨od,es,I,k _ _ (.inl rfl) e,c⟩,r⟩ |rng lo hi=>obtain⟨t,u,v,e⟩:=x;exact⟨t,u,v,k _ _ (.inl rfl) e⟩ |frz D u ih=>obtain⟨e,q⟩:=x;exact⟨k _ _ (.inl rfl) e,ih q⟩ |tbl ps =>
   have e:h.get? a=some { cls:=.none,data:=.fields ps }:=x;show h'.get? a=some { cls:=.none,data:=.fields ps };exact k a _ (.inl rfl) e
 |met f y =>
   have e:h.get? a=↑(PySem.W.methodObj (.ref f) (.ref y)):=x;show h'.get? a=↑(PySem.W.methodObj (.ref f) (.ref y));exact k a _ (.inl rfl) e
 |ext φ=>obtain⟨p,⟨o,e⟩,st⟩:=x;exact⟨st _ _ p λo q=>k _ _ (.inl rfl) q,⟨o,k _ _ (.inl rfl) e⟩,st⟩
def HOk.lt(x:HOk P w H h)(e:H a=↑o):a<h.objs.size:=(x a o e).lt
def HOk.fresh(x:HOk P w H h)(e:h.objs.size<=a):H a=none:=by
 cases q:H a with
 |none=>rfl |some u=>exact absurd (ba (x.lt q) e) (gh _)
def HOk.kept(x:HOk P w H h)(k:∀b u,h.get? b=↑u->h'.get? b=↑u):HOk P w H h':=λa o e =>
 (x a o e).stay (λb u _ q=>k b u q) (λ_ q=>q) λ_ _ q=>q
def HOk.laid(x:HOk P w H h)(k:∀b u,h.get? b=↑u->h'.get? b=↑u)(L:h.objs.size<=a)(z:ObjOk P w (upd H a o) h' a o):HOk P w (upd H a o) h':=λb u e=>by
 have D:=x.fresh L;by_cases I:b=a
 ·subst I;rw[ko] at e;cases e;exact z
 ·rw[h9 I] at e
  exact(x b u e).stay (λc v _ q=>k c v q) (λc q=>by rw[h9 (lq q D)];exact q) λc xs q=>by rw[h9 (lq q D)];exact q
def Rd(H:Hp)(a:Addr)(u:HO):Prop:=H a=↑u\/∃o,H a=↑(.frz o u)
variable{u:Value}
def Rd.ok{u:HO}(r:Rd H a u)(x:HOk P w H h):ObjOk P w H h a u:=by
 rcases r with r | ⟨o,r⟩
 ·exact x a u r
 ·obtain⟨_,q⟩:=x a _ r
  exact q
def Mut:Option HO->Prop
 |some (.lst _)=>True |some (.dK _)=>True |some (.dT _)=>True |some (.set _ _)=>True |some (.ins _ _ _)=>True |some (.ext _)=>True |_=>False
variable{x e:Addr}{o':HO}
def HOk.write(ok:HOk P w H h)(S:Mut (H x))(Z:e=x\/H e=↑(.own x))(k:∀b u,b≠e->h.get? b=↑u->h'.get? b=↑u)(V:∃u,h'.get? e=↑u)(Y:ObjOk P w (upd H x o') h' x o'):HOk P w (upd H x o') h':=λb u q=>by
 have I:∀c y,H c=↑(.own y)->c≠x:=λc y r z=>by subst z;rw[r] at S;exact S
 have L:∀c xs,H c=↑(.tup xs)->c≠x:=λc xs r z=>by subst z;rw[r] at S;exact S
 by_cases U:b=x
 ·subst U;rw[ko] at q;cases q;exact Y
 ·rw[h9 U] at q
  by_cases D:b=e
  ·have a:H b=↑(.own x):=by
    rcases Z with z |z
    ·exact absurd (D.trans z) U
    ·rw[D];exact z
   rw[q] at a;cases a;obtain⟨v,d⟩:=V;exact⟨v,by rw[D];exact d⟩
  ·refine(ok b u q).stay (λc v hc r=>k c v ?_ r) (λc r=>by rw[h9 (I c b r)];exact r) λc xs r=>by rw[h9 (L c xs r)];exact r
   rcases hc with rfl |hc
   ·exact D
   ·rintro rfl
    rcases Z with z |z
    ·exact I c b hc z
    ·rw[hc] at z;cases z;exact U rfl
structure Un (fs ex:cc) (H H':Hp) (h h':Heap):Prop where
 keep:∀b o,h.get? b=↑o->H b=none->b∉fs->b∉ex->h'.get? b=↑o
 slot:∀b o,h.get? b=↑o->H b=none->b∈fs->b∉ex->∃sl,h'.get? b=some { o with slots:=sl }
 free:∀b o,h.get? b=↑o->H b=none->b∉ex->H' b=none
 there:∀b o,h.get? b=↑o->b∉ex->∃o',h'.get? b=↑o'
 tups:∀b xs,H b=↑(.tup xs)->H' b=↑(.tup xs)
 frzs:∀b o u,H b=↑(.frz o u)->H' b=↑(.frz o u)
 tbls:∀b ps,H b=↑(.tbl ps)->∃more,H' b=↑(.tbl (ps++more))
variable{fs ex:cc}{H1:Hp}{h1:Heap}
def Un.any(u:Un fs ex H H1 h h1){z:Obj}(q:h.get? b=↑z)(n:H b=none)(D:b∉ex):∃L,h1.get? b=some { z with slots:=L }:=by
 by_cases I:b∈fs
 ·exact u.slot b z q n I D
 ·exact⟨z.slots,u.keep b z q n I D⟩
variable{H2:Hp}{h2:Heap}
def Un.trans(a:Un fs ex H H1 h h1)(b:Un fs ex H1 H2 h1 h2):Un fs ex H H2 h h2 where
 keep:=λc z q n L D=>b.keep c z (a.keep c z q n L D) (a.free c z q n D) L D
 slot:=λc z q n L D=>by
  obtain⟨Z,I⟩:=a.slot c z q n L D;obtain⟨S,U⟩:=b.slot c _ I (a.free c z q n D) L D;exact⟨S,U⟩
 free:=λc z q n D=>by
  obtain⟨o',I⟩:=a.there c z q D;exact b.free c o' I (a.free c z q n D) D
 there:=λc z q D=>by
  obtain⟨o',I⟩:=a.there c z q D;exact b.there c o' I D
 tups:=λc xs q=>b.tups c xs (a.tups c xs q)
 frzs:=λc z xs q=>b.frzs c z xs (a.frzs c z xs q)
 tbls:=λc ps q=>by
  obtain⟨V,I⟩:=a.tbls c ps q;obtain⟨Y,U⟩:=b.tbls c _ I;exact⟨V++Y,by rw[U,Array.append_assoc]⟩
def Un.kept(k:∀b u,h.get? b=↑u->h'.get? b=↑u):Un fs ex H H h h' :=
 ⟨λb z q _ _ _=>k b z q,λb z q _ _ _=>⟨z.slots,k b z q⟩,λ_ _ _ n _=>n,λb z q _=>⟨z,k b z q⟩,λ_ _ q=>q,λ_ _ _ q=>q,λ_ ps q=>⟨#[],by rw[q];simp⟩⟩
def Un.refl:Un fs ex H H h h:=Un.kept λ_ _ q=>q
def Un.laid(k:∀b u,h.get? b=↑u->h'.get? b=↑u)(D:h.objs.size<=a)(z:H a=none):Un fs ex H (upd H a o) h h' where
 keep:=λb u q _ _ _=>k b u q
 slot:=λb u q _ _ _=>⟨u.slots,k b u q⟩
 free:=λb u q n _=>by rw[h9 (bz (ba (bo q) D))];exact n
 there:=λb u q _=>⟨u,k b u q⟩
 tups:=λb xs q=>by rw[h9 (lq q z)];exact q
 frzs:=λb u xs q=>by rw[h9 (lq q z)];exact q
 tbls:=λb ps q=>⟨#[],by rw[h9 (lq q z),q];simp⟩
def Un.write(I:Mut (H x))(Y:e=x\/H e=↑(.own x))(k:∀b u,b≠e->h.get? b=↑u->h'.get? b=↑u)(L:∃u,h'.get? e=↑u):Un fs ex H (upd H x o) h h':=by
 have U:∀b,H b=none->b≠x:=λb n z=>by subst z;rw[n] at I;exact I
 have V:∀b,H b=none->b≠e:=λb n z=>by
  subst z;rcases Y with r |r
  ·exact U b n r
  ·rw[n] at r;cases r
 have S:∀b u,H b=↑u->¬Mut ↑u->b≠x:=λb u q nm z=>by subst z;rw[q] at I;exact nm I
 refine⟨λb u q n _ _=>k b u (V b n) q,λb u q n _ _=>⟨u.slots,k b u (V b n) q⟩,λb u q n _=>by rw[h9 (U b n)];exact n,λb u q _=>?_,
  λb xs q=>by rw[h9 (S b _ q λz=>z)];exact q,λb u xs q=>by rw[h9 (S b _ q λz=>z)];exact q,λb ps q=>⟨#[],by rw[h9 (S b _ q λz=>z),q];simp⟩⟩
 by_cases D:b=e
 ·subst D;exact L
 ·exact⟨u,k b u D q⟩
variable{fs' ex':cc}
def Un.mono(u:Un fs ex H H1 h h1)(S:∀b∈fs,b∈fs')(L:∀b∈ex,b∈ex'):Un fs' ex' H H1 h h1 :=
 ⟨λb I q n U D=>u.keep b I q n (λz=>U (S b z)) λz=>D (L b z),λ_ _ q n _ D=>u.any q n λz=>D (L _ z),λb I q n D=>u.free b I q n λz=>D (L b z),λb I q D=>u.there b I q λz=>D (L b z),u.tups,u.frzs,u.tbls⟩
def trk(h:Heap)(H:Hp):cc:=(List.range h.objs.size).filter λa=>(H a).isSome
def hidT(h:Heap)(H:Hp):Heap:=PySem.W.hideAll h (trk h H)
def zm9(h:Heap)(H:Hp):(hidT h H).objs.size=h.objs.size:=PySem.W.hideAll_size _ _
variable{o:Obj}
def zph(e:h.get? b=↑o)(n:H b=none):(hidT h H).get? b=↑o :=
 PySem.W.hideAll_get _ e λz=>by
  have q:(H b).isSome=true:=(gc.mp z).2;rw[n] at q;simp at q
def zr1(e:(hidT h H).get? b=↑o):h.get? b=↑o/\H b=none:=by
 have e':h.get? b=↑o:=PySem.W.of_hideAll (trk h H) e;refine⟨e',?_⟩;cases q:H b with
 |none=>rfl |some x =>
   have D:b∈trk h H:=gc.mpr ⟨cy.mpr (bo e'),by simp[q]⟩;have z:(hidT h H).get? b=none:=PySem.W.hideAll_none (trk h H) D;rw[z] at e;cases e
structure Mod (K:eb) (mg:Str->b5) (base:Heap):Prop where
 kin:K.In base
 glob:base.Ns mainGlobals mg
 blt:∃mb,base.Ns builtinsNs mb/\∀x:Str,x ≠ "__name__"->mb x=bootBuiltins x
 nolimit:base.NoLimit
structure Cx where
 prog:Program
 w:World
 K:eb
 mg:Str->b5
 base:Heap
 A:Around
 N:b2
 s₀:Shared
 H₀:Hp
 env:Env
 outer:cm
 stack:cm
 ex:cc
 fn:Str->Bool
 calm:Bool
 pn:ed
 xe:Value->Shared->Prop
def frs(l:cm):cc:=l.filterMap (·.frame)
protected abbrev Cx.fs(X:Cx):cc:=frs X.outer
def Vis(sc:Scope)(x:Str):Prop:=sc.names.lookup x=some .local\/sc.names.lookup x=some .cell\/sc.names.lookup x=some .free
def Loc(sc:Scope)(x:Str):Prop:=sc.names.lookup x=some .local\/sc.names.lookup x=some .cell
def Look(env:Env)(h:Heap)(m:Str->b5)(x:Str)(u:Value):Prop :=
 (env.kindOf x=some .local/\m x=↑u)\/((env.kindOf x=some .cell\/env.kindOf x=some .free)/\∃c,env.cells.lookup x=↑c/\h.IsCell c ↑u)
structure Cx.Ok (X:Cx):Prop where
 mod:Mod X.K X.mg X.base
 kind:X.env.scope.kind=.function
 glob:X.env.globals=mainGlobals
 blt:X.env.builtins=builtinsNs
 above:X.s₀.heap.objs.size<=X.env.locals
 inj:∀x y c,X.env.cells.lookup x=↑c->X.env.cells.lookup y=↑c->x=y
 has:∀x,(X.env.kindOf x=some .cell\/X.env.kindOf x=some .free)->∃c,X.env.cells.lookup x=↑c
 cab:∀x c,X.fn x=true->X.env.cells.lookup x=↑c->X.s₀.heap.objs.size<=c
 hd:X.calm=true->X.A.handled=none
 frames:X.A.frames=↑X.stack
 stk:X.stack=X.outer\/(X.stack=X.env::X.outer/\X.env.frame=↑X.env.locals)
 exf:∀b∈X.ex,b≠X.env.locals/\∀x c,X.env.cells.lookup x=↑c->c≠b
 bs:∀b o,X.base.get? b=↑o->X.s₀.heap.get? b=↑o/\X.H₀ b=none
 bsz:X.base.objs.size<=X.s₀.heap.objs.size
 noex:∀b o,X.base.get? b=↑o->b∉X.ex
 exfs:∀b∈X.ex,b∉X.fs
 funs:X.s₀.heap.FunFrames X.base X.outer
 frf:∀b∈X.fs,X.H₀ b=none
structure Inv (X:Cx) (pins:ed) (σ:List (Option V)) (H:Hp) (s:Shared):Prop where
 ok:X.Ok
 os:s.os=X.s₀.os
 bare:AllBare s.gens
 base:Un X.fs X.ex X.H₀ H X.s₀.heap s.heap
 loc:∃m,s.heap.Ns X.env.locals m/\∀(i:Nat) (x:Str) (v:V),X.N[i]?=↑x->σ[i]?=↑↑v->Vis X.env.scope x->∃u,RelV v u/\Look X.env s.heap m x u
 cell:∀x c,X.env.cells.lookup x=↑c->∃v,s.heap.IsCell c v
 free:H X.env.locals=none
 freeC:∀x c,X.env.cells.lookup x=↑c->H c=none
 pin:∀p∈X.pn++pins,s.heap.get? p.1=↑p.2/\H p.1=none/\p.1≠X.env.locals/\p.1∉X.fs/\∀v,p.2.data≠.cell v
 hok:HOk X.prog X.w H s.heap
 len:σ.length=X.N.length
variable{X:Cx}
def Cx.Ok.nofr(ok:X.Ok)(e:X.base.get? b=↑o):b∉X.fs:=λz=>by
 have:=(ok.funs.mem z).1;rw[e] at this;cases this
variable{pins:ed}{σ:List (Option V)}{s:Shared}
def Inv.bs(I:Inv X pins σ H s):∀b o,X.base.get? b=↑o->s.heap.get? b=↑o/\H b=none:=λb o e =>
 ⟨I.base.keep b o (I.ok.bs b o e).1 (I.ok.bs b o e).2 (I.ok.nofr e) (I.ok.noex b o e),I.base.free b o (I.ok.bs b o e).1 (I.ok.bs b o e).2 (I.ok.noex b o e)⟩
def Inv.bk(I:Inv X pins σ H s):∀b o,X.base.get? b=↑o->s.heap.get? b=↑o:=λb o e=>(I.bs b o e).1
def Inv.mod(I:Inv X pins σ H s):Mod X.K X.mg X.base:=I.ok.mod
def Inv.kIn(I:Inv X pins σ H s):X.K.In s.heap:=I.ok.mod.kin.keeps I.bk
def Inv.lt(I:Inv X pins σ H s):X.env.locals<s.heap.objs.size:=let ⟨_,z,_⟩:=I.loc;z.lt
def Inv.sz(I:Inv X pins σ H s):X.s₀.heap.objs.size<=s.heap.objs.size:=bi I.ok.above (k9 I.lt)
def Inv.nofs(I:Inv X pins σ H s)(h:s.heap.objs.size<=a):a∉X.fs:=λz=>by
 obtain⟨_,o,D,_⟩:=I.ok.funs.mem z;exact absurd (ba (bo D) (bi I.sz h)) (gh _)
def Inv.cne(I:Inv X pins σ H s):∀x c,X.env.cells.lookup x=↑c->c≠X.env.locals:=λx c e z=>by
 obtain⟨v,o,S,hd⟩:=I.cell x c e;obtain⟨m,⟨o',es,U,D,L,_⟩,_⟩:=I.loc;rw[z,D] at S;cases S;rw[L] at hd;cases hd
def Inv.funs(I:Inv X pins σ H s):s.heap.FunFrames X.base X.outer:=by
 have all:∀(l:cm),(∀b∈frs l,b∈X.fs)->X.s₀.heap.FunFrames X.base l->s.heap.FunFrames X.base l:=by
  intro l;induction l with
  |nil=>intro _ _;trivial
  |cons env r ih =>
    intro V Y;obtain⟨Z,⟨L,o,D,a,c,hd⟩,d⟩:=Y;have S:L∈X.fs:=V L (by unfold frs;rw[kg,D];exact au);obtain⟨f,e⟩:=I.base.slot L o c (I.ok.frf L S) S λz=>I.ok.exfs L z S;exact⟨Z,⟨L,_,D,a,e,hd⟩,ih (λb U=>V b (by unfold frs;rw[kg,D];exact ai _ U)) d⟩
 exact all X.outer (λ_ U=>U) I.ok.funs
def Inv.stack(I:Inv X pins σ H s):s.heap.FunFrames X.base X.stack:=by
 rcases I.ok.stk with e | ⟨e,hf⟩
 ·rw[e];exact I.funs
 ·rw[e]
  obtain⟨m,z,_⟩:=I.loc;refine .cons (by rw[I.ok.kind];decide) hf z ?_ I.funs;exact Heap.get?_none_of_le (bi I.ok.bsz I.ok.above)
def Inv.stkSub(I:Inv X pins σ H s):∀b∈frs X.stack,b∈X.env.locals::X.fs:=λb z=>by
 rcases I.ok.stk with e | ⟨e,hf⟩
 ·rw[e] at z;exact ai _ z
 ·rw[e] at z
  unfold frs at z;rw[kg,hf] at z;exact z
def Inv.stkFree(I:Inv X pins σ H s):∀b∈frs X.stack,H b=none:=λb hb=>by
 rcases b8.mp (I.stkSub b hb) with e |hb
 ·rw[e];exact I.free
 ·obtain⟨_,o,D,_⟩:=I.ok.funs.mem hb
  exact I.base.free b o D (I.ok.frf b hb) λz=>I.ok.exfs b z hb
variable{g':Array GenState}{t':Nat}{d':Drawn}{ch:cc}
def Inv.step(I:Inv X pins σ H s)(L:∀b∈ch,(b∈X.ex\/X.s₀.heap.objs.size<=b)/\b≠X.env.locals/\(∀x c,X.env.cells.lookup x=↑c->c≠b)/\∀p∈X.pn++pins,p.1≠b)(keep:∀b o,b≠X.env.locals->b∉X.fs->b∉ch->s.heap.get? b=↑o->H b=none->h'.get? b=↑o)(Z:∀b o,b≠X.env.locals->b∈X.fs->b∉ch->s.heap.get? b=↑o->H b=none->∃B,h'.get? b=some { o with slots:=B })(free:∀b o,b∉ch->s.heap.get? b=↑o->H b=none->H' b=none)(a:∀b o,b∉ch->s.heap.get? b=↑o->∃o',h'.get? b=↑o')(h:∀b xs,H b=↑(.tup xs)->H' b=↑(.tup xs))(j:∀b o u,H b=↑(.frz o u)->H' b=↑(.frz o u))(t:∀b ps,H b=↑(.tbl ps)->∃more,H' b=↑(.tbl (ps++more)))(ns:∀m,s.heap.Ns X.env.locals m->h'.Ns X.env.locals m)(C:HOk X.prog X.w H' h')(M:AllBare g') :
  Inv X pins σ H' { s with heap:=h',gens:=g',drawn:=d',toks:=t' }:=by
 have y:∀b o,X.s₀.heap.get? b=↑o->b≠X.env.locals:=λb o e=>bz (ba (bo e) I.ok.above);have V:∀b o,X.s₀.heap.get? b=↑o->b∉X.ex->b∉ch:=λb o e D f=>by
  rcases(L b f).1 with z |z
  ·exact D z
  ·exact absurd (ba (bo e) z) (gh _)
 have S:∀x c,X.env.cells.lookup x=↑c->∀v,s.heap.IsCell c v->h'.IsCell c v:=λx c e v N=>by
  obtain⟨o,g,hd⟩:=N;have U:c∉ch:=λz=>(L c z).2.2.1 x c e rfl;by_cases F:c∈X.fs
  ·obtain⟨B,q⟩:=Z c o (I.cne x c e) F U g (I.freeC x c e)
   exact⟨_,q,hd⟩
  ·exact⟨o,keep c o (I.cne x c e) F U g (I.freeC x c e),hd⟩
 refine⟨I.ok,I.os,M,⟨λb o e n f D=>?_,λb o e n f D=>?_,λb o e n D=>?_,λb o e D=>?_,λb xs e=>h b xs (I.base.tups b xs e),λb o xs e=>j b o xs (I.base.frzs b o xs e),λb ps e=>?_⟩,?_,λx c e=>?_,?_,λx c e=>?_,λp G=>?_,C,I.len⟩
 ·exact keep b o (y b o e) f (V b o e D) (I.base.keep b o e n f D) (I.base.free b o e n D)
 ·obtain⟨B,Y⟩:=I.base.slot b o e n f D
  obtain⟨E,A⟩:=Z b _ (y b o e) f (V b o e D) Y (I.base.free b o e n D);exact⟨E,A⟩
 ·obtain⟨o',Y⟩:=I.base.there b o e D
  exact free b o' (V b o e D) Y (I.base.free b o e n D)
 ·obtain⟨o',Y⟩:=I.base.there b o e D
  exact a b o' (V b o e D) Y
 ·obtain⟨O,Y⟩:=I.base.tbls b ps e
  obtain⟨P,A⟩:=t b _ Y;exact⟨O++P,by rw[A,Array.append_assoc]⟩
 ·obtain⟨m,Q,R⟩:=I.loc
  refine⟨m,ns m Q,λi x v Y A T=>?_⟩;obtain⟨u,r,l⟩:=R i x v Y A T;refine⟨u,r,?_⟩;rcases l with l | ⟨k,c,e,z⟩
  ·exact .inl l
  ·exact .inr ⟨k,c,e,S x c e _ z⟩
 ·obtain⟨v,z⟩:=I.cell x c e
  exact⟨v,S x c e v z⟩
 ·obtain⟨m,⟨o,_,_,g,_⟩,_⟩:=I.loc
  exact free _ o (λz=>(L _ z).2.1 rfl) g I.free
 ·obtain⟨v,o,g,hd⟩:=I.cell x c e
  exact free c o (λz=>(L c z).2.2.1 x c e rfl) g (I.freeC x c e)
 ·obtain⟨e,n,J,K,d⟩:=I.pin p G
  have U:p.1∉ch:=λz=>(L p.1 z).2.2.2 p G rfl;exact⟨keep p.1 p.2 J K U e n,free p.1 p.2 U e n,J,K,d⟩
def Inv.un(I:Inv X pins σ H s)(u:Un X.fs [] H H' s.heap h')(L:HOk X.prog X.w H' h'):Inv X pins σ H' { s with heap:=h',toks:=t' }:=by
 obtain⟨m,⟨o,es,d,Y,r⟩,_⟩:=id I.loc;obtain⟨f,Z⟩:=u.any Y I.free (by simp);exact I.step (g':=s.gens) (d':=s.drawn) (ch:=[]) (λ_ z=>nomatch z) (λb o _ S _ e n=>u.keep b o e n S (by simp)) (λb o _ S _ e n=>u.slot b o e n S (by simp)) (λb o _ e n=>u.free b o e n (by simp)) (λb o _ e=>u.there b o e (by simp)) u.tups u.frzs u.tbls (λg a=>by
  obtain⟨o',U,V,D,c⟩:=a;rw[Y] at D;cases D;exact⟨_,U,V,Z,c⟩) L I.bare
def Inv.call(I:Inv X pins σ H s)(u:Un (frs X.stack) ch H H' s.heap h')(U:HOk X.prog X.w H' h')(d:AllBare g')(L:∀b∈ch,(b∈X.ex\/X.s₀.heap.objs.size<=b)/\b≠X.env.locals/\(∀x c,X.env.cells.lookup x=↑c->c≠b)/\∀p∈X.pn++pins,p.1≠b) :
  Inv X pins σ H' { s with heap:=h',gens:=g',drawn:=d',toks:=t' }:=by
 obtain⟨m,⟨o,es,i,a,r⟩,_⟩:=id I.loc;obtain⟨j,V⟩:=u.any a I.free λz=>(L _ z).2.1 rfl;exact I.step (ch:=ch) L (λb o V f D e n=>u.keep b o e n (λz=>(b8.mp (I.stkSub b z)).elim V f) D) (λb o _ _ D e n=>u.any e n D) (λb o D e n=>u.free b o e n D) (λb o D e=>u.there b o e D) u.tups u.frzs u.tbls (λk g=>by
  obtain⟨o',Y,Z,S,h⟩:=g;rw[a] at S;cases S;exact⟨_,Y,Z,V,h⟩) U d
variable{it:Addr}
def Inv.turned(I:Inv X pins σ H s)(k:∀b o,b≠it->s.heap.get? b=↑o->h'.get? b=↑o)(U:H it=none)(S:it≠X.env.locals)(h1:it∈X.ex\/X.s₀.heap.objs.size<=it)(h2:∀x c,X.env.cells.lookup x=↑c->c≠it)(V:∀p∈X.pn++pins,p.1≠it):Inv X pins σ H { s with heap:=h',toks:=t' }:=by
 have L:∀b u,H b=↑u->b≠it:=λb u e z=>by rw[z,U] at e;cases e
 refine I.step (g':=s.gens) (d':=s.drawn) (ch:=[it]) (λb Y=>?_) (λb o _ _ D e _=>k b o (λz=>D (by simp[z])) e) (λb o _ _ D e _=>⟨o.slots,k b o (λz=>D (by simp[z])) e⟩) (λ_ _ _ _ n=>n)
  (λb o D e=>⟨o,k b o (λz=>D (by simp[z])) e⟩) (λ_ _ e=>e) (λ_ _ _ e=>e) (λb ps e=>⟨#[],by rw[e];simp⟩) (λm Z=>?_) (λb u e=>?_) I.bare
 ·have e:b=it:=by simpa using Y
  subst e;exact⟨h1,S,h2,V⟩
 ·obtain⟨o,es,a,d,r⟩:=Z
  exact⟨o,es,a,k _ o (Ne.symm S) d,r⟩
 ·refine(I.hok b u e).stay (λc v D q=>k c v ?_ q) (λ_ q=>q) λ_ _ q=>q
  rcases D with z |z
  ·rw[z];exact L b u e
  ·exact L c _ z
def Inv.tok(I:Inv X pins σ H s)(t:Nat):Inv X pins σ H { s with toks:=t }:=I.un (h':=s.heap) (t':=t) Un.refl I.hok
def Inv.kept{t':Nat}(I:Inv X pins σ H s)(k:∀b u,s.heap.get? b=↑u->h'.get? b=↑u):Inv X pins σ H { s with heap:=h',toks:=t' }:=I.un (Un.kept k) (I.hok.kept k)
def Inv.laid{a:Addr}{o:HO}{t':Nat}(I:Inv X pins σ H s)(k:∀b u,s.heap.get? b=↑u->h'.get? b=↑u)(z:s.heap.objs.size<=a)(D:ObjOk X.prog X.w (upd H a o) h' a o) :
  Inv X pins σ (upd H a o) { s with heap:=h',toks:=t' }:=I.un (Un.laid k z (I.hok.fresh z)) (I.hok.laid k z D)
def Inv.write{x e:Addr}{o:HO}{t':Nat}(I:Inv X pins σ H s)(L:Mut (H x))(S:e=x\/H e=↑(.own x))(k:∀b u,b≠e->s.heap.get? b=↑u->h'.get? b=↑u)(z:∃u,h'.get? e=↑u)(D:ObjOk X.prog X.w (upd H x o) h' x o):Inv X pins σ (upd H x o) { s with heap:=h',toks:=t' }:=I.un (Un.write L S k z) (I.hok.write L S k z D)
def Inv.pins_of{D:ed}(I:Inv X pins σ H s)(h:∀p∈D,s.heap.get? p.1=↑p.2/\H p.1=none/\p.1≠X.env.locals/\p.1∉X.fs/\∀v,p.2.data≠.cell v):Inv X D σ H s :=
 ⟨I.ok,I.os,I.bare,I.base,I.loc,I.cell,I.free,I.freeC,λp L=>(cw.mp L).elim (λz=>I.pin p (de _ z)) (h p),I.hok,I.len⟩
variable{x:Str}{N:b2}{i:Nat}{j:Int}
def zk4(z:N.Nodup){j:Nat}(a:N[i]?=↑x)(b:N[j]?=↑x):i=j:=by
 obtain⟨h1,D⟩:=aq.mp a;obtain⟨h2,I⟩:=aq.mp b;exact(List.getElem_inj z).mp (D.trans I.symm)
variable{M:Model}{A:Around}{E:Value->Shared->Prop}{v:V}{Q:Unit->Shared->Prop}
def ziy(I:Inv X pins σ H s)(hN:X.N.Nodup)(hi:X.N[i]?=↑x)(U:Loc X.env.scope x)(r:RelV v u)(h:∀s',Inv X pins (σ.set i ↑v) H s'->(∃a,Heap.SameBut a s.heap s'.heap/\(a=X.env.locals\/X.env.cells.lookup x=↑a))->Q () s')(hf:X.fn x=true\/X.env.scope.names.lookup x=some .local:=by first |exact .inl rfl |exact .inr rfl |assumption):wpAny M A (storeName X.env x u) Q E s:=by
 obtain⟨m,P,hl⟩:=id I.loc;have t:(X.env.scope.kind==.class || (X.env.scope.kind==.module && X.env.locals != X.env.globals))=false:=by rw[I.ok.kind];rfl
 have Z:i<σ.length:=by rw[I.len];exact(aq.mp hi).1
 have cne:=I.cne;have L:∀ {a:Addr} {h':Heap},(∃o,s.heap.get? a=↑o/\H a=none)->Heap.SameBut a s.heap h'->HOk X.prog X.w H h':=λ{a h'} ha D b ob e=>by
  obtain⟨_,_,V⟩:=ha;refine(I.hok b ob e).stay (λc J hc q=>(D.2 c ?_).trans q) (λ_ q=>q) λ_ _ q=>q;rintro rfl;rcases hc with rfl |hc
  ·rw[V] at e;cases e
  ·rw[V] at hc;cases hc
 rcases U with hk |hk
 ·refine wpAny_storeName_local hk P (λh' R D=>?_) t
  obtain⟨oL,_,_,T,_⟩:=id P;refine h _ ⟨I.ok,I.os,I.bare,⟨λb o e n f U=>?_,λb o e n f U=>?_,I.base.free,λb o e U=>?_,I.base.tups,I.base.frzs,I.base.tbls⟩,⟨_,R,λj y W S Y e3=>?_⟩,λy c e=>?_,I.free,I.freeC,λp hp=>?_,L ⟨oL,T,I.free⟩ D,by simpa using I.len⟩ ⟨_,D,.inl rfl⟩
  ·exact(D.2 b (bz (ba (bo e) I.ok.above))).trans (I.base.keep b o e n f U)
  ·obtain⟨sl,S⟩:=I.base.slot b o e n f U
   exact⟨sl,(D.2 b (bz (ba (bo e) I.ok.above))).trans S⟩
  ·obtain⟨o',S⟩:=I.base.there b o e U
   exact⟨o',(D.2 b (bz (ba (bo e) I.ok.above))).trans S⟩
  ·by_cases g:j=i
   ·subst g
    rw[hi] at S;cases S;rw[fb Z] at Y;cases Y;exact⟨u,r,.inl ⟨hk,by simp⟩⟩
   ·rw[d4 (Ne.symm g)] at Y
    obtain⟨u',r',q⟩:=hl j y W S Y e3;refine⟨u',r',?_⟩;rcases q with⟨k,e⟩ | ⟨k,c,e,z⟩
    ·refine .inl ⟨k,?_⟩
     have:y≠x:=λe=>g (zk4 hN S (e ▸ hi));simp[this,e]
    ·exact .inr ⟨k,c,e,z.sameBut D (cne y c e)⟩
  ·obtain⟨J,z⟩:=I.cell y c e
   exact⟨J,z.sameBut D (cne y c e)⟩
  ·obtain⟨e,n,K,nf,d⟩:=I.pin p hp
   exact⟨(D.2 p.1 K).trans e,n,K,nf,d⟩
 ·have l:X.fn x=true:=by
   rcases hf with z |z
   ·exact z
   ·rw[z] at hk;cases hk
  obtain⟨c,hc⟩:=I.ok.has x (.inl hk);obtain⟨J,z⟩:=I.cell x c hc;refine wpAny_storeName_cell I.ok.kind hk hc z (λh' B D=>?_);obtain⟨oc,C,F⟩:=id z;refine h { s with heap:=h' } ⟨I.ok,I.os,I.bare,⟨λb o e n f U=>?_,λb o e n f U=>?_,I.base.free,λb o e U=>?_,I.base.tups,I.base.frzs,I.base.tbls⟩,⟨m,P.sameBut D (Ne.symm (cne x c hc)),λj y W S Y e3=>?_⟩,λy O e=>?_,I.free,I.freeC,λp hp=>?_,L ⟨oc,C,I.freeC x c hc⟩ D,by simpa using I.len⟩ ⟨c,D,.inr hc⟩
  ·exact(D.2 b (bz (ba (bo e) (I.ok.cab x c l hc)))).trans (I.base.keep b o e n f U)
  ·obtain⟨sl,S⟩:=I.base.slot b o e n f U
   exact⟨sl,(D.2 b (bz (ba (bo e) (I.ok.cab x c l hc)))).trans S⟩
  ·obtain⟨o',S⟩:=I.base.there b o e U
   exact⟨o',(D.2 b (bz (ba (bo e) (I.ok.cab x c l hc)))).trans S⟩
  ·by_cases g:j=i
   ·subst g
    rw[hi] at S;cases S;rw[fb Z] at Y;cases Y;exact⟨u,r,.inr ⟨.inl hk,c,hc,B⟩⟩
   ·rw[d4 (Ne.symm g)] at Y
    obtain⟨u',r',q⟩:=hl j y W S Y e3;refine⟨u',r',?_⟩;rcases q with q | ⟨k,O,e,z'⟩
    ·exact .inl q
    ·refine .inr ⟨k,O,e,z'.sameBut D ?_⟩
     rintro rfl;exact g (zk4 hN S (I.ok.inj _ _ _ e hc ▸ hi))
  ·by_cases G:O=c
   ·subst G;exact⟨_,B⟩
   ·obtain⟨w2,z2⟩:=I.cell y O e
    exact⟨w2,z2.sameBut D G⟩
  ·obtain⟨e,n,K,nf,d⟩:=I.pin p hp
   refine⟨(D.2 p.1 ?_).trans e,n,K,nf,d⟩;intro q;rw[q,C] at e;have q':oc=p.2:=ay e;exact d J (by rw[<-q'];exact F)
def zh(I:Inv X pins σ H s)(z:X.N.Nodup)(hi:X.N[i]?=↑x)(D:Loc X.env.scope x)(r:RelV v u)(h:∀s',Inv X pins (σ.set i ↑v) H s'->Q () s')(L:X.fn x=true\/X.env.scope.names.lookup x=some .local:=by first |exact .inl rfl |exact .inr rfl |assumption):wpAny M A (storeName X.env x u) Q E s :=
 ziy I z hi D r (λs' S _=>h s' S) L
variable{s':Shared}
def Inv.call'(I:Inv X pins σ H s)(L:s'.os=s.os)(u:Un (frs X.stack) ch H H' s.heap s'.heap)(z:HOk X.prog X.w H' s'.heap)(S:AllBare s'.gens)(D:∀b∈ch,(b∈X.ex\/X.s₀.heap.objs.size<=b)/\b≠X.env.locals/\(∀x c,X.env.cells.lookup x=↑c->c≠b)/\∀p∈X.pn++pins,p.1≠b):Inv X pins σ H' s':=by
 obtain⟨h',g',d',t',o'⟩:=s';have e:o'=s.os:=L;subst e;exact I.call (g':=g') (t':=t') (d':=d') u z S D
abbrev XK:=Value->Option Addr->Hp->Prop
abbrev St:=List (Option V)
abbrev VK:=V->Hp->Prop
abbrev TE:=St->Hp->VK->Prop
abbrev TT:=St->Hp->(Bool->Hp->Prop)->Prop
abbrev TA:=St->Hp->(el->Hp->Prop)->Prop
structure Ends where
 nx:St->Hp->Prop
 rt:VK
 bk:St->Hp->Prop:=λ_ _=>False
 ct:St->Hp->Prop:=λ_ _=>False
abbrev TS:=Ends->St->Hp->Prop
inductive EP (X:Cx) (pins:ed) (σ:St) (Q:VK) (u:Value) (s':Shared):Prop
 |mk (v:V) (H':Hp) (i:Inv X pins σ H' s') (r:RelV v u) (q:Q v H'):EP X pins σ Q u s'
inductive TP (X:Cx) (pins:ed) (σ:St) (Q:Bool->Hp->Prop) (b:Bool) (s':Shared):Prop
 |mk (H':Hp) (i:Inv X pins σ H' s') (q:Q b H'):TP X pins σ Q b s'
inductive AP (X:Cx) (pins:ed) (σ:St) (Q:el->Hp->Prop) (us:b4) (s':Shared):Prop
 |mk (vs:el) (H':Hp) (i:Inv X pins σ H' s') (r:Vals vs us) (q:Q vs H'):AP X pins σ Q us s'
def SP(X:Cx)(pins:ed)(D:Ends)(f:Flow)(s':Shared):Prop :=
 match f with
 | .next=>∃z H',Inv X pins z H' s'/\D.nx z H' | .brk=>∃z H',Inv X pins z H' s'/\D.bk z H' | .cont=>∃z H',Inv X pins z H' s'/\D.ct z H' | .ret u=>∃v z H',Inv X pins z H' s'/\RelV v u/\D.rt v H'
def PE(X:Cx)(e:Expr)(t:TE):Prop :=
 ∀(pins:ed) (s:Shared) (σ:St) (H:Hp) (Q:VK),Inv X pins σ H s->t σ H Q->wpAny (model X.prog X.w) X.A (eval e X.env) (EP X pins σ Q) X.xe s
def PT(X:Cx)(e:Expr)(t:TT):Prop :=
 ∀(pins:ed) (s:Shared) (σ:St) (H:Hp) (Q:Bool->Hp->Prop),Inv X pins σ H s->t σ H Q->wpAny (model X.prog X.w) X.A (isTrue e X.env (eval e X.env)) (TP X pins σ Q) X.xe s
def PW(X:Cx)(e:Expr)(t:TT):Prop :=
 ∀(whole:Sem Value) (pins:ed) (s:Shared) (σ:St) (H:Hp) (Q:Bool->Hp->Prop),Inv X pins σ H s->t σ H Q->wpAny (model X.prog X.w) X.A (isTrue e X.env whole) (TP X pins σ Q) X.xe s
variable{e:Expr}{t:TE}
def PW.pt{t:TT}(h:PW X e t):PT X e t:=h _
def PA(X:Cx)(es:da)(t:TA):Prop :=
 ∀(pos:Pos) (pins:ed) (s:Shared) (σ:St) (H:Hp) (Q:el->Hp->Prop),Inv X pins σ H s->t σ H Q->wpAny (model X.prog X.w) X.A (spliced (backTo pos (starEach es X.env))) (AP X pins σ Q) X.xe s
def PS(X:Cx)(st:Stmt)(t:TS):Prop :=
 ∀(pins:ed) (s:Shared) (σ:St) (H:Hp) (D:Ends),Inv X pins σ H s->t D σ H->wpAny (model X.prog X.w) X.A (exec st X.env) (SP X pins D) X.xe s
def PSs(X:Cx)(st:List Stmt)(t:TS):Prop :=
 ∀(pins:ed) (s:Shared) (σ:St) (H:Hp) (D:Ends),Inv X pins σ H s->t D σ H->wpAny (model X.prog X.w) X.A (execs st X.env) (SP X pins D) X.xe s
def thn{t:Sem α}{Q z:α->Shared->Prop}(h:wpAny M A t Q E s)(D:∀a s,Q a s->z a s):wpAny M A t z E s:=wpAny_mono h D λ_ _ x=>x
def tVar(i:Nat):TE:=λσ H Q=>∃v,σ[i]?=↑↑v/\Q v H
def tC(v:V):TE:=λ_ H Q=>Q v H
variable{pos:Pos}
def zur(L:X.N[i]?=↑x)(S:Vis X.env.scope x)(hd:(x==("__debug__" : Str))=false:=by decide)(D:(x==("__classdict__" : Str))=false:=by decide):PE X (.Name x pos) (tVar i):=by
 intro pins s σ H Q I h;obtain⟨v,e,h⟩:=h;obtain⟨m,U,V⟩:=I.loc;obtain⟨u,r,l⟩:=V i x v L e S;have z:EP X pins σ Q u s:=⟨v,H,I,r,h⟩;rcases l with⟨hk,Y⟩ | ⟨hk,c,hc,hcell⟩
 ·exact wpAny_Name (wpAny_loadName_local I.ok.kind hk U Y z) hd
 ·rcases hk with hk |hk
  ·exact wpAny_Name (wpAny_loadName_cell I.ok.kind hk hc hcell z) hd
  ·exact wpAny_Name (wpAny_loadName_free I.ok.kind hk hc hcell z D) hd
def zq6{i j pos}:PE X (.Constant (.int i) j pos) (tC (.int i)):=λ_ _ _ H _ I h=>wpAny_Constant_int ⟨.int i,H,I.tok _,⟨_,rfl⟩,h⟩
def zxg{b j pos}:PE X (.Constant (.bool b) j pos) (tC (.bl b)):=λ_ _ _ H _ I h=>Constant_bool ⟨.bl b,H,I,rfl,h⟩
def Gl(X:Cx)(x:Str):Prop:=X.env.kindOf x=some .globalImplicit
variable{σ:St}{Q:Value->Shared->Prop}
def zna(I:Inv X pins σ H s)(z:Gl X x)(D:X.mg x=↑u)(h:Q u s)(hd:(x==("__debug__" : Str))=false:=by decide):wpAny (model X.prog X.w) X.A (eval (.Name x pos) X.env) Q E s :=
 Calls.Name_function_global I.ok.kind z (Calls.loadGlobal_global (by rw[I.ok.glob];exact I.mod.glob.keeps I.bk) D h) hd
def np(I:Inv X pins σ H s)(z:Gl X x)(D:X.mg x=none)(L:bootBuiltins x=↑u)(h:Q u s)(S:x ≠ "__name__":=by decide)(hd:(x==("__debug__" : Str))=false:=by decide):wpAny (model X.prog X.w) X.A (eval (.Name x pos) X.env) Q E s:=by
 obtain⟨U,h1,h2⟩:=I.mod.blt;exact Calls.Name_function_global I.ok.kind z (Calls.loadGlobal_builtin (by rw[I.ok.glob];exact I.mod.glob.keeps I.bk) D (by rw[I.ok.blt];exact h1.keeps I.bk) ((h2 x S).trans L) h) hd
def zr2(z:Gl X x)(D:X.mg x=↑u)(r:RelV v u)(hd:(x==("__debug__" : Str))=false:=by decide):PE X (.Name x pos) (tC v) :=
 λ_ _ _ H _ I h=>zna I z D ⟨v,H,I,r,h⟩ hd
def zr3(z:Gl X x)(D:X.mg x=none)(L:bootBuiltins x=↑u)(r:RelV v u)(S:x ≠ "__name__":=by decide)(hd:(x==("__debug__" : Str))=false:=by decide):PE X (.Name x pos) (tC v) :=
 λ_ _ _ H _ I h=>np I z D L ⟨v,H,I,r,h⟩ S hd
def tB(t:TE):TT:=λσ H Q=>t σ H λx H1=>∃c,x=.bl c/\Q c H1
def zus(h:PE X e t)(z:∀whole,isTrue e X.env whole=(do let v <-whole;standAt e.pos;holding [v] (truthy v)):=by intro _;rfl):PT X e (tB t):=by
 intro pins s σ H Q I D;refine isTrue_plain (thn (h pins s σ H _ I D) λv Y L=>?_) (z _);obtain⟨x,H1,S,U,V⟩:=L;obtain⟨d,rfl,q⟩:=V;cases U;exact wpAny_truthy_bool ⟨H1,S,q⟩
def tAnd(t u:TT):TT:=λσ H Q=>t σ H λc H1=>if c=true then u σ H1 Q else Q false H1
def tOr(t u:TT):TT:=λσ H Q=>t σ H λc H1=>if c=true then Q true H1 else u σ H1 Q
def tNot(t:TT):TT:=λσ H Q=>t σ H λc H1=>Q (!c) H1
variable{a:Expr}{tA:TT}
def zr4(z:PT X a tA):PW X (.BoolOp .And [a] pos) tA:=by
 intro D pins s σ H Q I h;refine isTrue_and (thn (z pins s σ H Q I h) λc L e=>?_);cases c with
 |true=>exact isTrue_and_nil e |false=>exact e
def zut(z:PT X a tA):PW X (.BoolOp .Or [a] pos) tA:=by
 intro D pins s σ H Q I h;refine isTrue_or (thn (z pins s σ H Q I h) λc L e=>?_);cases c with
 |false=>exact isTrue_or_nil e |true=>exact e
variable{b:Expr}{tB':TT}{rest:da}
def zuu(L:PT X a tA)(S:PW X (.BoolOp .And (b::rest) pos) tB'):PW X (.BoolOp .And (a::b::rest) pos) (tAnd tA tB'):=by
 intro U pins s σ H Q I h;refine isTrue_and (thn (L pins s σ H _ I h) λc V Y=>?_);obtain⟨H1,z,D⟩:=Y;cases c with
 |true=>exact S U pins V σ H1 Q z D |false=>exact⟨H1,z,D⟩
def zxh(L:PT X a tA)(S:PW X (.BoolOp .Or (b::rest) pos) tB'):PW X (.BoolOp .Or (a::b::rest) pos) (tOr tA tB'):=by
 intro U pins s σ H Q I h;refine isTrue_or (thn (L pins s σ H _ I h) λc V Y=>?_);obtain⟨H1,z,D⟩:=Y;cases c with
 |true=>exact⟨H1,z,D⟩ |false=>exact S U pins V σ H1 Q z D
def zuv(z:PT X a tA):PT X (.UnaryOp .Not a pos) (tNot tA):=by
 intro pins s σ H Q I h;refine isTrue_not (thn (z pins s σ H (λc H1=>Q (!c) H1) I h) λc L h=>?_);obtain⟨H1,D,q⟩:=h;exact⟨H1,D,q⟩
def zxi(ta tb:TE):TE:=λσ H Q=>ta σ H λx H1=>∃c,x=.bl c/\if c=true then tb σ H1 Q else Q (.bl false) H1
def zxj(ta:TE):TE:=λσ H Q=>ta σ H λx H1=>∃c,x=.bl c/\Q (.bl (!c)) H1
def zuw{op}(h:PE X a t):PE X (.BoolOp op [a] pos) t:=λpins s σ H Q I z=>BoolOp_one (h pins s σ H Q I z)
variable{ta tb:TE}
def zux(L:PE X a ta)(S:PE X (.BoolOp .And (b::rest) pos) tb):PE X (.BoolOp .And (a::b::rest) pos) (zxi ta tb):=by
 intro pins s σ H Q I h;refine BoolOp_and (thn (L pins s σ H _ I h) λv U V=>?_);obtain⟨x,H1,D,Y,z⟩:=V;obtain⟨c,rfl,z⟩:=z;cases Y;refine wpAny_truthy_bool ?_;cases c with
 |true=>exact S pins U σ H1 Q D z |false=>exact⟨.bl false,H1,D,rfl,z⟩
def zuy(D:PE X a ta):PE X (.UnaryOp .Not a pos) (zxj ta):=by
 intro pins s σ H Q I h;refine UnaryOp_ (thn (D pins s σ H _ I h) λv V L=>?_);obtain⟨x,H1,S,U,z⟩:=L;obtain⟨c,rfl,z⟩:=z;cases U;exact not_of (wpAny_truthy_bool ⟨.bl (!c),H1,S,rfl,z⟩)
def SqL(K:eb)(H:Hp)(a:Addr)(xs:el):Prop :=
 Rd H a (.lst xs) \/
  ∃(o:Obj) (its:ei) (n:Nat),K.lookup a=↑o/\o.cls=.type "list"/\o.dict=none/\o.data=.seq its n/\its.size<=sizeLine/\Vals xs its.toList
def SqT(K:eb)(H:Hp)(a:Addr)(xs:el):Prop :=
 Rd H a (.tup xs) \/
  ∃(o:Obj) (its:ei) (n:Nat),K.lookup a=↑o/\o.cls=.type "tuple"/\o.data=.seq its n/\its.size<=sizeLine/\Vals xs its.toList
def absV:Value->Option V
 | .none=>some .non | .bool b=>↑(.bl b) | .int i _=>↑(.int i)
 | .str x _=>↑(.str x) | .bytes b _=>↑(.byt b) | .float b _=>↑(.flt b) | .ref a=>↑(.ref a) | .type n=>↑(.ty n) |_=>none
def RelV.abs{x:V}(r:RelV x u):absV u=↑x:=by
 cases x with
 |non=>cases r;rfl
 |bl _=>cases r;rfl
 |int _=>obtain⟨t,rfl⟩:=r;rfl |str _=>obtain⟨t,rfl⟩:=r;rfl |byt _=>obtain⟨t,rfl⟩:=r;rfl |flt _=>obtain⟨t,rfl⟩:=r;rfl |ref _=>cases r;rfl
 |ty _=>cases r;rfl
def RelV.inj{x y:V}{u:Value}(r:RelV x u)(q:RelV y u):x=y:=ay (r.abs.symm.trans q.abs)
def Vals.inj{xs ys:el}{us:b4}(h:Vals xs us)(g:Vals ys us):xs=ys:=by
 induction h generalizing ys with
 |nil=>cases g;rfl
 |cons r t ih=>cases g with |cons p q=>rw[r.inj p,ih q]
variable{a:Addr}{K:eb}
def SqT.of(h:H a=↑(.tup xs)):SqT K H a xs:=.inl (.inl h)
def Inv.list(I:Inv X pins σ H s)(h:SqL X.K H a xs):∃its:b4,Vals xs its/\PlainL s.heap a its.toArray/\xs.length<=sizeLine:=by
 rcases h with h | ⟨o,its,n,hk,hc,hd,hs,hz,r⟩
 ·obtain⟨z,its,n,r,e⟩:=h.ok I.hok
  exact⟨its,r,⟨_,n,e,rfl,rfl,rfl⟩,z⟩
 ·refine⟨its.toList,r,⟨o,n,I.kIn a o hk,hc,hd,by simpa using hs⟩,?_⟩
  have e:=r.length;simp only[f7] at e;omega
def Inv.tuple(I:Inv X pins σ H s)(h:SqT X.K H a xs):∃its:b4,Vals xs its/\IsTup s.heap a its.toArray/\xs.length<=sizeLine:=by
 rcases h with h | ⟨o,its,n,hk,hc,hs,hz,r⟩
 ·obtain⟨z,its,r,p⟩:=h.ok I.hok
  exact⟨its,r,p,z⟩
 ·refine⟨its.toList,r,⟨o,I.kIn a o hk,hc,n,by simpa using hs⟩,?_⟩
  have e:=r.length;simp only[f7] at e;omega
def Inv.list_inj(I:Inv X pins σ H s)(h:SqL X.K H a xs)(h':SqL X.K H a ys):xs=ys:=by
 obtain⟨its,r,⟨o,n,e,_,_,d⟩,_⟩:=I.list h;obtain⟨its',z,⟨o',D,e',_,_,d'⟩,_⟩:=I.list h';rw[e] at e';cases e';rw[d] at d';injection d' with d1 _;have:its=its':=by simpa using congrArg Array.toList d1
 subst this;exact r.inj z
def Inv.tuple_inj(I:Inv X pins σ H s)(h:SqT X.K H a xs)(h':SqT X.K H a ys):xs=ys:=by
 obtain⟨its,r,⟨o,e,_,n,d⟩,_⟩:=I.tuple h;obtain⟨its',z,⟨o',e',_,D,d'⟩,_⟩:=I.tuple h';rw[e] at e';cases e';rw[d] at d';injection d' with d1 _;have:its=its':=by simpa using congrArg Array.toList d1
 subst this;exact r.inj z
abbrev Cx.wish(X:Cx)(E:Value->Shared->Prop):Cx:={ X with xe:=E }
abbrev Cx.nox(X:Cx):Cx:=X.wish λ_ _=>False
def Cx.Ok.wish(ok:X.Ok)(E:Value->Shared->Prop):(X.wish E).Ok :=
 ⟨ok.mod,ok.kind,ok.glob,ok.blt,ok.above,ok.inj,ok.has,ok.cab,ok.hd,ok.frames,ok.stk,ok.exf,ok.bs,ok.bsz,ok.noex,ok.exfs,ok.funs,ok.frf⟩
def Cx.Ok.unwish(ok:(X.wish E).Ok):X.Ok :=
 ⟨ok.mod,ok.kind,ok.glob,ok.blt,ok.above,ok.inj,ok.has,ok.cab,ok.hd,ok.frames,ok.stk,ok.exf,ok.bs,ok.bsz,ok.noex,ok.exfs,ok.funs,ok.frf⟩
def Inv.wish(I:Inv X pins σ H s)(E:Value->Shared->Prop):Inv (X.wish E) pins σ H s:=⟨I.ok.wish E,I.os,I.bare,I.base,I.loc,I.cell,I.free,I.freeC,I.pin,I.hok,I.len⟩
def Inv.unwish(I:Inv (X.wish E) pins σ H s):Inv X pins σ H s:=⟨I.ok.unwish,I.os,I.bare,I.base,I.loc,I.cell,I.free,I.freeC,I.pin,I.hok,I.len⟩
def SP.unwish{D:Ends}{f:Flow}{s':Shared}(h:SP (X.wish E) pins D f s'):SP X pins D f s':=by
 cases f with
 |next=>obtain⟨z,H',I,q⟩:=h;exact⟨z,H',I.unwish,q⟩ |brk=>obtain⟨z,H',I,q⟩:=h;exact⟨z,H',I.unwish,q⟩ |cont=>obtain⟨z,H',I,q⟩:=h;exact⟨z,H',I.unwish,q⟩ |ret u=>obtain⟨v,z,H',I,r,q⟩:=h;exact⟨v,z,H',I.unwish,r,q⟩
def PE.nox(h:PE X.nox e t):PE X e t:=λpins s σ H Q I D =>
 wpAny_mono (h pins s σ H Q (I.wish _) D) (λ_ _ ⟨v,H',I',r,q⟩=>⟨v,H',I'.unwish,r,q⟩) λ_ _ z=>False.elim z
variable{t:TS}
def PT.nox{t:TT}(h:PT X.nox e t):PT X e t:=λpins s σ H Q I D =>
 wpAny_mono (h pins s σ H Q (I.wish _) D) (λ_ _ ⟨H',I',q⟩=>⟨H',I'.unwish,q⟩) λ_ _ z=>False.elim z
variable{st:Stmt}
def PSs.nox{st:List Stmt}(h:PSs X.nox st t):PSs X st t:=λpins s σ H D I L =>
 wpAny_mono (h pins s σ H D (I.wish _) L) (λ_ _ q=>q.unwish) λ_ _ z=>False.elim z
def zxk:TS:=λD σ H=>D.nx σ H
def tSeq(t u:TS):TS:=λD σ H=>t { D with nx:=u D } σ H
def zr5:PSs X [] zxk:=λ_ _ σ H _ I h=>wpAny_execs_nil ⟨σ,H,I,h⟩
variable{u:TS}{rest:List Stmt}
def zpi(h1:PS X st t)(h2:PSs X rest u):PSs X (st::rest) (tSeq t u):=by
 intro pins s σ H D I h;refine wpAny_execs_cons (thn (h1 pins s σ H { D with nx:=u D } I h) λf L q=>?_);cases f with
 |next =>
   obtain⟨z,H',S,q⟩:=q;exact h2 pins L z H' D S q
 |ret v=>exact q |brk=>exact q |cont=>exact q
def zr6(h1:PS X st t):PSs X [st] t:=by
 intro pins s σ H D I h;refine wpAny_execs_cons (thn (h1 pins s σ H D I h) λf z q=>?_);cases f with
 |next=>exact wpAny_execs_nil q |ret v=>exact q |brk=>exact q |cont=>exact q
def Inv.quiet(I:Inv X pins σ H s):interactive X.env=false:=by simp[interactive,I.ok.kind]
def zxl(te:TE):TS:=λD σ H=>te σ H λ_ H1=>D.nx σ H1
variable{te:TE}
def zr7(z:PE X e te)(L:swapsWith e none pos.line X.env=pure false:=by rfl):PS X (.Expr e pos) (zxl te):=by
 intro pins s σ H D I h;exact wpAny_Expr_any (thn (z pins s σ H _ I h) λv s1 ⟨x,H1,I1,r1,q1⟩=>⟨σ,H1,I1,q1⟩) I.quiet L
def tRet(te:TE):TS:=λD σ H=>te σ H D.rt
def yo(z:PE X e te):PS X (.Return ↑e pos) (tRet te):=by
 intro pins s σ H D I h;exact wpAny_Return_some (thn (z pins s σ H _ I h) λv s1 ⟨x,H1,I1,r1,q1⟩=>⟨x,σ,H1,I1,r1,q1⟩)
def tIfS(c:TT)(t u:TS):TS:=λD σ H=>c σ H λb H1=>if b=true then t D σ H1 else u D σ H1
variable{a c:Expr}{tc:TT}
def zxm{a b:List Stmt}(U:PT X c tc)(V:PSs X a t)(Y:PSs X b u):PS X (.If c a b pos) (tIfS tc t u):=by
 intro pins s σ H D I h;refine wpAny_If (thn (U pins s σ H _ I h) λd z Z=>?_);obtain⟨H1,L,S⟩:=Z;cases d with
 |true=>exact V pins z σ H1 D L S |false=>exact Y pins z σ H1 D L S
def zuz:TS:=λ_ _ _=>False
def zpj:PS X st zuz:=λ_ _ _ _ _ _ h=>h.elim
abbrev TG:=V->St->Hp->(St->Hp->Prop)->Prop
abbrev TGs:=el->St->Hp->(St->Hp->Prop)->Prop
def PG(X:Cx)(z:Expr)(t:TG):Prop :=
 ∀(pins:ed) (s:Shared) (σ:St) (H:Hp) (v:V) (u:Value) (Q:St->Hp->Prop),Inv X pins σ H s->RelV v u->t v σ H Q ->
  wpAny (model X.prog X.w) X.A (assign z X.env u) (λ_ s'=>∃D H',Inv X pins D H' s'/\Q D H') X.xe s
def PGs(X:Cx)(ts:da)(t:TGs):Prop :=
 ∀(pins:ed) (s:Shared) (σ:St) (H:Hp) (vs:el) (us:b4) (Q:St->Hp->Prop),Inv X pins σ H s->Vals vs us->t vs σ H Q ->
  wpAny (model X.prog X.w) X.A (assignInOrder ((assignEach ts X.env).map (·.2)) us) (λ_ s'=>∃z H',Inv X pins z H' s'/\Q z H') X.xe s
abbrev TSet:=V->V->V->Hp->(Hp->Prop)->Prop
def PSet(X:Cx)(t:TSet):Prop :=
 ∀(pins:ed) (s:Shared) (σ:St) (H:Hp) (o i v:V) (z D u:Value) (Q:Hp->Prop),Inv X pins σ H s->RelV o z->RelV i D->RelV v u->t o i v H Q ->
  wpAny (model X.prog X.w) X.A (setItem z D u) (λ_ s'=>∃H',Inv X pins σ H' s'/\Q H') X.xe s
abbrev TIp:=V->V->Hp->VK->Prop
def PIp(X:Cx)(op:Operator)(t:TIp):Prop :=
 ∀(pins:ed) (s:Shared) (σ:St) (H:Hp) (x y:V) (v u:Value) (Q:VK),Inv X pins σ H s->RelV x v->RelV y u->t x y H Q ->
  wpAny (model X.prog X.w) X.A (inplaceOp op v u) (EP X pins σ Q) X.xe s
def kc(i:Nat):TG:=λv σ H Q=>Q (σ.set i ↑v) H
def y8(z:X.N.Nodup)(hi:X.N[i]?=↑x)(D:Loc X.env.scope x)(L:X.fn x=true\/X.env.scope.names.lookup x=some .local:=by first |exact .inl rfl |exact .inr rfl |assumption):PG X (.Name x pos) (kc i):=by
 intro pins s σ H v u Q I r h;exact wpAny_assign_Name (zh I z hi D r (λs' S=>⟨_,H,S,h⟩) L)
def gNil:TGs:=λvs σ H Q=>vs=[]/\Q σ H
def zu0(t:TG)(u:TGs):TGs:=λvs σ H Q=>∃v r,vs=v::r/\t v σ H λz H'=>u r z H' Q
def zr8:PGs X [] gNil:=by
 intro pins s σ H vs us Q I r h;obtain⟨e,h⟩:=h;subst e;cases r;exact assignInOrder_nil ⟨σ,H,I,h⟩
variable{u:Value}{t:TA}{es:da}
def zpk{t:TG}{u:TGs}(h1:PG X e t)(h2:PGs X es u)(D:(assignEach (e::es) X.env).map (·.2)=assign e X.env::(assignEach es X.env).map (·.2):=by rfl):PGs X (e::es) (zu0 t u):=by
 intro pins s σ H vs us Q I r h;obtain⟨v,Z,L,h⟩:=h;subst L;cases r with
 |cons r rr =>
   rw[D];refine assignInOrder_cons (thn (h1 pins s σ H _ _ _ I r h) λ_ S U=>?_);obtain⟨z,H1,V,Y⟩:=U;exact h2 pins S z H1 _ _ Q V rr Y
def gTup(K:eb)(n:Nat)(t:TGs):TG:=λv σ H Q=>∃a xs,v=.ref a/\SqT K H a xs/\xs.length=n/\t xs σ H Q
variable{k n:Nat}
def zu1{t:TGs}(S:X.calm=true)(h:PGs X es t)(U:(assignEach es X.env).length=n:=by rfl)(z:(assignEach es X.env).findIdx? (·.1)=none:=by rfl):PG X (.Tuple es k pos) (gTup X.K n t):=by
 intro pins s σ H v u Q I r D;obtain⟨a,xs,V,Y,Z,D⟩:=D;subst V;cases r;obtain⟨its,L,c,g⟩:=I.tuple Y;refine assign_Tuple_tuple (I.ok.hd S) c (by simp[U,<-Z,L.length]) z λh' d=>?_;have f:Inv X pins σ H { s with heap:=h' }:=I.kept (t':=s.toks) λb o e=>d b o (bz (bo e)) e;exact h pins _ σ H xs _ Q f (by simpa using L) D
def tAsg(te:TE)(g:TG):TS:=λD σ H=>te σ H λx H1=>g x σ H1 D.nx
variable{pos':Pos}
def zq7(z:X.N.Nodup)(hi:X.N[i]?=↑x)(L:Loc X.env.scope x)(S:PE X e te)(U:swapsWith e ↑(.Name x pos') pos.line X.env=pure false:=by rfl)(V:X.fn x=true\/X.env.scope.names.lookup x=some .local:=by first |exact .inl rfl |exact .inr rfl |assumption) :
  PS X (.Assign [.Name x pos'] e pos) (tAsg te (kc i)):=by
 intro pins s σ H D I h;refine wpAny_Assign_Name (thn (S pins s σ H _ I h) λv d Y=>?_) U;obtain⟨y,H1,Z,a,b⟩:=Y;exact zh Z z hi L a (λs2 c=>⟨_,H1,c,b⟩) V
def tAug(i:Nat)(te:TE)(I:TIp):TS:=λD σ H=>∃x,σ[i]?=↑↑x/\te σ H λy H1=>I x y H1 λz H2=>D.nx (σ.set i ↑z) H2
variable{op:Operator}
def zu2{Y:TIp}(Z:X.N.Nodup)(hi:X.N[i]?=↑x)(S:Loc X.env.scope x)(a:PE X e te)(b:PIp X op Y)(d:X.fn x=true\/X.env.scope.names.lookup x=some .local:=by first |exact .inl rfl |exact .inr rfl |assumption) :
  PS X (.AugAssign (.Name x pos') op e pos) (tAug i te Y):=by
 intro pins s σ H D I h;obtain⟨v,f,h⟩:=h;obtain⟨m,g,j⟩:=I.loc;have U:Vis X.env.scope x:=by rcases S with k |k;exact .inl k;exact .inr (.inl k)
 obtain⟨u,r,l⟩:=j i x v hi f U;refine wpAny_AugAssign_Name ?_;have go:wpAny (model X.prog X.w) X.A (eval e X.env) (λw s₂=>wpAny (model X.prog X.w) X.A (inplaceOp op u w) (λr L=>wpAny (model X.prog X.w) X.A (storeName X.env x r) (λ_=>SP X pins D .next) X.xe L) X.xe s₂) X.xe s:=by
  refine thn (a pins s σ H _ I h) λw n V=>?_;obtain⟨y,H1,o,p,q⟩:=V;refine thn (b pins n σ H1 v y u w _ o r p q) λz s2 V=>?_;obtain⟨G,H2,t,B,C⟩:=V;exact zh t Z hi S B (λJ E=>⟨_,H2,E,C⟩) d
 rcases l with⟨hk,F⟩ | ⟨hk,c,hc,hcell⟩
 ·exact wpAny_loadName_local I.ok.kind hk g F go
 ·rcases hk with hk |hk
  ·exact wpAny_loadName_cell I.ok.kind hk hc hcell go
  ·rcases S with k |k
   ·have:X.env.scope.names.lookup x=some .free:=hk
    rw[k] at this;cases this
   ·have:X.env.scope.names.lookup x=some .free:=hk
    rw[k] at this;cases this
def zu3(to U te:TE)(I:V->V->Hp->VK->Prop)(S:TIp)(L:TSet):TS:=λD σ H=>to σ H λo H1=>U σ H1 λi H2=>I o i H2 λx Y=>te σ Y λy Z=>S x y Z λz a=>L o i z a λb=>D.nx σ b
def PGet(X:Cx)(t:V->V->Hp->VK->Prop):Prop :=
 ∀(pins:ed) (s:Shared) (σ:St) (H:Hp) (o i:V) (z D:Value) (Q:VK),Inv X pins σ H s->RelV o z->RelV i D->t o i H Q ->
  wpAny (model X.prog X.w) X.A (getItem z D) (EP X pins σ Q) X.xe s
variable{i:Int}
def znc{o i:Expr}{to d:TE}{S:V->V->Hp->VK->Prop}{a:TIp}{U:TSet}{b:Pos}(l:PE X o to)(hi:PE X i d)(m:PGet X S)(n:PE X e te)(p:PIp X op a)(q:PSet X U)(r:∀Y Z z,augStore i Y Z z=(do holding [z,Y,Z] (setItem Y Z z);release [z,Y,Z] [];pure .next):=by intros;rfl):PS X (.AugAssign (.Subscript o i b) op e pos) (zu3 to d te S a U):=by
 intro pins s σ H D I h;refine wpAny_AugAssign_SubscriptAny (thn (l pins s σ H _ I h) λY t L=>?_) r;obtain⟨f,H1,u,g,w⟩:=L;refine thn (hi pins t σ H1 _ u w) λZ s2 L=>?_;obtain⟨j,H2,x,k,y⟩:=L;refine thn (m pins s2 σ H2 f j Y Z _ x g k y) λc A L=>?_;obtain⟨B,C,E,r3,F⟩:=L;refine thn (n pins A σ C _ E F) λv G L=>?_;obtain⟨J,K,M,N,O⟩:=L;refine thn (p pins G σ K B J c v _ M r3 N O) λz P L=>?_;obtain⟨Q,R,T,W,q5⟩:=L;exact thn (q pins P σ R f j Q Y Z z _ T g k W q5) λ_ s6 ⟨H6,I6,q6⟩=>⟨σ,H6,I6,q6⟩
def ipI(f:Int->Int->Int):TIp:=λx y H Q=>∃i j,x=.int i/\y=.int j/\Q (.int (f i j)) H
def zq8:PIp X .Add (ipI λi j=>i+j):=by
 intro pins s σ H x y v u Q I z D h;obtain⟨i,j,L,S,q⟩:=h;subst L;subst S;obtain⟨t,rfl⟩:=z;obtain⟨t',rfl⟩:=D;exact iadd_int ⟨.int _,H,I.tok _,⟨_,rfl⟩,q⟩
def zu4:PIp X .Sub (ipI λi j=>i-j):=by
 intro pins s σ H x y v u Q I z D h;obtain⟨i,j,L,S,q⟩:=h;subst L;subst S;obtain⟨t,rfl⟩:=z;obtain⟨t',rfl⟩:=D;exact isub_int ⟨.int _,H,I.tok _,⟨_,rfl⟩,q⟩
def zu5(c:TT)(tb:TS):TS:=λD σ H=>∃W:Nat->St->Hp->Prop,(∃m,W m σ H)/\∀m σ H,W m σ H ->
 c σ H λb H1=>if b=true then ∃N:St->Hp->Prop,(∀z H',N z H'->∃I,I<m/\W I z H')/\tb { D with nx:=N,ct:=N,bk:=D.nx } σ H1 else D.nx σ H1
variable{body:List Stmt}
def zpl{tb:TS}(g:PassesOwn (model X.prog X.w) X.A X.env X.xe)(k:PT X c tc)(l:PSs X body tb):PS X (.While c body [] pos) (zu5 tc tb):=by
 intro pins s σ H D I h;obtain⟨W,⟨m,o⟩,turn⟩:=h;refine wpAny_While (codeAny_whileLoop (λn s'=>∃L H',Inv X pins L H' s'/\W n L H') ?_ m ⟨σ,H,I,o⟩);rintro n p ⟨σ1,H1,I1,w1⟩;refine wpAny_passesOwn g (thn (k pins p σ1 H1 _ I1 (turn n σ1 H1 w1)) λb s2 q=>?_);obtain⟨H2,i,U⟩:=q;cases b with
 |true =>
   obtain⟨N,j,U⟩:=U;rw[if_pos rfl];refine wpAny_passesOwn g (thn (l pins s2 σ1 H2 _ i U) λf r V=>?_);cases f with
   |next =>
     obtain⟨z,S,Y,Z⟩:=V;obtain⟨a,d,e⟩:=j z S Z;exact⟨a,d,z,S,Y,e⟩
   |cont =>
     obtain⟨z,S,Y,Z⟩:=V;obtain⟨a,d,e⟩:=j z S Z;exact⟨a,d,z,S,Y,e⟩
   |brk=>exact V |ret v=>exact V
 |false =>
   rw[if_neg bv];exact wpAny_execs_nil ⟨σ1,H2,i,U⟩
structure It where
 go:Nat->Hp->Prop
 yld:Nat->Hp->V->Hp->Prop
 stop:Nat->Hp->Prop
def FpOk(X:Cx)(pins:ed)(H:Hp)(b:Addr):Prop :=
 H b=none/\b≠X.env.locals/\b∉X.fs/\(b∈X.ex\/X.s₀.heap.objs.size<=b)/\(∀x c,X.env.cells.lookup x=↑c->c≠b)/\∀p∈X.pn++pins,p.1≠b
def Inv.fpOk{b:Addr}(I:Inv X pins σ H s)(D:s.heap.objs.size<=b)(L:H' b=none):FpOk X pins H' b:=by
 refine⟨L,k6 (ba I.lt D),I.nofs D,.inr (bi I.sz D),λx c e z=>?_,λp S z=>?_⟩
 ·obtain⟨v,q⟩:=I.cell x c e
  exact absurd (ba q.lt (by rw[z];exact D)) (gh _)
 ·exact absurd (ba (bo (I.pin p S).1) (by rw[z];exact D)) (gh _)
structure qq (Cm:Cx->Prop) (P:Program) (w:World) (K:eb) (tg:Expr) (J:It) (fp:cc) (it:Addr) (tn:Nat->Heap->Prop):Prop where
 mem:it∈fp
 obj:∀i h,tn i h->∀b∈fp,∃o,h.get? b=↑o/\∀v,o.data≠.cell v
 keep:∀i h h',tn i h->(∀b∈fp,∀o,h.get? b=↑o->h'.get? b=↑o)->tn i h'
 item:∀(X:Cx),X.prog=P->X.w=w->X.K=K->Cm X->∀(i:Nat) (pins:ed) (s:Shared) (σ:St) (H:Hp) (E:Value->Shared->Prop),Inv X pins σ H s->(∀b∈fp,FpOk X pins H b)->tn i s.heap->J.go i H ->
  wpAny (model P w) X.A (pyNext (.ref it)) (λr s1=>∃u,r=↑u /\
   wpAny (model P w) X.A (letOwnedTupleGo tg (.ref it) u) (λ_ s2=>∃x H',Inv X pins σ H' s2/\RelV x u/\J.yld i H x H'/\tn (i+1) s2.heap/\∀b∈fp,H' b=none) E s1) E s
 done:∀(X:Cx),X.prog=P->X.w=w->X.K=K->Cm X->∀(i:Nat) (pins:ed) (s:Shared) (σ:St) (H:Hp) (E:Value->Shared->Prop),Inv X pins σ H s->(∀b∈fp,FpOk X pins H b)->tn i s.heap->J.stop i H ->
  wpAny (model P w) X.A (pyNext (.ref it)) (λr s1=>r=none/\Inv X pins σ H s1) E s
 self:∀(A:Around) (i:Nat) (s:Shared) (Q:Value->Shared->Prop) (E:Value->Shared->Prop),tn i s.heap->Q (.ref it) s->wpAny (model P w) A (pyIter (.ref it)) Q E s
abbrev Turn:=qq λX=>X.calm=true
abbrev TI:=St->Hp->(It->Hp->Prop)->Prop
def PIEC(Cm:Cx->Prop)(X:Cx)(pins:ed)(σ:St)(tg:Expr)(R:It->Hp->Prop)(z:Value)(s2:Shared):Prop :=
 ∃(it:Addr) (fp:cc) (D:Nat->Heap->Prop) (J:It) (H':Hp),z=.ref it/\Inv X pins σ H' s2/\qq Cm X.prog X.w X.K tg J fp it D/\D 0 s2.heap/\(∀b∈fp,FpOk X pins H' b)/\R J H'
def PIC(Cm:Cx->Prop)(X:Cx)(tg iter:Expr)(wi:TI):Prop :=
 ∀(pins:ed) (s:Shared) (σ:St) (H:Hp) (R:It->Hp->Prop),Inv X pins σ H s->wi σ H R ->
  wpAny (model X.prog X.w) X.A (eval iter X.env) (λv z=>wpAny (model X.prog X.w) X.A (pyIter v) (PIEC Cm X pins σ tg R) X.xe z) X.xe s
abbrev PI:=PIC λX=>X.calm=true
variable{tg:Expr}{vs:el}
def yb{n:String}{vs:ei}{Q:Unit->Shared->Prop}(D:s.heap.get? it=↑o)(I:o.cls=.type n)(hd:o.data=.fields vs)(L:["enumerate", "zip", "dict_itemiterator", "dict_reverseitemiterator", "odict_iterator", "itertools.zip_longest", "itertools.pairwise"].contains n=false)(z:Q () s):wpAny M A (letOwnedTupleGo tg (.ref it) u) Q E s:=by
 unfold letOwnedTupleGo;cases tg <;> first
  |exact wpAny_pure z
  | (cases u <;> first
      |exact wpAny_pure z
      | (refine wpAny_bind (wpAny_load D ?_)
         rw[I,hd];show wpAny M A (if (["enumerate", "zip", "dict_itemiterator", "dict_reverseitemiterator", "odict_iterator", "itertools.zip_longest", "itertools.pairwise"].contains n && vs[0]?==↑(rawInt _))=true then _ else _) Q E s;rw[if_neg (by intro h;rw[L,Bool.false_and] at h;cases h)];exact wpAny_pure z))
def Itl(K:eb)(a:Addr):It :=
 ⟨λi H=>∃xs x,SqL K H a xs/\xs[i]?=↑x,λi H x H'=>H'=H/\∀xs,SqL K H a xs->xs[i]?=↑x,λi H=>∃xs,SqL K H a xs/\xs.length<=i⟩
def Itt(K:eb)(a:Addr):It :=
 ⟨λi H=>∃xs x,SqT K H a xs/\xs[i]?=↑x,λi H x H'=>H'=H/\∀xs,SqT K H a xs->xs[i]?=↑x,λi H=>∃xs,SqT K H a xs/\xs.length<=i⟩
def Itr(lo:Int)(n:Nat):It:=⟨λi _=>i<n,λi H x H'=>H'=H/\x=.int (lo+i),λi _=>n<=i⟩
def znd(a it:Addr):Turn P w K tg (Itl K a) [it] it (λi h=>h.IsListIter it a i) where
 mem:=by simp
 obj:=λi h st b D=>by
  have e:b=it:=by simpa using D
  subst e;obtain⟨o,e,c,d⟩:=st;exact⟨o,e,λv z=>by rw[d] at z;cases z⟩
 keep:=λi h h' st k=>st.at λo e=>k it (by simp) o e
 item:=by
  intro X hP V Y r i pins s σ H E I S st Z;subst hP V Y;obtain⟨xs,x,U,f⟩:=Z;obtain⟨its,g,p,t⟩:=I.list U;obtain⟨u,y,A⟩:=g.get f;obtain⟨j,l,B,m,n,q⟩:=S it (by simp);refine wpAny_pyNext_list_item st p.isList (x:=u) (by simpa using y) λh' L C=>?_;have F:Inv X pins σ H { s with heap:=h' }:=I.turned (t':=s.toks) (λb o D e=>(C.2 b D).trans e) j l m n q;obtain⟨o,e,c,d⟩:=id L;exact⟨u,rfl,yb (s:={ s with heap:=h' }) e c d (by decide) ⟨x,H,F,A,⟨rfl,λys G=>by rw[I.list_inj G U];exact f⟩,L,λb D=>(S b D).1⟩⟩
 done:=by
  intro X hP V Y r i pins s σ H E I S st Z;subst hP V Y;obtain⟨xs,U,f⟩:=Z;obtain⟨its,g,p,t⟩:=I.list U;obtain⟨j,l,B,m,n,q⟩:=S it (by simp);have M:=g.length;exact wpAny_pyNext_list_end (I.ok.hd r) st p.isList (by simp;omega) λh' J=>⟨rfl,I.turned (t':=s.toks) (λb o D e=>J b o D e) j l m n q⟩
 self:=λ_ _ _ _ _ st h=>wpAny_pyIter_listiter st h
def zl8(a it:Addr):Turn P w K tg (Itt K a) [it] it (λi h=>h.IsTupleIter it a i) where
 mem:=by simp
 obj:=λi h st b D=>by
  have e:b=it:=by simpa using D
  subst e;obtain⟨o,e,c,d⟩:=st;exact⟨o,e,λv z=>by rw[d] at z;cases z⟩
 keep:=λi h h' st k=>st.at λo e=>k it (by simp) o e
 item:=by
  intro X hP V Y r i pins s σ H E I S st Z;subst hP V Y;obtain⟨xs,x,U,f⟩:=Z;obtain⟨its,g,p,t⟩:=I.tuple U;obtain⟨u,y,A⟩:=g.get f;obtain⟨j,l,B,m,n,q⟩:=S it (by simp);refine wpAny_pyNext_tuple_item st (show s.heap.IsTuple a its.toArray from p) (x:=u) (by simpa using y) λh' L C=>?_;have F:Inv X pins σ H { s with heap:=h' }:=I.turned (t':=s.toks) (λb o D e=>(C.2 b D).trans e) j l m n q;obtain⟨o,e,c,d⟩:=id L;exact⟨u,rfl,yb (s:={ s with heap:=h' }) e c d (by decide) ⟨x,H,F,A,⟨rfl,λys G=>by rw[I.tuple_inj G U];exact f⟩,L,λb D=>(S b D).1⟩⟩
 done:=by
  intro X hP V Y r i pins s σ H E I S st Z;subst hP V Y;obtain⟨xs,U,f⟩:=Z;obtain⟨its,g,p,t⟩:=I.tuple U;obtain⟨j,l,B,m,n,q⟩:=S it (by simp);have M:=g.length;exact wpAny_pyNext_tuple_end (I.ok.hd r) st (show s.heap.IsTuple a its.toArray from p) (by simp;omega) λh' J=>⟨rfl,I.turned (t':=s.toks) (λb o D e=>J b o D e) j l m n q⟩
 self:=λ_ _ _ _ _ st h=>wpAny_pyIter_tupleiter st h
def zhu(it:Addr)(lo:Int)(n:Nat):Turn P w K tg (Itr lo n) [it] it (λi h=>IsRangeIter h it (lo+(i:Nat)*1) ((n:Int)-(i:Nat)) 1) where
 mem:=by simp
 obj:=λi h st b D=>by
  have e:b=it:=by simpa using D
  subst e;exact⟨_,st,λv z=>by
   have j:Data.fields _=Data.cell v:=z;cases j⟩
 keep:=λi h h' st k=>k it (by simp) _ st
 item:=by
  intro X hP U V Y i pins s σ H E I S st Z;subst hP U V;obtain⟨a,c,l,d,f,g⟩:=S it (by simp);have W:=Walks.range (prog:=X.prog) (w:=X.w) (I.ok.hd Y) it lo 1 n;refine W.item i s _ _ Z st λv h' tk m L kk=>?_;obtain⟨t,rfl⟩:=m;have p:Inv X pins σ H { s with heap:=h',toks:=tk }:=I.turned (λb o D e=>kk b o (by simpa using D) e) a c d f g;refine⟨_,rfl,yb (s:={ s with heap:=h',toks:=tk }) (n:="range_iterator") L rfl rfl (by decide) ⟨.int (lo+i),H,p,⟨t,?_⟩,⟨rfl,rfl⟩,L,λb D=>(S b D).1⟩⟩;rw[Int.mul_one]
 done:=by
  intro X hP U V Y i pins s σ H E I S st Z;subst hP U V;obtain⟨a,c,l,d,f,g⟩:=S it (by simp);exact wpAny_pyNext_range_end (I.ok.hd Y) st (by have:n<=i:=Z;omega) λh' q=>⟨rfl,I.turned (t':=s.toks) (λb o D e=>q b o D e) a c d f g⟩
 self:=λ_ _ _ _ _ st h=>wpAny_pyIter_rangeiter st h
def zxn(K:eb)(tl:TE):TI:=λσ H R=>tl σ H λx H1=>∃a,x=.ref a/\(∃xs,SqL K H1 a xs)/\R (Itl K a) H1
def iTup(K:eb)(tl:TE):TI:=λσ H R=>tl σ H λx H1=>∃a,x=.ref a/\(∃xs,SqT K H1 a xs)/\R (Itt K a) H1
variable{l:Expr}{tl:TE}
def zsa(L:PE X l tl):PI X tg l (zxn X.K tl):=by
 intro pins s σ H R I h;refine thn (L pins s σ H _ I h) λv z S=>?_;obtain⟨x,H1,D,U,V⟩:=S;obtain⟨a,e,⟨xs,Y⟩,q⟩:=V;subst e;cases U;obtain⟨its,c,p,d⟩:=D.list Y;refine wpAny_pyIter_list p.isList ?_;refine⟨z.heap.objs.size,[z.heap.objs.size],_,_,H1,rfl,D.kept (t':=z.toks) λb o e=>bc _ e,znd a _,⟨_,cf _ rfl,rfl,rfl⟩,λb Z=>?_,q⟩;have e:b=z.heap.objs.size:=by simpa using Z
 subst e;exact D.fpOk (bg _) (D.hok.fresh (bg _))
def zu6(L:PE X l tl):PI X tg l (iTup X.K tl):=by
 intro pins s σ H R I h;refine thn (L pins s σ H _ I h) λv z S=>?_;obtain⟨x,H1,D,U,V⟩:=S;obtain⟨a,e,⟨xs,Y⟩,q⟩:=V;subst e;cases U;obtain⟨its,c,p,d⟩:=D.tuple Y;refine wpAny_pyIter_tuple (show z.heap.IsTuple a its.toArray from p) ?_;refine⟨z.heap.objs.size,[z.heap.objs.size],_,_,H1,rfl,D.kept (t':=z.toks) λb o e=>bc _ e,zl8 a _,⟨_,cf _ rfl,rfl,rfl⟩,λb Z=>?_,q⟩;have e:b=z.heap.objs.size:=by simpa using Z
 subst e;exact D.fpOk (bg _) (D.hok.fresh (bg _))
variable{Cm:Cx->Prop}
def zk5(hT:∀(it:Addr) (lo:Int) (n:Nat),qq Cm X.prog X.w X.K tg (Itr lo n) [it] it (λi h=>IsRangeIter h it (lo+(i:Nat)*1) ((n:Int)-(i:Nat)) 1)){R:It->Hp->Prop}{lo hi:Int}{t u v:Tok}{tk:Nat}(I:Inv X pins σ H s)(h1:-(2 ^ 62)<=lo)(h2:lo<2 ^ 62)(D:-(2 ^ 62)<=hi)(L:hi<2 ^ 62)(q:R (Itr lo (hi-lo).toNat) H):wpAny (model X.prog X.w) X.A (pyIter (.ref s.heap.objs.size)) (PIEC Cm X pins σ tg R) E { s with heap:=s.heap.push { cls:=.type "range",data:=.fields #[.int lo t,.int hi u,.int 1 v] },toks:=tk }:=by
 refine wpAny_pyIter_range (IsRange.new ..) (small_one h1 h2 D L) ?_;have z:Inv X pins σ H { s with heap:=s.heap.push { cls:=.type "range",data:=.fields #[.int lo t,.int hi u,.int 1 v] },toks:=tk }:=I.kept λb o e=>bc _ e;refine⟨(s.heap.push { cls:=.type "range",data:=.fields #[.int lo t,.int hi u,.int 1 v] }).objs.size,[(s.heap.push { cls:=.type "range",data:=.fields #[.int lo t,.int hi u,.int 1 v] }).objs.size],_,_,H,rfl,
  z.kept (t':=tk) λb o e=>bc _ e,hT _ lo (hi-lo).toNat,?_,λb S=>?_,q⟩
 ·have U:lo+((0:Nat):Int)*1=lo:=by simp
  have V:(((hi-lo).toNat:Nat):Int)-((0:Nat):Int)=Builtin.Range.rangeSize lo hi 1:=by rw[rangeSize_one];split <;> omega
  show IsRangeIter _ _ (lo+((0:Nat):Int)*1) ((((hi-lo).toNat:Nat):Int)-((0:Nat):Int)) 1;rw[U,V];exact cf _ rfl
 ·have e:b=(s.heap.push { cls:=.type "range",data:=.fields #[.int lo t,.int hi u,.int 1 v] }).objs.size:=by simpa using S
  subst e;exact z.fpOk (bg _) (z.hok.fresh (bg _))
def zxo(ta:TA):TI:=λσ H R=>ta σ H λvs H1=>∃j:Int,vs=[.int j]/\-(2 ^ 62)<=j/\j<2 ^ 62/\R (Itr 0 j.toNat) H1
def zxp(ta:TA):TI:=λσ H R=>ta σ H λvs H1=>∃i j:Int,vs=[.int i,.int j]/\(-(2 ^ 62)<=i/\i<2 ^ 62/\-(2 ^ 62)<=j/\j<2 ^ 62)/\R (Itr i (j-i).toNat) H1
variable{p:Pos}
def zl9(hT:∀(it:Addr) (lo:Int) (n:Nat),qq Cm X.prog X.w X.K tg (Itr lo n) [it] it (λi h=>IsRangeIter h it (lo+(i:Nat)*1) ((n:Int)-(i:Nat)) 1)){ta:TA}(D:Gl X "range")(L:X.mg "range" = none)(S:PA X [a] ta)(U:starEach [a] X.env=[(false,eval a X.env)]:=by rfl):PIC Cm X tg (.Call (.Name "range" p) [a] [] pos) (zxo ta):=by
 intro pins s σ H R I h;refine Call_ (np I D L boot_range (d5 (thn (S pos pins s σ H _ I h) λus c V=>?_) U rfl));obtain⟨vs,H1,Y,Z,z⟩:=V;obtain⟨j,e,z,b,q⟩:=z;subst e;cases Z with
 |cons r rr =>
   cases rr;obtain⟨t,rfl⟩:=r;exact call_range_1 (zk5 hT Y (by omega) (by omega) z b (by simpa using q))
def zne{ta:TA}(L:Gl X "range")(S:X.mg "range" = none)(U:PA X [a,b] ta)(V:starEach [a,b] X.env=[(false,eval a X.env),(false,eval b X.env)]:=by rfl)(z:starEach [b] X.env=[(false,eval b X.env)]:=by rfl) :
  PI X tg (.Call (.Name "range" p) [a,b] [] pos) (zxp ta):=by
 intro pins s σ H R I h;refine Call_ (np I L S boot_range (d5 (thn (U pos pins s σ H _ I h) λus k Y=>?_) (by rw[V,z]) (by rw[z];rfl)));obtain⟨vs,H1,Z,c,D⟩:=Y;obtain⟨i,j,e,⟨D,d,f,g⟩,q⟩:=D;subst e;cases c with
 |cons r rr =>
   cases rr with
   |cons r' rr =>
     cases rr;obtain⟨t,rfl⟩:=r;obtain⟨t',rfl⟩:=r';exact call_range_2 (zk5 (λit lo n=>zhu it lo n) Z D d f g q)
def tFor(wi:TI)(g:TG)(tb:TS):TS:=λD σ H=>wi σ H λJ H1=>∃W:Nat->Nat->St->Hp->Prop,(∃m,W 0 m σ H1)/\∀i m σ H,W i m σ H ->
 (J.stop i H/\D.nx σ H)\/(J.go i H/\∃N:St->Hp->Prop,(∀z H',N z H'->∃L,L<m/\W (i+1) L z H')/\∀x H',J.yld i H x H'->g x σ H' λI H2=>tb { D with nx:=N,ct:=N,bk:=D.nx } I H2)
def sx(fp:cc)(h:Heap):ed:=fp.filterMap λb=>(h.get? b).map λo=>(b,o)
variable{fp:cc}
def vt{b:Addr}(z:b∈fp)(e:h.get? b=↑o):(b,o)∈sx fp h:=List.mem_filterMap.mpr ⟨b,z,by rw[e];rfl⟩
def znf{p:Addr×Obj}(z:p∈sx fp h):p.1∈fp/\h.get? p.1=↑p.2:=by
 obtain⟨b,D,e⟩:=List.mem_filterMap.mp z;cases q:h.get? b with
 |none=>rw[q] at e;cases e
 |some o =>
   rw[q] at e;have e':(b,o)=p:=ay e;subst e';exact⟨D,q⟩
def Inv.pinned(I:Inv X pins σ H s)(L:∀b∈fp,FpOk X pins H b)(S:∀b∈fp,∃o,s.heap.get? b=↑o/\∀v,o.data≠.cell v):Inv X (pins++sx fp s.heap) σ H s :=
 I.pins_of λp U=>(cw.mp U).elim (λz=>I.pin p (bq _ z)) λz=>by
  obtain⟨D,e⟩:=znf z;obtain⟨V,Y,Z,_⟩:=L p.1 D;obtain⟨o,e',d⟩:=S p.1 D;rw[e] at e';cases e';exact⟨e,V,Y,Z,d⟩
def Inv.unpinned{pins pl:ed}(I:Inv X (pins++pl) σ H s):Inv X pins σ H s:=I.pins_of λp z=>I.pin p (bq _ (de _ z))
variable{g:Int->Int->Int}
def zu7{iter:Expr}{wi:TI}{g:TG}{tb:TS}(j:PassesOwn (model X.prog X.w) X.A X.env X.xe)(E:X.calm=true)(hi:PI X tg iter wi)(P:PG X tg g)(L:PSs X body tb)(Q:∀x,foldedSetIterable iter X.env x=pure x:=by intro _;rfl):PS X (.For tg iter body [] pos) (tFor wi g tb):=by
 intro pins s σ H D I h;refine wpAny_For (thn (hi pins s σ H _ I h) λv s1 h1=>thn h1 λR s2 h2=>?_) Q;obtain⟨it,fp,F,J,H2,e,I2,T,p,G,W,⟨m0,w0⟩,turn⟩:=h2;subst e;have S:∀ {H':Hp},(∀b∈fp,H' b=none)->∀b∈fp,FpOk X pins H' b:=λhn b L=>⟨hn b L,(G b L).2⟩;refine codeAny_forLoop_any (λn s'=>∃i U H',Inv X pins U H' s'/\F i s'.heap/\(∀b∈fp,H' b=none)/\W i n U H') ?_ m0 ⟨0,σ,H2,I2,p,λb L=>(G b L).1,w0⟩;rintro n K ⟨i,σ3,H3,I3,st3,fr3,w3⟩;rcases turn i n σ3 H3 w3 with⟨k,qn⟩ | ⟨go,N,hN,step⟩
 ·refine wpAny_passesOwn j (thn (T.done X rfl rfl rfl E i pins K σ3 H3 X.xe I3 (S fr3) st3 k) λr s4 a=>?_)
  obtain⟨q,I4⟩:=a;subst q;exact wpAny_execs_nil ⟨σ3,H3,I4,qn⟩
 ·refine wpAny_passesOwn j (thn (T.item X rfl rfl rfl E i pins K σ3 H3 X.xe I3 (S fr3) st3 go) λr s4 a=>?_)
  obtain⟨u,q,h4⟩:=a;subst q;refine wpAny_passesOwn j (thn h4 λ_ M a=>?_);obtain⟨x,O,I5,r5,y5,c,t⟩:=a;have y:=I5.pinned (S t) (T.obj _ _ c);refine wpAny_passesOwn j (thn (P _ M σ3 O x u _ y r5 (step x O y5)) λ_ s6 a=>?_);obtain⟨B,H6,I6,q6⟩:=a;refine wpAny_passesOwn j (thn (L _ s6 B H6 _ I6 q6) λf C Z=>?_);have again:∀ {z:St} {V:Hp},Inv X (pins++sx fp M.heap) z V C->N z V->∃m,m<n/\∃i U H',Inv X pins U H' C/\F i C.heap/\(∀b∈fp,H' b=none)/\W i m U H':=λ{z V} Y l=>by
   obtain⟨m',hm,w7⟩:=hN z V l;refine⟨m',hm,i+1,z,V,Y.unpinned,T.keep _ _ _ c λb L o e=>(Y.pin (b,o) (bq _ (bq _ (vt L e)))).1,λb L=>?_,w7⟩;obtain⟨o,e,d⟩:=T.obj _ _ c b L;exact(Y.pin (b,o) (bq _ (bq _ (vt L e)))).2.1
  cases f with
  |next=>obtain⟨z,V,Y,l⟩:=Z;exact again Y l
  |cont=>obtain⟨z,V,Y,l⟩:=Z;exact again Y l
  |brk=>obtain⟨z,V,Y,Z⟩:=Z;exact⟨z,V,Y.unpinned,Z⟩ |ret v=>obtain⟨x7,z,V,Y,r7,Z⟩:=Z;exact⟨x7,z,V,Y.unpinned,r7,Z⟩
abbrev R2:=V->V->Hp->VK->Prop
def OpR(X:Cx)(f:Value->Value->Sem Value)(r:R2):Prop :=
 ∀(pins:ed) (s:Shared) (σ:St) (H:Hp) (x y:V) (v u:Value) (Q:VK),Inv X pins σ H s->RelV x v->RelV y u->r x y H Q ->
  wpAny (model X.prog X.w) X.A (f v u) (EP X pins σ Q) X.xe s
def UnR(X:Cx)(f:Value->Sem Value)(r:V->Hp->VK->Prop):Prop :=
 ∀(pins:ed) (s:Shared) (σ:St) (H:Hp) (x:V) (v:Value) (Q:VK),Inv X pins σ H s->RelV x v->r x H Q ->
  wpAny (model X.prog X.w) X.A (f v) (EP X pins σ Q) X.xe s
def l9(X:Cx)(f:Value)(r:el->Hp->VK->Prop):Prop :=
 ∀(pins:ed) (s:Shared) (σ:St) (H:Hp) (xs:el) (us:b4) (Q:VK),Inv X pins σ H s->Vals xs us->r xs H Q ->
  wpAny (model X.prog X.w) X.A (call f us) (EP X pins σ Q) X.xe s
def tOp(r:R2)(ta tb:TE):TE:=λσ H Q=>ta σ H λx H1=>tb σ H1 λy H2=>r x y H2 Q
def tUn(r:V->Hp->VK->Prop)(ta:TE):TE:=λσ H Q=>ta σ H λx H1=>r x H1 Q
def rI(C:Int->Int->Prop)(g:Int->Int->V):R2:=λx y H Q=>∃i j,x=.int i/\y=.int j/\C i j/\Q (g i j) H
def rI0(g:Int->Int->V):R2:=λx y H Q=>∃i j,x=.int i/\y=.int j/\Q (g i j) H
def rU(g:Int->V):V->Hp->VK->Prop:=λx H Q=>∃i,x=.int i/\Q (g i) H
variable{f:Value->Value->Sem Value}
def binT(L:PE X a ta)(S:PE X b tb){R:V->V->Hp->Prop}(I:Inv X pins σ H s)(h:ta σ H λx H1=>tb σ H1 λy H2=>R x y H2)(U:∀v u s2 x y H2,Inv X pins σ H2 s2->RelV x v->RelV y u->R x y H2->wpAny (model X.prog X.w) X.A (f v u) Q X.xe s2) :
  wpAny (model X.prog X.w) X.A (eval a X.env) (λv z=>wpAny (model X.prog X.w) X.A (eval b X.env) (λu s₂=>wpAny (model X.prog X.w) X.A (f v u) Q X.xe s₂) X.xe z) X.xe s:=by
 refine thn (L pins s σ H _ I h) λv Y D=>?_;obtain⟨x,H1,Z,c,d⟩:=D;refine thn (S pins Y σ H1 _ Z d) λu s2 D=>?_;obtain⟨y,H2,e,g,i⟩:=D;exact U v u s2 x y H2 e c g i
variable{r:R2}
def x6(z:OpR X (binaryOp op) r)(D:PE X a ta)(L:PE X b tb):PE X (.BinOp a op b pos) (tOp r ta tb):=by
 intro pins s σ H Q I h;exact wpAny_BinOp (binT D L I h λv u s2 x y H2 S U V q=>z pins s2 σ H2 x y v u Q S U V q)
variable{op:CmpOp}
def zxq{op:UnaryOp}{r:V->Hp->VK->Prop}(z:UnR X (unaryOp op) r)(D:PE X a ta):PE X (.UnaryOp op a pos) (tUn r ta):=by
 intro pins s σ H Q I h;exact UnaryOp_ (thn (D pins s σ H _ I h) λv s1 ⟨x,H1,I1,r1,q1⟩=>z pins s1 σ H1 x v Q I1 r1 q1)
variable{C:Addr}
def opI{C:Int->Int->Prop}(rule:∀(i j:Int) (t u:Tok) (s:Shared) (Q:Value->Shared->Prop) (E:Value->Shared->Prop),C i j->Q (.int (g i j) s.toks) { s with toks:=s.toks+1 }->wpAny (model X.prog X.w) X.A (f (.int i t) (.int j u)) Q E s) :
  OpR X f (rI C λi j=>.int (g i j)):=by
 intro pins s σ H x y v u Q I z D h;obtain⟨i,j,rfl,rfl,L,q⟩:=h;obtain⟨t,rfl⟩:=z;obtain⟨t',rfl⟩:=D;exact rule i j t t' s _ _ L ⟨.int (g i j),H,I.tok _,⟨_,rfl⟩,q⟩
def opI0(rule:∀(i j:Int) (t u:Tok) (s:Shared) (Q:Value->Shared->Prop) (E:Value->Shared->Prop),Q (.int (g i j) s.toks) { s with toks:=s.toks+1 }->wpAny (model X.prog X.w) X.A (f (.int i t) (.int j u)) Q E s) :
  OpR X f (rI0 λi j=>.int (g i j)):=by
 intro pins s σ H x y v u Q I z D h;obtain⟨i,j,rfl,rfl,q⟩:=h;obtain⟨t,rfl⟩:=z;obtain⟨t',rfl⟩:=D;exact rule i j t t' s _ _ ⟨.int (g i j),H,I.tok _,⟨_,rfl⟩,q⟩
def opB0{g:Int->Int->Bool}(rule:∀(i j:Int) (t u:Tok) (s:Shared) (Q:Value->Shared->Prop) (E:Value->Shared->Prop),Q (.bool (g i j)) s->wpAny (model X.prog X.w) X.A (f (.int i t) (.int j u)) Q E s) :
  OpR X f (rI0 λi j=>.bl (g i j)):=by
 intro pins s σ H x y v u Q I z D h;obtain⟨i,j,rfl,rfl,q⟩:=h;obtain⟨t,rfl⟩:=z;obtain⟨t',rfl⟩:=D;exact rule i j t t' s _ _ ⟨.bl (g i j),H,I,rfl,q⟩
def CDiv(i j:Int):Prop:=0<j/\j<1073741824
def CMul(i j:Int):Prop:=(-(2 ^ 64)<i/\i<2 ^ 64)\/(-(2 ^ 64)<j/\j<2 ^ 64)
def CMul.ok(h:CMul i j):IntMulOk i j:=by
 rcases h with⟨h1,h2⟩ | ⟨h1,h2⟩
 ·exact .of_left (intBits_le_64 h1 h2)
 ·exact .of_right (intBits_le_64 h1 h2)
def zu8:OpR X (binaryOp .Add) (rI0 λi j=>.int (i+j)):=opI0 λ_ _ _ _ _ _ _ q=>add_int q
def zu9:OpR X (binaryOp .Sub) (rI0 λi j=>.int (i-j)):=opI0 λ_ _ _ _ _ _ _ q=>sub_int q
def zva:OpR X (binaryOp .Mult) (rI CMul λi j=>.int (i*j)):=opI λ_ _ _ _ _ _ _ z q=>mul_int q z.ok
def zsc:OpR X (binaryOp .FloorDiv) (rI CDiv λi j=>.int (i / j)):=opI λi j _ _ _ _ _ z q=>by
 have h1:(0:Int)<j:=z.1;have h2:j<1073741824:=z.2;exact floordiv_int (by omega) (by rw[Int.fdiv_eq_ediv_of_nonneg i (by omega)];exact q) (.inl (PyProof.noPylong_small (by omega)))
def zvb:OpR X (binaryOp .Mod) (rI (λ_ j=>0<j) λi j=>.int (i % j)):=opI λi j _ _ _ _ _ z q=>by
 have h1:(0:Int)<j:=z;exact mod_int' (by omega) (by rw[Int.fmod_eq_emod_of_nonneg i (by omega)];exact q)
variable{f:Addr}
def unI{f:Value->Sem Value}{g:Int->Int}(rule:∀(i:Int) (t:Tok) (s:Shared) (Q:Value->Shared->Prop) (E:Value->Shared->Prop),Q (.int (g i) s.toks) { s with toks:=s.toks+1 }->wpAny (model X.prog X.w) X.A (f (.int i t)) Q E s) :
  UnR X f (rU λi=>.int (g i)):=by
 intro pins s σ H x v Q I z h;obtain⟨i,rfl,q⟩:=h;obtain⟨t,rfl⟩:=z;exact rule i t s _ _ ⟨.int (g i),H,I.tok _,⟨_,rfl⟩,q⟩
def zvc:UnR X (unaryOp .USub) (rU λi=>.int (-i)):=unI λ_ _ _ _ _ q=>neg_int q
def scal:V->V->Bool
 | .non,.non=>true | .non,.int _=>true | .int _,.non=>true | .non,.bl _=>true | .bl _,.non=>true | .non,.str _=>true | .str _,.non=>true | .int _,.int _=>true | .bl _,.bl _=>true | .str _,.str _=>true | .byt _,.byt _=>true | .int _,.str _=>true | .str _,.int _=>true | .bl _,.str _=>true | .str _,.bl _=>true |_,_=>false
def rEq:R2:=λx y H Q=>scal x y=true/\Q (.bl (decide (x=y))) H
def rNe:R2:=λx y H Q=>scal x y=true/\Q (.bl (!decide (x=y))) H
def zng:decide (V.int i=V.int j)=(i==j):=by
 rw[jq];simp
def zq9{i j:Bool}:decide (V.bl i=V.bl j)=(i==j):=by
 rw[jq];simp
def znh{i j:Str}:decide (V.str i=V.str j)=(i==j):=by
 rw[jq];simp
def zni{i j:Array UInt8}:decide (V.byt i=V.byt j)=(i.toList==j.toList):=by
 rw[jq];cases i;cases j;simp
def i7{Q:VK}{k z:Bool}(I:Inv X pins σ H s)(q:Q (.bl k) H)(e:k=z):EP X pins σ Q (.bool z) s:=by
 subst e;exact⟨.bl k,H,I,rfl,q⟩
def zvd:OpR X (compareOp .Eq) rEq:=by
 intro pins s σ H x y v u Q I L z h;obtain⟨D,q⟩:=h;cases x with
 |non =>
   cases L;cases y with
   |non=>cases z;exact PySem.EqNone.eq_none_none (i7 I q (by simp))
   |bl j=>cases z;exact PySem.EqNone.eq_none_bool (i7 I q (by simp))
   |int j=>obtain⟨t',rfl⟩:=z;exact PySem.EqNone.eq_none_int (i7 I q (by simp)) |str j=>obtain⟨t',rfl⟩:=z;exact PySem.EqNone.eq_none_str (i7 I q (by simp)) |_=>exact absurd (show false=true from D) bv
 |bl i =>
   cases L;cases y with
   |non=>cases z;exact PySem.EqNone.eq_bool_none (i7 I q (by simp))
   |bl j=>cases z;exact eq_bool (i7 I q zq9)
   |str j=>obtain⟨t',rfl⟩:=z;exact PySem.EqMixed.eq_bool_str (i7 I q (by simp)) |_=>exact absurd (show false=true from D) bv
 |int i =>
   obtain⟨t,rfl⟩:=L;cases y with
   |non=>cases z;exact PySem.EqNone.eq_int_none (i7 I q (by simp))
   |int j=>obtain⟨t',rfl⟩:=z;exact eq_int (i7 I q zng) |str j=>obtain⟨t',rfl⟩:=z;exact PySem.EqMixed.eq_int_str (i7 I q (by simp)) |_=>exact absurd (show false=true from D) bv
 |str i =>
   obtain⟨t,rfl⟩:=L;cases y with
   |non=>cases z;exact PySem.EqNone.eq_str_none (i7 I q (by simp))
   |bl j=>cases z;exact PySem.EqMixed.eq_str_bool (i7 I q (by simp))
   |int j=>obtain⟨t',rfl⟩:=z;exact PySem.EqMixed.eq_str_int (i7 I q (by simp)) |str j=>obtain⟨t',rfl⟩:=z;exact eq_str (i7 I q znh) |_=>exact absurd (show false=true from D) bv
 |byt i =>
   obtain⟨t,rfl⟩:=L;cases y with
   |byt j=>obtain⟨t',rfl⟩:=z;exact PySem.W.eq_bytes (i7 I q zni) |_=>exact absurd (show false=true from D) bv
 |_=>cases y <;> exact absurd (show false=true from D) bv
def zxr:OpR X (compareOp .NotEq) rNe:=by
 intro pins s σ H x y v u Q I L z h;obtain⟨D,q⟩:=h;cases x with
 |non =>
   cases L;cases y with
   |non=>cases z;exact PySem.EqNone.ne_none_none (i7 I q (by simp))
   |bl j=>cases z;exact PySem.EqNone.ne_none_bool (i7 I q (by simp))
   |int j=>obtain⟨t',rfl⟩:=z;exact PySem.EqNone.ne_none_int (i7 I q (by simp)) |str j=>obtain⟨t',rfl⟩:=z;exact PySem.EqNone.ne_none_str (i7 I q (by simp)) |_=>exact absurd (show false=true from D) bv
 |bl i =>
   cases L;cases y with
   |non=>cases z;exact PySem.EqNone.ne_bool_none (i7 I q (by simp))
   |bl j=>cases z;exact ne_bool (i7 I q (congrArg not zq9))
   |str j=>obtain⟨t',rfl⟩:=z;exact PySem.EqMixed.ne_bool_str (i7 I q (by simp)) |_=>exact absurd (show false=true from D) bv
 |int i =>
   obtain⟨t,rfl⟩:=L;cases y with
   |non=>cases z;exact PySem.EqNone.ne_int_none (i7 I q (by simp))
   |int j=>obtain⟨t',rfl⟩:=z;exact ne_int (i7 I q (congrArg not zng)) |str j=>obtain⟨t',rfl⟩:=z;exact PySem.EqMixed.ne_int_str (i7 I q (by simp)) |_=>exact absurd (show false=true from D) bv
 |str i =>
   obtain⟨t,rfl⟩:=L;cases y with
   |non=>cases z;exact PySem.EqNone.ne_str_none (i7 I q (by simp))
   |bl j=>cases z;exact PySem.EqMixed.ne_str_bool (i7 I q (by simp))
   |int j=>obtain⟨t',rfl⟩:=z;exact PySem.EqMixed.ne_str_int (i7 I q (by simp)) |str j=>obtain⟨t',rfl⟩:=z;exact ne_str (i7 I q (congrArg not znh)) |_=>exact absurd (show false=true from D) bv
 |byt i =>
   obtain⟨t,rfl⟩:=L;cases y with
   |byt j=>obtain⟨t',rfl⟩:=z;exact PySem.W.ne_bytes (i7 I q (congrArg not zni)) |_=>exact absurd (show false=true from D) bv
 |_=>cases y <;> exact absurd (show false=true from D) bv
def zxs:OpR X (compareOp .Lt) (rI0 λi j=>.bl (decide (i<j))):=opB0 λ_ _ _ _ _ _ _ q=>lt_int q
def zve:OpR X (compareOp .Gt) (rI0 λi j=>.bl (decide (j<i))):=opB0 λ_ _ _ _ _ _ _ q=>gt_int q
def zxt:OpR X (compareOp .GtE) (rI0 λi j=>.bl (decide (j<=i))):=opB0 λ_ _ _ _ _ _ _ q=>ge_int q
def pq(b:Expr)(h:op≠.In:=by decide)(h2:op≠.NotIn:=by decide):behindInMarks op b=false:=by
 have z:(op==CmpOp.In)=false:=by cases op <;> first |rfl |exact absurd rfl h
 have D:(op==CmpOp.NotIn)=false:=by cases op <;> first |rfl |exact absurd rfl h2
 cases b <;> simp[behindInMarks,z,D]
def zsd(z:OpR X (compareOp op) r)(D:PE X a ta)(L:PE X b tb)(S:behindInMarks op b=false):PE X (.Compare a [op] [b] pos) (tOp r ta tb):=by
 intro pins s σ H Q I h;exact wpAny_Compare1 (binT D L I h λv u s2 x y H2 U V Y q=>z pins s2 σ H2 x y v u Q U V Y q) S
def zvf(t:TE):TT:=λσ H Q=>t σ H λx H'=>∃k,x=.bl k/\Q k H'
def zse(D:OpR X (compareOp op) r)(L:PE X a ta)(S:PE X b tb)(U:behindInMarks op b=false):PT X (.Compare a [op] [b] pos) (zvf (tOp r ta tb)):=by
 intro pins s σ H Q I h;refine wpAny_isTrue_Compare1 (thn (L pins s σ H _ I h) λv s1 ⟨x,H1,I1,r1,q1⟩=>thn (S pins s1 σ H1 _ I1 q1) λu s2 ⟨y,H2,I2,r2,q2⟩ =>
  thn (D pins s2 σ H2 x y v u _ I2 r1 r2 q2) λc s3 ⟨z,H3,I3,r3,k,e,q3⟩=>?_) U
 subst e;cases r3;exact wpAny_truthy_bool ⟨H3,I3,q3⟩
def qu:(sizeLine:Nat)<2 ^ 63:=by rw[sizeLine_eq];decide
def qo{x:V}(r:Vals [x] us):∃u,us=[u]/\RelV x u:=by
 cases r with
 |cons r1 r2=>cases r2;exact⟨_,rfl,r1⟩
def x0{x y:V}(r:Vals [x,y] us):∃u z,us=[u,z]/\RelV x u/\RelV y z:=by
 cases r with
 |cons r1 r2 =>
   cases r2 with
   |cons r3 r4=>cases r4;exact⟨_,_,rfl,r1,r3⟩
def znj(D:X.calm=true):l9 X (.builtin "min") (λxs H Q=>∃i j,xs=[.int i,.int j]/\Q (.int (if j<i then j else i)) H):=by
 intro pins s σ H xs us Q I r h;obtain⟨i,j,rfl,q⟩:=h;obtain⟨u,L,rfl,⟨t,rfl⟩,⟨t',rfl⟩⟩:=x0 r;refine min_two_ints (I.ok.hd D) λh' tk k=>⟨_,H,I.kept k,?_,q⟩;by_cases z:j<i
 ·rw[if_pos z,if_pos z];exact⟨_,rfl⟩
 ·rw[if_neg z,if_neg z];exact⟨_,rfl⟩
structure ObjM (h:Heap) (x dx C:Addr) (mA:Str->b5):Prop where
 obj:h.get? x=↑(PySem.W.instObj C dx)
 ns:h.Ns1 dx mA
 ne:dx≠x
variable{dx:Addr}{mA:Str->b5}
def znk(n:h.Ns1 dx mA):∃od,h.get? dx=↑od/\∀name,PySem.W.lookIn name od=↑(mA name):=by
 obtain⟨o,es,Y,I,hd,L,_,S⟩:=n;refine⟨o,I,λname=>?_⟩;have e:=S name;unfold nsFind findBy at e;rw[<-Array.find?_toList] at e;unfold PySem.W.lookIn;rw[hd];dsimp only;split
 ·rename_i y q
  rw[q] at e;exact congrArg some e
 ·rename_i q
  rw[q] at e;have a:es.toList.any (·.refKey)=false:=by
   rw[List.any_eq_false];intro y U;obtain⟨z,t,D⟩:=L y (Array.mem_toList_iff.mp U);simp[DictEntry.refKey,D]
  have V:¬es.toList.any (·.refKey)=true:=by rw[a];exact bv
  rw[if_neg V];exact congrArg some e
def ObjM.look{x:Addr}(I:ObjM h x dx C mA):∃od,PySem.W.InstAt h x (PySem.W.instObj C dx) C ↑od/\∀name,PySem.W.lookIn name od=↑(mA name) :=
 let ⟨od,z,D⟩:=znk I.ns
 ⟨od,⟨I.obj,rfl,rfl,z⟩,D⟩
variable{a:Addr}{fs:List (Str×V)}
def zsg(D:HOk P w H h)(e:H a=↑(.ins C dx fs)):∃mA,ObjM h a dx C mA/\(∀f,RelO (fs.lookup f) (mA f))/\PySem.Within mA (fs.map (·.1))/\fs.length<=1000/\H dx=↑(.own a):=by
 obtain⟨d,z,I,L,mA,n,r,q⟩:=(show ObjOk P w H h a (.ins C dx fs) from D a _ e);exact⟨mA,⟨L,n,I⟩,r,q,z,d⟩
structure Cls (K:eb) (C:Addr):Prop where
 pg:PySem.W.plainGet K C Str.empty=true
 hd:PySem.W.hasDictIn K C=true
 po:PySem.W.plainOver K C=true
 sa:PySem.W.findIn K (.ref C) "__setattr__" = ↑↑(.builtin "object.__setattr__")
def Cls.get(c:Cls K C)(f:Str):PySem.W.plainGet K C f=true:=c.pg
structure Con (K:eb) (C:Addr) (f:Str) (v:V) (u:Value):Prop where
 at_:PySem.W.findIn K (.ref C) f=↑↑u
 rel:RelV v u
 get:PySem.W.specialIn K u "__get__" = ↑none
 cp:PySem.W.copiedNames.contains f=false
structure Meth (K:eb) (C:Addr) (m:Str) (f:Addr):Prop where
 at_:PySem.W.findIn K (.ref C) m=↑↑(.ref f)
 fn:PySem.W.isFn K (.ref f)=true
 kp:PySem.W.keepIn K (.ref f)=true
inductive TyOf (K:eb) (H:Hp):V->Value->Prop where
 |non:TyOf K H .non (.type "NoneType")
 |bl (x:Bool):TyOf K H (.bl x) (.type "bool")
 |int (i:Int):TyOf K H (.int i) (.type "int")
 |str (x:Str):TyOf K H (.str x) (.type "str")
 |flt (x:UInt64):TyOf K H (.flt x) (.type "float")
 |lst {a:Addr} {xs:el} (e:H a=↑(.lst xs)):TyOf K H (.ref a) (.type "list")
 |frz {a:Addr} {o:Obj} {xs:el} (e:H a=↑(.frz o (.lst xs))):TyOf K H (.ref a) (.type "list")
 |tup {a:Addr} {xs:el} (e:H a=↑(.tup xs)):TyOf K H (.ref a) (.type "tuple")
 |dK {a:Addr} {kvs:List (Key×V)} (e:H a=↑(.dK kvs)):TyOf K H (.ref a) (.type "dict")
 |dT {a:Addr} {kvs:List (List Key×V)} (e:H a=↑(.dT kvs)):TyOf K H (.ref a) (.type "dict")
 |ins {a C dx:Addr} {fs:List (Str×V)} (e:H a=↑(.ins C dx fs)) (cl:Cls K C) (ha:PySem.W.findIn K (.ref C) "__class__" = ↑↑(.builtin "object.__class__"))
    (hn:PySem.W.specialIn K (.builtin "object.__class__") "__get__" = ↑↑(.builtin "getset_descriptor.__get__")) (htk:PySem.W.takesIn K (.builtin "object.__class__")=↑true)
    (hm:PySem.W.mroIn K C (.type "object")=↑true):TyOf K H (.ref a) (.ref C)
variable{b:Bool}{c:Value}
def znl{x:V}{t:Value}(I:Inv X pins σ H s)(D:RelV x u)(L:TyOf X.K H x t)(e:PySem.W.kitOne X.K t c=↑b)(h:∀tk,Q (.bool b) { s with toks:=tk }) :
  wpAny (model X.prog X.w) A (call (.builtin "isinstance") [u,c]) Q E s:=by
 cases L with
 |non=>cases (show u=Value.none from D);exact di PySem.W.kitx_none I.kIn True.intro e (λz=>nomatch z) h
 |bl y=>cases (show u=Value.bool y from D);exact di PySem.W.kitx_bool I.kIn True.intro e (λz=>nomatch z) h
 |int i=>obtain⟨t,q⟩:=(show ∃t,u=Value.int i t from D);cases q;exact di PySem.W.kitx_int I.kIn True.intro e (λz=>nomatch z) h
 |str y=>obtain⟨t,q⟩:=(show ∃t,u=Value.str y t from D);cases q;exact di PySem.W.kitx_str I.kIn True.intro e (λz=>nomatch z) h
 |flt y=>obtain⟨t,q⟩:=(show ∃t,u=Value.float y t from D);cases q;exact di PySem.W.kitx_float I.kIn True.intro e (λz=>nomatch z) h
 | @lst a xs ea =>
   cases (show u=Value.ref a from D);obtain⟨_,_,n,_,h1⟩:=(show ObjOk X.prog X.w H s.heap a (.lst xs) from I.hok a _ ea);exact di k4 I.kIn ⟨_,h1,rfl⟩ e (λz=>nomatch z) h
 | @frz a ob xs ea =>
   cases (show u=Value.ref a from D);obtain⟨_,_,_,n,_,h1⟩:=(show ObjOk X.prog X.w H s.heap a (.frz ob (.lst xs)) from I.hok a _ ea);exact di k4 I.kIn ⟨_,h1,rfl⟩ e (λz=>nomatch z) h
 | @tup a xs ea =>
   cases (show u=Value.ref a from D);obtain⟨_,_,_,p⟩:=(show ObjOk X.prog X.w H s.heap a (.tup xs) from I.hok a _ ea);obtain⟨o,h1,h2,_⟩:=p;exact di PySem.W.kitx_tuple I.kIn ⟨o,h1,h2⟩ e (λz=>nomatch z) h
 | @dK a kvs ea =>
   cases (show u=Value.ref a from D);obtain⟨_,_,vs,_,p⟩:=(show ObjOk X.prog X.w H s.heap a (.dK kvs) from I.hok a _ ea);obtain⟨o,es,S,h1,h2,_⟩:=p;exact di PySem.W.kitx_dict I.kIn ⟨o,h1,h2.1⟩ e (λz=>nomatch z) h
 | @dT a kvs ea =>
   cases (show u=Value.ref a from D);obtain⟨_,_,xs,_,o,es,S,h1,h2,_⟩:=(show ObjOk X.prog X.w H s.heap a (.dT kvs) from I.hok a _ ea);exact di PySem.W.kitx_dict I.kIn ⟨o,h1,h2.1⟩ e (λz=>nomatch z) h
 | @ins a C dx fs ea cl ha hn htk hm =>
   cases (show u=Value.ref a from D);obtain⟨mA,O,_⟩:=zsg I.hok ea;obtain⟨od,J,_⟩:=O.look;exact di (PySem.W.kitx_own (cl.get _) cl.hd ha hn htk hm) I.kIn J e (λz=>nomatch z) h
structure Room (k:Nat) (A:Around):Prop where
 hd:A.handled=none
 dp:A.depth+3*k+5<recursionLimit
 un:A.units+16*k+200<cLine
def Room.mono{j:Nat}(r:Room k A)(h:j<=k):Room j A:=⟨r.hd,by have:=r.dp;omega,by have:=r.un;omega⟩
def Room.deeper(r:Room (k+1) A)(env:Env):Room k (A.deeper env) :=
 ⟨r.hd,by have:=r.dp;show A.depth+1+3*k+5<_;omega,by have:=r.un;show A.units+3+16*k+200<_;omega⟩
def Room.depth(r:Room k A):A.depth<recursionLimit:=by have:=r.dp;omega
def tNil:TA:=λ_ H Q=>Q [] H
def xz(ta:TE)(z:TA):TA:=λσ H Q=>ta σ H λx H1=>z σ H1 λxs H2=>Q (x::xs) H2
def mj:PA X [] tNil:=λ_ _ _ _ H Q I h=>Calls.spliced_nil ⟨[],H,I,.nil,h⟩
def ln(z:PE X e te)(D:PA X es t)(L:starEach (e::es) X.env=(false,eval e X.env)::starEach es X.env:=by rfl):PA X (e::es) (xz te t):=by
 intro pos pins s σ H Q I h;rw[L];show wpAny _ _ (spliced ((false,eval e X.env)::backTo pos (starEach es X.env))) _ _ s;refine Calls.spliced_cons (thn (z pins s σ H _ I h) λu S U=>?_);obtain⟨x,H1,V,Y,Z⟩:=U;exact thn (D pos pins S σ H1 _ V Z) λus s2 ⟨xs,H2,I2,r2,q2⟩=>⟨x::xs,H2,I2,.cons Y r2,q2⟩
def tTup(t:TA):TE:=λσ H Q=>t σ H λxs H1=>xs.length<=sizeLine/\∀p,H1 p=none->Q (.ref p) (upd H1 p (.tup xs))
def tLst(t:TA):TE:=λσ H Q=>t σ H λxs H1=>xs.length<=sizeLine/\∀p,H1 p=none->Q (.ref p) (upd H1 p (.lst xs))
def zvg{x1}(h:PA X es t):PE X (.Tuple es x1 pos) (tTup t):=by
 intro pins s σ H Q I S;refine wpAny_Tuple_spliced (thn (h pos pins s σ H _ I S) λus D U=>?_);obtain⟨xs,H1,L,r,z,q⟩:=U;refine⟨by rw[<-r.length];exact z,?_⟩;have V:H1 D.heap.objs.size=none:=L.hok.fresh (bg _);refine⟨.ref D.heap.objs.size,upd H1 D.heap.objs.size (.tup xs),L.laid (t':=D.toks) (λb u e=>bc _ e) (bg _) ?_,rfl,q _ V⟩;exact⟨z,us,r,⟨_,cf _ rfl,rfl,_,rfl⟩⟩
def zvh(h:PA X es t):PE X (.List es pos) (tLst t):=by
 intro pins s σ H Q I S;refine wpAny_List_spliced (thn (h pos pins s σ H _ I S) λus D U=>?_);obtain⟨xs,H1,L,r,z,q⟩:=U;refine⟨by rw[<-r.length];exact z,?_⟩;have V:H1 D.heap.objs.size=none:=L.hok.fresh (bg _);refine⟨.ref D.heap.objs.size,upd H1 D.heap.objs.size (.lst xs),L.laid (t':=D.toks) (λb u e=>bc _ e) (bg _) ?_,rfl,q _ V⟩;exact⟨z,us,0,r,cf _ rfl⟩
abbrev Sp:=el->Hp->VK->XK->Prop
abbrev CXT:=cm->Hp->Shared->XK->Value->Shared->Prop
structure Env0 (P:Program) (w:World) (K:eb) (mg:Str->b5) (base:Heap) (A:Around) (outer:cm) (s:Shared) (H:Hp):Prop where
 frames:A.frames=↑outer
 mod:Mod K mg base
 bs:∀b o,base.get? b=↑o->s.heap.get? b=↑o/\H b=none
 bsz:base.objs.size<=s.heap.objs.size
 funs:s.heap.FunFrames base outer
 frf:∀b∈frs outer,H b=none
 hok:HOk P w H s.heap
 bare:AllBare s.gens
def CE(outer:cm)(P:Program)(w:World)(H:Hp)(s:Shared)(Q:VK)(u:Value)(s':Shared):Prop :=
 ∃v H',s'.os=s.os/\AllBare s'.gens/\Un (frs outer) [] H H' s.heap s'.heap/\HOk P w H' s'.heap/\RelV v u/\Q v H'
def CR(CX:CXT)(outer:cm)(P:Program)(w:World)(H:Hp)(s:Shared)(Q:VK)(E:XK)(r:Result)(s':Shared):Prop :=
 match r with
 | .ok (.ret u)=>CE outer P w H s Q u s' | .ok _=>False | .error e=>CX outer H s E e s'
structure FnOk (P:Program) (w:World) (K:eb) (mg:Str->b5) (base:Heap) (CX:CXT) (k:Nat) (f:Addr) (fd:FuncData) (ps:b2) (sp:Sp):Prop where
 len:∀vs H Q E,sp vs H Q E->vs.length=ps.length
 run:∀(A:Around) (outer:cm) (s:Shared) (H:Hp) (args:Args) (us:b4) (vs:el) (Q:VK) (E:XK),Room k A->Env0 P w K mg base A outer s H->BindsTo s fd args (ps.zip us)->Vals vs us->sp vs H Q E ->
  codeAny (model P w) A (.call (.ref f) args) (CR CX outer P w H s Q E) s
theorem FnOk.mono{P:Program}{w:World}{K:eb}{mg:Str->b5}{base:Heap}{CX:CXT}{j k:Nat}{f:Addr}{fd:FuncData}{ps:b2}{sp:Sp}(F:FnOk P w K mg base CX j f fd ps sp)(h:j<=k) :
  FnOk P w K mg base CX k f fd ps sp:=⟨F.len,λA outer s H args us vs Q E z=>F.run A outer s H args us vs Q E (z.mono h)⟩
variable{mg:Str->b5}{base:Heap}{CX:CXT}{fd:FuncData}{ps:b2}{sp:Sp}
theorem FnOk.imp{z:Sp}(F:FnOk P w K mg base CX k f fd ps sp)(h:∀vs H Q E,z vs H Q E->sp vs H Q E):FnOk P w K mg base CX k f fd ps z :=
 ⟨λvs H Q E q=>F.len vs H Q E (h _ _ _ _ q),λA outer s H args us vs Q E D I L S U=>F.run A outer s H args us vs Q E D I L S (h _ _ _ _ U)⟩
protected def Inv.env0(I:Inv X pins σ H s):Env0 X.prog X.w X.K X.mg X.base X.A X.stack s H :=
 ⟨I.ok.frames,I.ok.mod,I.bs,bi I.ok.bsz I.sz,I.stack,I.stkFree,I.hok,I.bare⟩
variable{Q:VK}
def Inv.after(I:Inv X pins σ H s)(h:CE X.stack X.prog X.w H s Q u s'):EP X pins σ Q u s':=by
 obtain⟨v,H',os,D,un,L,r,q⟩:=h;obtain⟨U,g,d,t,S⟩:=s';obtain rfl:S=s.os:=os;exact⟨v,H',I.call (h':=U) (g':=g) (d':=d) (t':=t) (ch:=[]) un L D (λb z=>absurd z (by simp)),r,q⟩
def uv(sp:Sp)(dvs:el)(E:XK)(t:TA):TE:=λσ H Q=>t σ H λvs H1=>sp (vs++dvs) H1 Q E
def Binds(K:eb)(fd:FuncData)(ps:b2)(ds:b4):Prop :=
 ∀(s:Shared) (us:b4),K.In s.heap->(us++ds).length=ps.length->BindsTo s fd ⟨us,[]⟩ (ps.zip (us++ds))
def Binds.all(h:∀us:b4,us.length=ps.length->bindArgs fd ⟨us,[]⟩=pure (ps.zip us)):Binds K fd ps []:=λs us _ z=>by
 rw[ce] at z ⊢;exact .of_eq (h us z)
def yn(CX:CXT)(X:Cx)(E:XK):Prop:=∀(pins:ed) (σ:St) (H:Hp) (s:Shared) (e:Value) (s':Shared),Inv X pins σ H s->CX X.stack H s E e s'->X.xe e s'
variable{E:XK}{dvs:el}{ds:b4}
theorem zvi(F:FnOk X.prog X.w X.K X.mg X.base CX k f fd ps sp)(L:Room k X.A)(S:Binds X.K fd ps ds)(hd:Vals dvs ds)(U:yn CX X E)(I:Inv X pins σ H s)(r:Vals vs us)(h:sp (vs++dvs) H Q E):wpAny (model X.prog X.w) X.A (call (.ref f) us) (EP X pins σ Q) X.xe s:=by
 have D:Vals (vs++dvs) (us++ds):=r.append hd;have V:(us++ds).length=ps.length:=by rw[<-D.length];exact F.len _ _ _ _ h
 refine wpAny_call (codeAny_mono (F.run X.A X.stack s H ⟨us,[]⟩ (us++ds) (vs++dvs) Q E L I.env0 (S s us I.kIn V) D h) λr s' z=>?_);cases r with
 |error e=>exact U pins σ H s e s' I z |ok fl =>
   cases fl with
   |ret u=>exact I.after z |next=>exact False.elim z |brk=>exact False.elim z |cont=>exact False.elim z
def y7(F:FnOk X.prog X.w X.K X.mg X.base CX k f fd ps sp)(S:Room k X.A)(U:Gl X x)(V:X.mg x=↑(.ref f))(Y:PySem.W.keepIn X.K (.ref f)=true)(Z:Binds X.K fd ps ds)(hd:Vals dvs ds)(a:yn CX X E)(b:PA X (e::es) t)(z:(x==("__debug__" : Str))=false:=by decide)(c:starEach (e::es) X.env=(false,eval e X.env)::starEach es X.env:=by rfl)(D:(backTo pos (starEach es X.env)).any (·.1)=false:=by rfl) :
  PE X (.Call (.Name x p) (e::es) [] pos) (uv sp dvs E t):=by
 intro pins s σ H Q I h;refine wpAny_Call_Name_kw (zna I U V ?_ z);refine PySem.W.callWith_K (h₀:=X.base) I.ok.mod.kin Y (thn (b pos pins s σ H _ I h) λus g d=>?_) c D;obtain⟨vs,H1,L,r,q⟩:=d;refine⟨L.kIn,?_⟩;exact zvi F S Z hd a L r q
structure Mk (K:eb) (C f:Addr):Prop where
 makes:PySem.W.makesIn K C=true
 init:PySem.W.findIn K (.ref C) "__init__" = ↑↑(.ref f)
 fn:PySem.W.isFn K (.ref f)=true
 kp:PySem.W.keepIn K (.ref C)=true
def PK(X:Cx)(kws:List Keyword)(t:TA):Prop :=
 ∀(pos:Pos) (pins:ed) (s:Shared) (σ:St) (H:Hp) (Q:el->Hp->Prop),Inv X pins σ H s->t σ H Q->wpAny (model X.prog X.w) X.A (evalAll ((backToKw pos (keywordEach kws X.env)).map (·.2))) (AP X pins σ Q) X.xe s
section
variable {X:Cx} {CX:CXT} {k:Nat} {f C:Addr} {fd:FuncData} {ps ks:b2} {sp:Sp} {E:XK} {x m:Str} {p pos apos kpos:Pos} {e o:Expr} {es:da} {kws:List Keyword} {te ta:TE} {t tk:TA} {nm:dc}
def zvj:PK X [] tNil:=λ_ _ _ _ H Q I h=>wpAny_evalAll_nil ⟨[],H,I,.nil,h⟩
def zsi(z:PE X e te)(D:PK X kws t):PK X (⟨nm,e,kpos⟩::kws) (xz te t):=by
 intro pos pins s σ H Q I h;show wpAny _ _ (evalAll ((do let v <-eval e X.env;standAt pos;pure v)::(backToKw pos (keywordEach kws X.env)).map (·.2))) _ _ s;refine wpAny_evalAll_cons (wpAny_bind (thn (z pins s σ H _ I h) λu L S=>?_));obtain⟨x,H1,U,V,Y⟩:=S;refine wpAny_bind (wpAny_standAt (wpAny_pure ?_));exact thn (D pos pins L σ H1 _ U Y) λus s2 ⟨xs,H2,I2,r2,q2⟩=>⟨x::xs,H2,I2,.cons V r2,q2⟩
structure zyw (K:eb) (fd:FuncData) (ps ks:b2) (g:b4->b4->b4) (gV:el->el->el):Prop where
 to:∀(s:Shared) (us ws:b4),K.In s.heap->(g us ws).length=ps.length->BindsTo s fd ⟨us,ks.zip ws⟩ (ps.zip (g us ws))
 rel:∀ {vs:el} {us:b4} {zs:el} {ws:b4},Vals vs us->Vals zs ws->Vals (gV vs zs) (g us ws)
variable {g:b4->b4->b4} {gV:el->el->el}
end
structure o0 (N P:b2) (sc:Scope):Prop where
 kind:sc.kind=.function
 co:sc.isCoroutine=false
 gen:sc.isGenerator=false
 nd:N.Nodup
 pre:N.take P.length=P
 par:∀x∈P,sc.names.lookup x=some .local\/sc.names.lookup x=some .cell
 nofree:∀y∈sc.names,y.2≠.free
def zi0{kindOf:Str->Option NameKind}{x:Str}:∀ {z:List (Str×Value)} {m:Str->b5},(∀v,(x,v)∉z)->bindL kindOf z m x=m x
 | [],_,_=>rfl | (n,v)::r,m,h=>by
   unfold bindL;rw[zi0 λw D=>h w (ai _ D)];split
   ·have:x≠n:=by rintro rfl;exact h v au
    simp[this]
   ·rfl
def zi1{kindOf:Str->Option NameKind}{x:Str}:∀ {z:List (Str×Value)} {m:Str->b5},(∀v,(x,v)∉z)->bindC kindOf z m x=m x
 | [],_,_=>rfl | (n,v)::r,m,h=>by
   unfold bindC;rw[zi1 λw D=>h w (ai _ D)];split
   ·rfl
   ·have:x≠n:=by rintro rfl;exact h v au
    simp[this]
def zi2{kindOf:Str->Option NameKind}{x:Str}{v:Value}:∀ {P:b2} {vs:b4} {i:Nat} {m:Str->b5},P.Nodup->P[i]?=↑x->vs[i]?=↑v->kindOf x=some .local ->
  bindL kindOf (P.zip vs) m x=↑v
 | [],_,_,_,_,h,_,_=>by simp at h |_::_,[],_,_,_,_,h,_=>by simp at h |p::P,w::vs,0,m,nd,h1,h2,hk=>by
   simp at h1 h2;subst h1;subst h2;show bindL kindOf ((p,w)::P.zip vs) m p=_;unfold bindL;rw[zi0 λv z=>(ee.mp nd).1 (ir z).1,if_pos hk];simp
 |p::P,w::vs,i+1,m,nd,h1,h2,hk=>by
   show bindL kindOf ((p,w)::P.zip vs) m x=_;unfold bindL;exact zi2 (i:=i) (ee.mp nd).2 (by simpa using h1) (by simpa using h2) hk
def zi3{kindOf:Str->Option NameKind}{x:Str}{v:Value}:∀ {P:b2} {vs:b4} {i:Nat} {m:Str->b5},P.Nodup->P[i]?=↑x->vs[i]?=↑v->kindOf x≠some .local ->
  bindC kindOf (P.zip vs) m x=↑v
 | [],_,_,_,_,h,_,_=>by simp at h |_::_,[],_,_,_,_,h,_=>by simp at h |p::P,w::vs,0,m,nd,h1,h2,hk=>by
   simp at h1 h2;subst h1;subst h2;show bindC kindOf ((p,w)::P.zip vs) m p=_;unfold bindC;rw[zi1 λv z=>(ee.mp nd).1 (ir z).1,if_neg hk];simp
 |p::P,w::vs,i+1,m,nd,h1,h2,hk=>by
   show bindC kindOf ((p,w)::P.zip vs) m x=_;unfold bindC;exact zi3 (i:=i) (ee.mp nd).2 (by simpa using h1) (by simpa using h2) hk
def start(N:b2)(vs:el):St:=vs.map some++List.replicate (N.length-vs.length) none
def cxOf(CX:CXT)(P:Program)(w:World)(K:eb)(mg:Str->b5)(base:Heap)(N:b2)(qual:Str)(scope:Scope)(f:Addr)(D:Value)(A:Around)(outer:cm)(s:Shared)(H:Hp)(E:XK):Cx where
 prog:=P
 w:=w
 K:=K
 mg:=mg
 base:=base
 A:=A.deeper (envOfC qual scope s.heap.objs.size f D)
 N:=N
 s₀:=s
 H₀:=H
 env:=envOfC qual scope s.heap.objs.size f D
 outer:=outer
 stack:=envOfC qual scope s.heap.objs.size f D::outer
 ex:=[]
 calm:=true
 fn:=λ_=>true
 pn:=[]
 xe:=λe s'=>wpAny (model P w) (A.deeper (envOfC qual scope s.heap.objs.size f D)) (leaving (envOfC qual scope s.heap.objs.size f D) e) (λ_ z=>CX outer H s E e z) (λe' z=>CX outer H s E e' z) s'
def zk6{sc:Scope}(h:sc.names.lookup x=some .cell):∃c,(cellsFrom n sc.names []).lookup x=↑c:=by
 have q:=PySem.W.cellsFrom_some sc.names n [] (.inl h);exact rq.mp q
variable{qual:Str}{scope:Scope}
def znn{V:Value}{outer:cm}{Y:Shared}(S:o0 N ps scope)(hd:A.handled=none)(D:Env0 P w K mg base A outer s H)(m:vs.length=ps.length)(r:Vals vs us)(x:InCallC s s.heap.objs.size (bindL (envOfC qual scope s.heap.objs.size f V).kindOf (ps.zip us) λ_=>none) (cellsFrom (s.heap.objs.size+1) scope.names []) (bindC (envOfC qual scope s.heap.objs.size f V).kindOf (ps.zip us) λ_=>none) Y) :
  Inv (cxOf CX P w K mg base N qual scope f V A outer s H E) [] (start N vs) H Y:=by
 have g:ps.length<=N.length:=by have:=congrArg List.length S.pre;rw[dq] at this;omega
 obtain⟨h1,tk,rfl,Z⟩:=x.done;have I:∀b:Addr,b∉(cxOf CX P w K mg base N qual scope f V A outer s H E).ex:=λb z=>absurd (show b∈([]:cc) from z) (by simp);refine⟨⟨D.mod,S.kind,rfl,rfl,bg _,λy z c h1 h2=>?_,λy hy=>?_,λy c _ h=>?_,λ_=>hd,Around.frames_deeper D.frames,.inr ⟨rfl,rfl⟩,λb z=>absurd z (I b),D.bs,D.bsz,λb _ _=>I b,λb z=>absurd z (I b),D.funs,D.frf⟩,
  rfl,D.bare,Un.kept Z,⟨_,x.toInCall.ns,λi y v h1 h2 o=>?_⟩,λy c h=>⟨_,x.cell y c h⟩,D.hok.fresh (bg _),λy c h=>?_,λp L=>absurd (show p∈([]:ed) from L) (by simp),D.hok.kept Z,?_⟩
 ·exact name_of_addr x.apart (dh h1) (dh h2)
 ·have hy:scope.names.lookup y=some .cell\/scope.names.lookup y=some .free:=hy
  rcases hy with hy |hy
  ·exact zk6 hy
  ·exact absurd rfl (S.nofree _ (dh hy))
 ·exact k9 (x.above y c (dh h))
 ·have hi:i<vs.length:=by
   unfold start at h2;by_cases hi:i<vs.length
   ·exact hi
   ·rw[d6 (by simpa using hi)] at h2
    rw[ui] at h2;split at h2 <;> cases h2
  have j:vs[i]?=↑v:=by
   unfold start at h2;rw[b9 (by simpa using hi),bu] at h2;cases e:vs[i]? with
   |none=>rw[e] at h2;cases h2
   |some a=>rw[e] at h2;cases h2;rfl
  obtain⟨u,d,l⟩:=r.get j;have L:ps[i]?=↑y:=by
   rw[<-S.pre,List.getElem?_take_of_lt (by omega)];exact h1
  have U:ps.Nodup:=by rw[<-S.pre];exact S.nd.sublist (List.take_sublist _ _)
  refine⟨u,l,?_⟩;rcases S.par y (bn L) with k |k
  ·exact .inl ⟨k,zi2 U L d k⟩
  ·obtain⟨c,e⟩:=zk6 (n:=s.heap.objs.size+1) k
   refine .inr ⟨.inl k,c,e,?_⟩;have q:=x.cell y c e;rw[zi3 U L d (by show scope.names.lookup y≠_;rw[k];decide)] at q;exact q
 ·exact D.hok.fresh (k9 (x.above y c (dh h)))
 ·unfold start
  show _=N.length;rw[aj,ac,fq];omega
def zvk{name:Str}{z:Arguments}{l kV Z m cdv ct oc:Value}{an od:Option Addr}{osl:Array b5}(C:K.lookup f=↑⟨oc,od,.func (PySem.W.fnOf name qual z body scope l kV Z m an cdv ct),osl⟩)(g:PySem.W.codeIn K cdv qual=true)(S:o0 N ps scope)(len:∀vs H Q E,sp vs H Q E->vs.length=ps.length)(L:∀(A:Around) (outer:cm) (s:Shared) (H:Hp) (vs:el) (Q:VK) (E:XK),Room k (A.deeper (envOfC qual scope s.heap.objs.size f cdv))->sp vs H Q E ->
   ∃t,PSs (cxOf CX P w K mg base N qual scope f cdv A outer s H E) body t/\t { nx:=λ_ H'=>Q .non H',rt:=Q } (start N vs) H) :
  FnOk P w K mg base CX (k+1) f (PySem.W.fnOf name qual z body scope l kV Z m an cdv ct) ps sp:=by
 refine⟨len,λA outer s H args us vs Q E h a F r c=>?_⟩;have G:=len _ _ _ _ c;have p:K.In s.heap:=a.mod.kin.keeps λb o e=>(a.bs b o e).1;have i:s.heap.NoLimit:=a.mod.nolimit.keeps λb o e=>(a.bs b o e).1;have U:∀y∈ps.zip us,scope.names.lookup y.1=some .local\/(scope.names.lookup y.1=some .cell/\((cellsFrom (s.heap.objs.size+1) scope.names []).lookup y.1).isSome=true):=λ⟨n,v⟩ hy=>by
  rcases S.par n (ir hy).1 with q |q
  ·exact .inl q
  ·exact .inr ⟨q,PySem.W.cellsFrom_some _ _ _ (.inl q)⟩
 refine codeAny_call_function h.depth (p _ _ C) rfl S.co S.gen rfl (PySem.W.codeRec_of p g) (F _ _ _ _ ?_);refine wpAny_newFunctionEnv_cells S.kind U λenv M B x=>?_;subst M;refine⟨i.keeps x.toInCall.keep,codeAny_func ?_⟩;obtain⟨t,O,R⟩:=L A outer s H vs Q E (h.deeper _) c;have I:Inv (cxOf CX P w K mg base N qual scope f cdv A outer s H E) [] (start N vs) H B:=znn S h.hd a G r x;refine wpAny_mono (O [] B (start N vs) H _ I R) (λfl s' Y=>?_) λe s' Y=>Y;have d:∀ {D:St} {H':Hp} {v:V} {u:Value},Inv (cxOf CX P w K mg base N qual scope f cdv A outer s H E) [] D H' s'->RelV v u->Q v H'->CE outer P w H s Q u s' :=
  λ{D H' v u} J j q=>⟨v,H',J.os,J.bare,J.base,J.hok,j,q⟩
 cases fl with
 |ret u =>
   obtain⟨v,D,H',J,j,q⟩:=Y;exact d J j q
 |next =>
   obtain⟨D,H',J,q⟩:=Y;exact d (v:=V.non) (u:=Value.none) J rfl q
 |brk =>
   obtain⟨_,_,_,q⟩:=Y;exact False.elim q
 |cont =>
   obtain⟨_,_,_,q⟩:=Y;exact False.elim q
def tCB(r:el->Hp->VK->Prop)(t:TA):TE:=λσ H Q=>t σ H λvs H1=>r vs H1 Q
variable{r:el->Hp->VK->Prop}{id:String}
def vo(L:l9 X (.builtin id) r)(S:Gl X x)(U:X.mg x=none)(V:bootBuiltins x=↑(.builtin id))(Y:PA X (e::es) t)(Z:x ≠ "__name__":=by decide)(z:(x==("__debug__" : Str))=false:=by decide)(a:starEach (e::es) X.env=(false,eval e X.env)::starEach es X.env:=by rfl)(D:(backTo pos (starEach es X.env)).any (·.1)=false:=by rfl):PE X (.Call (.Name x p) (e::es) [] pos) (tCB r t):=by
 intro pins s σ H Q I h;refine wpAny_Call_Name_kw (np I S U V ?_ Z z);exact PyProof.Rows.callWith_builtin1 (thn (Y pos pins s σ H _ I h) λus s1 ⟨vs,H1,I1,r1,q1⟩=>L pins s1 σ H1 vs us Q I1 r1 q1) a D
variable{T:String}
def zo(L:l9 X (.type T) r)(S:Gl X x)(U:X.mg x=none)(V:bootBuiltins x=↑(.type T))(Y:PA X (e::es) t)(Z:x ≠ "__name__":=by decide)(z:(x==("__debug__" : Str))=false:=by decide)(a:starEach (e::es) X.env=(false,eval e X.env)::starEach es X.env:=by rfl)(D:(backTo pos (starEach es X.env)).any (·.1)=false:=by rfl):PE X (.Call (.Name x p) (e::es) [] pos) (tCB r t):=by
 intro pins s σ H Q I h;refine wpAny_Call_Name_kw (np I S U V ?_ Z z);exact d5 (thn (Y pos pins s σ H _ I h) λus s1 ⟨vs,H1,I1,r1,q1⟩=>L pins s1 σ H1 vs us Q I1 r1 q1) a D
end L2
namespace HT
open PySem PyProof.Rows
section
open PySem.SeqAt
open PySem.AutoSeq1 (wpAny_loadPart')
open PySem.MeetsSeq PySem.MeetsSeq2 PySem.MeetsSeq3
end
def sIx(n d:Nat):dt->Nat
 |none=>d |some v=>if v<0 then(v+(n:Int)).toNat else min v.toNat n
def sIx_none(n d:Nat):sIx n d none=d:=rfl
def sIx_nat(n d k:Nat):sIx n d ↑(k:Int)=min k n:=by
 show(if (k:Int)<0 then((k:Int)+(n:Int)).toNat else min (k:Int).toNat n)=min k n;rw[if_neg (by omega),fz]
end HT
namespace L2
open PySem PySem.Spec PyProof.Rows
abbrev TO:=St->Hp->(dt->Hp->Prop)->Prop
def PO(X:Cx)(e:Option Expr)(t:TO):Prop :=
 ∀(pins:ed) (s:Shared) (σ:St) (H:Hp) (Q:dt->Hp->Prop),Inv X pins σ H s->t σ H Q ->
  wpAny (model X.prog X.w) X.A (evalPart e X.env) (λu s'=>∃o H',Inv X pins σ H' s'/\IsPart u o/\Q o H') X.xe s
def zsj:TO:=λ_ H Q=>Q none H
def zxu(t:TE):TO:=λσ H Q=>t σ H λx H1=>∃i,x=.int i/\Q ↑i H1
def zt{ns:ci}:∀ {us:b4},Vals (ns.map V.int) us->IntsAre us ns:=by
 induction ns with
 |nil=>intro us r;rw[dm] at r;cases r;exact .nil
 |cons n ns ih =>
   intro us r;rw[bh] at r;cases r with
   |cons r1 r2 =>
     obtain⟨t,e⟩:=r1;subst e;exact .cons n t (ih r2)
variable{X:Cx}
def zsk:PO X none zsj:=by
 intro pins s σ H Q I h;rw[evalPart_none];exact wpAny_pure ⟨none,H,I,.none,h⟩
variable{e:Expr}{te:TE}
def zsl(h:PE X e te):PO X ↑e (zxu te):=by
 intro pins s σ H Q I z;rw[evalPart_some];refine thn (h pins s σ H _ I z) λu V D=>?_;obtain⟨x,H1,L,S,U⟩:=D;obtain⟨i,rfl,q⟩:=U;obtain⟨t,rfl⟩:=S;exact⟨↑i,H1,L,.int i t,q⟩
variable{lo hi:Option Expr}
def SlR(X:Cx)(r:V->dt->dt->Hp->VK->Prop):Prop :=
 ∀(pins:ed) (s:Shared) (σ:St) (H:Hp) (x:V) (v z D:Value) (lo hi:dt) (I:Addr) (Q:VK),Inv X pins σ H s->RelV x v->s.heap.IsSliceOf I z D .none->IsPart z lo->IsPart D hi->r x lo hi H Q ->
  ∃T id,typeLookup (.type T) "__getitem__" = pure ↑(.builtin id)/\s.TypeIs v T/\wpAny (model X.prog X.w) X.A (getItem v (.ref I)) (EP X pins σ Q) X.xe s
def tSl(r:V->dt->dt->Hp->VK->Prop)(te:TE)(tl th:TO):TE:=λσ H Q=>te σ H λx H1=>tl σ H1 λl H2=>th σ H2 λu z=>r x l u z Q
variable{r:R2}{tl th:TO}{pos p2:Pos}
def zpn{r:V->dt->dt->Hp->VK->Prop}(Y:SlR X r)(Z:PE X e te)(a:PO X lo tl)(c:PO X hi th):PE X (.Subscript e (.Slice lo hi none p2) pos) (tSl r te tl th):=by
 intro pins s σ H Q I h;refine Subscript_ (thn (Z pins s σ H _ I h) λv d D=>?_);obtain⟨x,H1,f,g,i⟩:=D;refine wpAny_Slice (thn (a pins d σ H1 _ f i) λL s2 D=>?_);obtain⟨l,H2,j,pl,k⟩:=D;refine thn (c pins s2 σ H2 _ j k) λS z D=>?_;obtain⟨u,U,m,n,o⟩:=D;rw[evalPart_none];refine wpAny_pure ?_;have p:Inv X pins σ U { z with heap:=z.heap.push { cls:=.type "slice",data:=.fields #[L,S,.none] } }:=m.kept (t':=z.toks) λb B q=>bc _ q;obtain⟨T,id,hT,t,y⟩:=Y pins { z with heap:=z.heap.push { cls:=.type "slice",data:=.fields #[L,S,.none] } } σ U x v L S l u z.heap.objs.size Q p g (Heap.IsSliceOf.new ..) pl n o;show wpAny (model X.prog X.w) X.A (subscriptTail e (.Slice lo hi none p2) v (.ref z.heap.objs.size)) (EP X pins σ Q) X.xe { z with heap:=z.heap.push { cls:=.type "slice",data:=.fields #[L,S,.none] } };exact tail_any (ops:=[.ref z.heap.objs.size,v]) t hT y (by with_unfolding_all rfl)
def cutV(xs:el)(lo hi:dt):el:=(xs.drop (HT.sIx xs.length 0 lo)).take (HT.sIx xs.length xs.length hi-HT.sIx xs.length 0 lo)
def zka(xs:el)(lo hi:dt):(cutV xs lo hi).length<=xs.length:=by
 unfold cutV;rw[dq,l8];omega
def ixN(n:Nat)(i:Int):Option Nat:=if 0<=i then(if i<n then ↑i.toNat else none) else if -(n:Int)<=i then ↑(i+n).toNat else none
variable{α:Type}
def atI(xs:List α)(i:Int):Option α:=(ixN xs.length i).bind λj=>xs[j]?
variable{n:Nat}{i:Int}
def y0{j:Nat}(h:ixN n i=↑j):seqIndex? i n=↑j/\j<n/\-(n:Int)<=i/\i<n:=by
 unfold ixN at h;by_cases z:0<=i
 ·rw[if_pos z] at h
  by_cases h1:i<n
  ·rw[if_pos h1] at h
   have e:i.toNat=j:=ay h;exact⟨by rw[seqIndex_of z h1,e],by omega,by omega,h1⟩
  ·rw[if_neg h1] at h;cases h
 ·rw[if_neg z] at h
  by_cases h1:-(n:Int)<=i
  ·rw[if_pos h1] at h
   have e:(i+n).toNat=j:=ay h;exact⟨by rw[seqIndex_neg (by omega) h1,e],by omega,h1,by omega⟩
  ·rw[if_neg h1] at h;cases h
def yz{xs:List α}{v:α}(h:atI xs i=↑v):∃j,seqIndex? i xs.length=↑j/\xs[j]?=↑v/\j<xs.length/\-(xs.length:Int)<=i/\i<xs.length:=by
 unfold atI at h;cases e:ixN xs.length i with
 |none=>rw[e] at h;cases h
 |some j =>
   rw[e] at h;obtain⟨h1,h2,z,D⟩:=y0 e;exact⟨j,h1,h,h2,z,D⟩
def zpo(xs:List α)(v:α):atI (xs++[v]) (-1)=↑v:=by
 have z:(xs++[v]).length=xs.length+1:=by simp
 have e:ixN (xs++[v]).length (-1)=↑xs.length:=by
  unfold ixN;rw[z,if_neg (by decide),if_pos (by omega)];congr 1;omega
 unfold atI;rw[e];show(xs++[v])[xs.length]?=↑v;simp
def tm(b:Expr):Prop:=∀o i,subscripted b false o i=operate [o,i] (getItem o i)
def IxR(X:Cx)(r:R2):Prop :=
 ∀(D z:Expr) (pins:ed) (s:Shared) (σ:St) (H:Hp) (x y:V) (v u:Value) (Q:VK),Inv X pins σ H s->RelV x v->RelV y u->r x y H Q ->
  subscripted z false v u=operate [v,u] (getItem v u)->wpAny (model X.prog X.w) X.A (subscriptTail D z v u) (EP X pins σ Q) X.xe s
def MtR(X:Cx)(id:String)(r:V->el->Hp->VK->Prop):Prop :=
 ∀(pins:ed) (s:Shared) (σ:St) (H:Hp) (x:V) (xs:el) (v:Value) (us:b4) (Q:VK),Inv X pins σ H s->RelV x v->Vals xs us->r x xs H Q ->
  wpAny (model X.prog X.w) X.A (call (.builtin id) (v::us)) (EP X pins σ Q) X.xe s
def IxR.or{L:R2}(h:IxR X r)(h':IxR X L):IxR X (λx y H Q=>r x y H Q\/L x y H Q):=by
 intro z D pins s σ H x y v u Q I S U q V;rcases q with q |q
 ·exact h z D pins s σ H x y v u Q I S U q V
 ·exact h' z D pins s σ H x y v u Q I S U q V
variable{a b:Expr}{ta tb:TE}
def xy(z:IxR X r)(D:PE X a ta)(L:PE X b tb)(S:tm b):PE X (.Subscript a b pos) (tOp r ta tb):=by
 intro pins s σ H Q I h;exact Subscript_ (binT D L I h λv u s2 x y H2 U V Y q=>z a b pins s2 σ H2 x y v u Q U V Y q (S _ _))
def rIxL(K:eb):R2:=λx y H Q=>∃p xs i v,x=.ref p/\y=.int i/\SqL K H p xs/\atI xs i=↑v/\Q v H
def rIxT(K:eb):R2:=λx y H Q=>∃p xs i v,x=.ref p/\y=.int i/\SqT K H p xs/\atI xs i=↑v/\Q v H
def rIxS:R2:=λx y H Q=>∃z i c,x=.str z/\y=.int i/\z.length<=sizeLine/\atI z.cps.toList i=↑c/\Q (.str ⟨#[c]⟩) H
def zsn:IxR X (rIxL X.K):=by
 intro L S pins s σ H x y v u Q I b c h Y;obtain⟨p,xs,i,z,rfl,rfl,d,e,q⟩:=h;cases b;obtain⟨t,rfl⟩:=c;obtain⟨its,r,pl,l⟩:=I.list d;obtain⟨j,h1,h2,m,f,g⟩:=yz e;obtain⟨w,Z,U⟩:=r.get h2;have k:=r.length;have n:=qu;have D:EP X pins σ Q w s:=⟨z,H,I,U,q⟩;by_cases a:0<=i
 ·have V:i.toNat=j:=by
   rw[seqIndex_of a g] at h1;exact ay h1
  exact item_listR pl.isList a (by omega) (by rw[V];simpa using Z) D Y
 ·have V:(i+(its.toArray.size:Int)).toNat=j:=by
   rw[seqIndex_neg (by omega) f] at h1;rw[a0,<-k];exact ay h1
  exact subscriptTail_builtinR (x:=w) pl.isList.typeIs slot_list_getitem.lookup
   (wpAny_getItem_list_neg (Q:=λr s'=>r=w/\EP X pins σ Q r s') pl.isList (by omega) (by rw[a0] <;> omega) (by omega) (by rw[V];simpa using Z) ⟨rfl,D⟩) Y
def zvl:IxR X (rIxT X.K):=by
 intro D L pins s σ H x y v u Q I V Y h Z;obtain⟨p,xs,i,z,rfl,rfl,a,b,q⟩:=h;cases V;obtain⟨t,rfl⟩:=Y;obtain⟨its,r,pl,e⟩:=I.tuple a;obtain⟨j,h1,h2,f,g,k⟩:=yz b;obtain⟨w,c,S⟩:=r.get h2;have d:=r.length;have l:=qu;have U:EP X pins σ Q w s:=⟨z,H,I,S,q⟩;exact subscriptTail_builtinR (x:=w) pl.typeIs slot_tuple_getitem.lookup
  (getItem_tuple (j:=j) (Q:=λr s'=>r=w/\EP X pins σ Q r s') pl (by omega) (by omega) (by rw[a0,<-d];exact h1) (by simpa using c) ⟨rfl,U⟩) Z
def zvm:IxR X rIxS:=by
 intro D L pins s σ H x y v u Q I S U h V;obtain⟨z,i,c,rfl,rfl,f,Y,q⟩:=h;obtain⟨t,rfl⟩:=S;obtain⟨t',rfl⟩:=U;obtain⟨j,h1,h2,g,Z,a⟩:=yz Y;have b:z.cps.toList.length=z.length:=by simp[Str.length]
 rw[b] at h1 Z a;have k:=qu;exact tail_any (typeIs_str s z t) slot_str_getitem.lookup (getItem_str (c:=c) (by
  have d:decide (i < -(2 ^ 63:Int))=false:=decide_eq_false (by omega);have e:decide (i >= 2 ^ 63)=false:=decide_eq_false (by omega);rw[d,e,Bool.or_false]) (by rw[h1];simpa using h2) ⟨.str ⟨#[c]⟩,H,I.tok _,⟨_,rfl⟩,q⟩) V
def rIx(K:eb):R2:=λx y H Q=>rIxL K x y H Q\/rIxT K x y H Q\/rIxS x y H Q
def ym:IxR X (rIx X.K):=zsn.or (zvl.or zvm)
def zmb(its:b4)(n j:Nat)(u:Value):Obj.mapSeq (·.setIfInBounds j u) { cls:=.type "list",data:=.seq its.toArray n }={ cls:=.type "list",data:=.seq (its.set j u).toArray n }:=by
 simp[Obj.mapSeq]
def Inv.lst{pins:ed}{σ:St}{H:Hp}{s:Shared}{p:Addr}{xs:el}(I:Inv X pins σ H s)(h:H p=↑(.lst xs)) :
  ∃(its:b4) (n:Nat),Vals xs its/\s.heap.get? p=some { cls:=.type "list",data:=.seq its.toArray n }/\xs.length<=sizeLine:=by
 obtain⟨z,its,n,r,e⟩:=I.hok p _ h;exact⟨its,n,r,e,z⟩
variable{pins:ed}{σ:St}{H:Hp}{s:Shared}{xs ys:el}{its its':b4}
def Inv.lstUpd{p:Addr}{z:Nat}{f:Obj->Obj}(I:Inv X pins σ H s)(h:H p=↑(.lst xs))(L:s.heap.get? p=some { cls:=.type "list",data:=.seq its.toArray n })(D:f { cls:=.type "list",data:=.seq its.toArray n }={ cls:=.type "list",data:=.seq its'.toArray z })(r:Vals ys its')(S:ys.length<=sizeLine)(t:Nat) :
  Inv X pins σ (upd H p (.lst ys)) { s with heap:=s.heap.update p f,toks:=t }:=by
 have e:(s.heap.update p f).get? p=some { cls:=.type "list",data:=.seq its'.toArray z }:=by
  rw[Heap.get?_update_self f L (by rw[D] <;> rfl),D]
 refine I.write (x:=p) (e:=p) (by rw[h];trivial) (.inl rfl) (λb u U q=>(Heap.get?_update_other _ _ (Ne.symm U)).trans q) ⟨_,e⟩ ?_;exact⟨S,its',z,r,e⟩
def zvn:V->V->V->Hp->(Hp->Prop)->Prop:=λo i v H Q=>∃p xs k j,o=.ref p/\i=.int k/\H p=↑(.lst xs)/\ixN xs.length k=↑j/\Q (upd H p (.lst (xs.set j v)))
def zk7:PSet X zvn:=by
 intro pins s σ H o i v e f u Q I ro a b h;obtain⟨p,xs,k,j,rfl,rfl,S,c,q⟩:=h;cases ro;obtain⟨t,rfl⟩:=a;obtain⟨its,n,r,z,d⟩:=I.lst S;obtain⟨h1,h2,U,V⟩:=y0 c;have D:=r.length;have g:=qu;have Y:Inv X pins σ (upd H p (.lst (xs.set j v))) { s with heap:=s.heap.update p (Obj.mapSeq (·.setIfInBounds j u)) } :=
  I.lstUpd S z (zmb its n j u) (r.set b j) (by rw[dy];exact d) s.toks
 by_cases Z:0<=k
 ·have L:k.toNat=j:=by
   rw[seqIndex_of Z V] at h1;exact ay h1
  exact PySem.W.ki_setAt z Z (by omega) (by rw[a0,<-D];exact V) (by rw[L];exact⟨_,Y,q⟩)
 ·have L:(k+(its.toArray.size:Int)).toNat=j:=by
   rw[seqIndex_neg (by omega) U] at h1;rw[a0,<-D];exact ay h1
  exact PySem.W.ki_setBack z (by omega) (by rw[a0,<-D];exact U) (by omega) (by rw[L];exact⟨_,Y,q⟩)
def zi4(lo hi:dt)(n:Nat):(sliceBounds lo hi none n).1=((HT.sIx n 0 lo:Nat):Int)/\(sliceBounds lo hi none n).2.1=((HT.sIx n n hi:Nat):Int)/\(sliceBounds lo hi none n).2.2=1:=by
 refine⟨?_,?_,rfl⟩
 ·cases lo with
  |none=>simp[sliceBounds,HT.sIx] |some i =>
    simp only[sliceBounds,HT.sIx,Option.getD_none,show(1:Int) > 0 by decide,if_true];by_cases h:i<0
    ·simp only[h,if_true] <;> omega
    ·simp only[h,if_false] <;> omega
 ·cases hi with
  |none=>simp[sliceBounds,HT.sIx] |some i =>
    simp only[sliceBounds,HT.sIx,Option.getD_none,show(1:Int) > 0 by decide,if_true];by_cases h:i<0
    ·simp only[h,if_true] <;> omega
    ·simp only[h,if_false] <;> omega
def zib(its:b4)(lo hi:dt):slicePick its.toArray lo hi none=((its.drop (HT.sIx its.length 0 lo)).take (HT.sIx its.length its.length hi-HT.sIx its.length 0 lo)).toArray:=by
 obtain⟨h1,h2,z⟩:=zi4 lo hi its.toArray.size;unfold slicePick;rw[h1,h2,z];simp only[sliceRange_one,pick_run,a0] <;> rfl
def rSlL(K:eb):V->dt->dt->Hp->VK->Prop:=λx lo hi H Q=>∃a xs,x=.ref a/\SqL K H a xs/\∀p,H p=none->Q (.ref p) (upd H p (.lst (cutV xs lo hi)))
def zso:SlR X (rSlL X.K):=by
 intro pins s σ H x v Z c lo hi d Q I L S pl U h;obtain⟨a,xs,rfl,V,q⟩:=h;cases L;obtain⟨its,r,D,Y⟩:=I.list V;have z:=r.length;refine⟨"list",_,slot_list_getitem.lookup,D.isList.typeIs,?_⟩;refine wpAny_getItem_list_slice D.isList S pl U .none (by simp) ?_ (by rw[a0] <;> omega);rw[zib,<-z];refine⟨.ref s.heap.objs.size,_,I.laid (t':=s.toks) (o:=.lst (cutV xs lo hi)) (λb e q=>bc _ q) (bg _) ?_,rfl,q _ (I.hok.fresh (bg _))⟩;exact⟨bi (zka xs lo hi) Y,_,0,(r.drop (HT.sIx xs.length 0 lo)).take (HT.sIx xs.length xs.length hi-HT.sIx xs.length 0 lo),cf _ rfl⟩
def zgb:l9 X (.builtin "len") (λxs H Q=>∃p ys,xs=[.ref p]/\(SqL X.K H p ys\/SqT X.K H p ys)/\Q (.int ys.length) H):=by
 intro pins s σ H xs us Q I r h;obtain⟨p,ys,rfl,hq,q⟩:=h;obtain⟨u,rfl,L⟩:=qo r;cases L;have U:=qu;rcases hq with hq |hq
 ·obtain⟨its,D,pl,S⟩:=I.list hq
  have z:=D.length;exact Calls.call_len_list pl.isList (by simp only[a0] <;> omega) ⟨.int ys.length,H,I.tok _,⟨s.toks+1,by rw[a0,z]⟩,q⟩
 ·obtain⟨its,D,pl,S⟩:=I.tuple hq
  have z:=D.length;exact len_tuple pl (by simp only[a0] <;> omega) ⟨.int ys.length,H,I.tok _,⟨s.toks+1,by rw[a0,z]⟩,q⟩
def zi5:l9 X (.type "list") (λxs H Q=>∃p ys,xs=[.ref p]/\(SqL X.K H p ys\/SqT X.K H p ys)/\∀l,H l=none->Q (.ref l) (upd H l (.lst ys))):=by
 intro pins s σ H xs us Q I r h;obtain⟨p,ys,rfl,hq,q⟩:=h;obtain⟨u,rfl,Z⟩:=qo r;cases Z;have L:∀(its:b4),Vals ys its->ys.length<=sizeLine->∀(h':Heap) (z:Nat),(∀b o',s.heap.get? b=↑o'->h'.get? b=↑o') ->
   h'.get? s.heap.objs.size=some { cls:=.type "list",dict:=none,data:=.seq its.toArray z,slots:=#[] }->EP X pins σ Q (.ref s.heap.objs.size) { s with heap:=h' }:=λits D S h' z kp e =>
  ⟨.ref s.heap.objs.size,_,I.laid (t':=s.toks) kp (bg _) (show ObjOk X.prog X.w _ h' _ (.lst ys) from⟨S,its,z,D,e⟩),rfl,q _ (I.hok.fresh (bg _))⟩
 rcases hq with hq |hq
 ·obtain⟨its,D,pl,S⟩:=I.list hq
  have U:=D.length;obtain⟨o,V,Y,n,hd⟩:=pl.isList;exact call_list_seq p (.inl rfl) V Y hd (λh' z kp e=>L its D S h' z kp e) (by simp only[a0] <;> omega)
 ·obtain⟨its,D,pl,S⟩:=I.tuple hq
  have U:=D.length;obtain⟨o,V,Y,n,hd⟩:=pl;exact call_list_seq p (.inr rfl) V Y hd (λh' z kp e=>L its D S h' z kp e) (by simp only[a0] <;> omega)
def tyV(K:eb)(T:String)(x:V)(H:Hp):Prop:=match x with
 | .str _=>T = "str" | .int _=>T = "int" | .ref p=>(T = "list"/\∃xs,SqL K H p xs)\/(T = "tuple"/\∃o,K.lookup p=↑o/\o.cls=.type "tuple"/\o.dict=none) \/
    (T = "dict"/\((∃kvs,H p=↑(.dK kvs))\/∃kvs,H p=↑(.dT kvs)))\/(T = "set"/\∃S n,H p=↑(.set S n))
 |_=>False
variable{T:String}{x:V}
def zra{v:Value}(I:Inv X pins σ H s)(r:RelV x v)(L:tyV X.K T x H) :
  s.TypeIs v T/\∀a,v=.ref a->∃V,s.heap.get? a=↑V/\V.dict=none:=by
 cases x with
 |str z =>
   obtain⟨t,rfl⟩:=r;cases (show T = "str" from L);exact⟨typeIs_str s z t,λ_ e=>nomatch e⟩
 |int i =>
   obtain⟨t,rfl⟩:=r;cases (show T = "int" from L);exact⟨typeIs_int s i t,λ_ e=>nomatch e⟩
 |ref p =>
   cases r;rcases L with⟨rfl,xs,Y⟩ | ⟨rfl,o,D,hc,hd⟩ | ⟨rfl,D⟩ | ⟨rfl,S,n,D⟩
   ·obtain⟨its,_,pl,_⟩:=I.list Y
    refine⟨pl.isList.typeIs,λa e=>?_⟩;cases e;obtain⟨o,n,e,c,hd,_⟩:=pl;exact⟨o,e,hd⟩
   ·refine⟨⟨o,I.kIn p o D,hc⟩,λa e=>?_⟩
    cases e;exact⟨o,I.kIn _ o D,hd⟩
   ·have z:∃o,s.heap.get? p=↑o/\o.ExactDict:=by
     rcases D with⟨kvs,D⟩ | ⟨kvs,D⟩
     ·obtain⟨_,_,_,_,o,_,_,e,ex,_⟩:=I.hok p _ D
      exact⟨o,e,ex⟩
     ·obtain⟨_,_,_,_,o,_,_,e,ex,_⟩:=I.hok p _ D
      exact⟨o,e,ex⟩
    obtain⟨o,e,ex⟩:=z;refine⟨⟨o,e,ex.1⟩,λa U=>?_⟩;cases U;exact⟨o,e,ex.2.1⟩
   ·obtain⟨o,_,_,_,e,ex,_⟩:=I.hok p _ D
    refine⟨⟨o,e,ex.1⟩,λa U=>?_⟩;cases U;exact⟨o,e,ex.2.1⟩
 |_=>exact False.elim L
def tBM0(K:eb)(T:String)(r:V->el->Hp->VK->Prop)(to:TE):TE:=λσ H Q=>to σ H λx H1=>tyV K T x H1/\r x [] H1 Q
def tBM(K:eb)(T:String)(r:V->el->Hp->VK->Prop)(to:TE)(t:TA):TE:=λσ H Q=>to σ H λx H1=>tyV K T x H1/\t σ H1 λxs H2=>r x xs H2 Q
variable{r:V->el->Hp->VK->Prop}{o:Expr}{to:TE}{name:Str}{apos cpos:Pos}{id:String}
def zvo(Y:PlainAttrs T)(L:Slot T name id)(S:typeOf (.builtin id)=pure (.type "method_descriptor"))(Z:MtR X id r)(a:PE X o to)(z:attributeBase o name X.env (eval o X.env)=eval o X.env:=by rfl)(D:(apos.endLine==cpos.line)=true:=by rfl):PE X (.Call (.Attribute o name apos) [] [] cpos) (tBM0 X.K T r to):=by
 intro pins s σ H Q I h;refine wpAny_Call_method0_late z D (thn (a pins s σ H _ I h) λv b c=>?_);obtain⟨x,H1,U,V,d,e⟩:=c;obtain⟨h1,h2⟩:=zra U V d;exact⟨T,id,Y,L,S,h1,h2,Calls.callWith_builtin rfl (PySem.evalArgs_none (Z pins b σ H1 x [] v [] Q U V .nil e))⟩
variable{es:da}{t:TA}
def qm(a:PlainAttrs T)(S:Slot T name id)(V:typeOf (.builtin id)=pure (.type "method_descriptor"))(b:MtR X id r)(c:PE X o to)(d:PA X (e::es) t)(D:attributeBase o name X.env (eval o X.env)=eval o X.env:=by rfl)(U:((backTo cpos (starEach (e::es) X.env)).all (λx=>!x.1) && (backToKw cpos (keywordEach [] X.env)).all (λx=>x.1.isSome)
   && decide ((e::es).length+([]:List Keyword).length+(if ([]:List Keyword).isEmpty then 0 else 1)<30))=true:=by rfl)(L:(apos.endLine==cpos.line)=true:=by rfl)(f:starEach (e::es) X.env=(false,eval e X.env)::starEach es X.env:=by rfl)(z:(backTo cpos (starEach es X.env)).any (·.1)=false:=by rfl) :
  PE X (.Call (.Attribute o name apos) (e::es) [] cpos) (tBM X.K T r to t):=by
 intro pins s σ H Q I h;refine wpAny_Call_method_late D U L rfl (thn (c pins s σ H _ I h) λv g i=>?_);obtain⟨x,H1,Y,Z,j,k⟩:=i;obtain⟨h1,h2⟩:=zra Y Z j;refine⟨T,id,a,S,V,h1,h2,?_⟩;have hA:=d cpos pins g σ H1 _ Y k;rw[f] at hA ⊢;refine Calls.callWith_builtin (by show(false || (backTo cpos (starEach es X.env)).any (·.1))=false;rw[z] <;> rfl) (Calls.evalArgs_plain ?_);exact thn hA λus s2 ⟨vs,H2,I2,r2,q2⟩=>b pins s2 σ H2 x vs v us Q I2 Z r2 q2
def MtM(X:Cx)(id:String)(r:V->el->Hp->VK->Prop):Prop :=
 ∀(pins:ed) (s:Shared) (σ:St) (H:Hp) (x:V) (xs:el) (v:Value) (us:b4) (Q:VK),Inv X pins σ H s->RelV x v->Vals xs us->r x xs H Q ->
  wpAny (model X.prog X.w) X.A (call (.builtin id) (v::us)) (EP X pins σ Q) X.xe s
def VInv:el->b4->Prop
 | [],us=>us=[] |x::xs,us=>∃u t,us=u::t/\RelV x u/\Vals xs t
variable{us:b4}
def Vals.inv(h:Vals xs us):VInv xs us:=by
 cases h with
 |nil=>exact rfl |cons r t=>exact⟨_,_,rfl,r,t⟩
def Vals.one(h:Vals [x] us):∃u,us=[u]/\RelV x u:=by
 obtain⟨u,t,e,r,q⟩:=h.inv;exact⟨u,(show t=[] from q.inv) ▸ e,r⟩
def Vals.two{y:V}(h:Vals [x,y] us):∃u v,us=[u,v]/\RelV x u/\RelV y v:=by
 obtain⟨u,t,e,r,q⟩:=h.inv;obtain⟨v,f,q⟩:=q.one;exact⟨u,v,f ▸ e,r,q⟩
def Vals.zero:∀ {us:b4},Vals [] us->us=[]
 |_,.nil=>rfl
def Vals.dropLast(h:Vals xs us):Vals xs.dropLast us.dropLast:=by
 induction h with
 |nil=>exact .nil |cons r t ih =>
   cases t with
   |nil=>exact .nil |cons q t'=>exact .cons r ih
def Vals.eraseIdx:∀ {xs:el} {us:b4} (i:Nat),Vals xs us->Vals (xs.eraseIdx i) (us.eraseIdx i)
 |_,_,_,.nil=>.nil |_,_,0,.cons _ t=>t |_,_,i+1,.cons r t=>.cons r (Vals.eraseIdx i t)
def Vals.rep{xs:el}{us:b4}(h:Vals xs us):∀k:Nat,Vals (List.replicate k xs).flatten (List.replicate k us).flatten
 |0=>.nil |k+1=>by
   rw[gv,gv,bw,bw];exact Vals.append h (Vals.rep h k)
def zmd(l:List α):l.eraseIdx (l.length-1)=l.dropLast:=by
 induction l with
 |nil=>rfl |cons a r ih =>
   cases r with
   |nil=>rfl |cons b r =>
     have e:(a::b::r).length-1=((b::r).length-1)+1:=by
      have h1:(a::b::r).length=r.length+2:=rfl;have h2:(b::r).length=r.length+1:=rfl;omega
     rw[e,uj,ih];all_goals rfl
def zi6{α:Type}:∀(l:List α) (i:Nat),(l.eraseIdx i).length<=l.length
 | [],_=>bg _ |_::_,0=>Nat.le_succ _ |_::r,i+1=>lz (zi6 r i)
def zi7(its:b4):∀(k:Nat) (z:b4),
  List.foldl (λD I=>D++I) z.toArray (List.replicate k its.toArray)=(z++(List.replicate k its).flatten).toArray
 |0,z=>by simp |k+1,z=>by
   have e:z.toArray++its.toArray=(z++its).toArray:=by simp
   have L:(z++its)++(List.replicate k its).flatten=z++(List.replicate (k+1) its).flatten:=by
    rw[gv,bw,cb]
   rw[<-L,<-zi7 its k (z++its),<-e,gv,List.foldl_cons]
variable{t':Nat}{l:Addr}
def Inv.lset{f:ei->ei}(I:Inv X pins σ H s)(z:H l=↑(.lst xs))(e:s.heap.get? l=some { cls:=.type "list",data:=.seq its.toArray n })(D:f its.toArray=its'.toArray)(L:Vals ys its')(S:ys.length<=sizeLine) :
  Inv X pins σ (upd H l (.lst ys)) { s with heap:=s.heap.update l (Obj.mapSeq f),toks:=t' }:=by
 have q:=PySem.IsL.update e f;rw[D] at q;refine I.write (x:=l) (e:=l) (by rw[z];exact trivial) (.inl rfl) (λY u U V=>(Heap.get?_update_other s.heap (Obj.mapSeq f) (Ne.symm U)).trans V) ⟨_,q⟩ ?_;exact⟨S,its',_,L,q⟩
def Inv.lnew(I:Inv X pins σ H s)(z:Vals ys its)(D:ys.length<=sizeLine) :
  Inv X pins σ (upd H s.heap.objs.size (.lst ys)) { s with heap:=s.heap.push { cls:=.type "list",data:=.seq its.toArray },toks:=t' } :=
 I.laid (λ_ _ q=>bc _ q) (bg _) ⟨D,its,0,z,cf _ rfl⟩
def Inv.fresh(I:Inv X pins σ H s):H s.heap.objs.size=none:=I.hok.fresh (bg _)
def Inv.lstM(I:Inv X pins σ H s)(D:H l=↑(.lst xs)):xs.length<=sizeLine/\∃(its:b4) (n:Nat),Vals xs its/\xs.length=its.length/\s.heap.get? l=some { cls:=.type "list",data:=.seq its.toArray n }:=by
 obtain⟨z,its,n,r,e⟩:=I.hok l _ D;exact⟨z,its,n,r,r.length,e⟩
def zk8(h:n<=sizeLine):Builtin.List.listTooLong n=false:=by
 unfold Builtin.List.listTooLong;exact decide_eq_false (by omega)
def zsp:V->el->Hp->VK->Prop:=λx vs H Q=>∃l xs y,x=.ref l/\vs=[y]/\H l=↑(.lst xs)/\xs.length<sizeLine/\Q .non (upd H l (.lst (xs++[y])))
theorem zi8:MtM X "list.append" zsp:=by
 intro pins s σ H x vs v us Q I L S h;obtain⟨l,xs,y,rfl,rfl,D,V,q⟩:=h;cases L;obtain⟨u,rfl,U⟩:=S.one;obtain⟨z,its,n,r,Y,e⟩:=I.lstM D;refine call_meets F.slot_list_append ⟨_,e,rfl⟩ F.entry_list_append (F.args_list_append_2 _ _) (PySem.list_append l its.toArray n u (by rw[a0];omega)) ⟨e,?_⟩;refine⟨.non,_,I.lset (its':=its++[u]) D e (by simp) (r.append (.cons U .nil)) ?_,rfl,q⟩;rw[aj,cu];omega
def zsq:V->el->Hp->VK->Prop:=λx vs H Q=>∃l b xs z,x=.ref l/\vs=[.ref b]/\H l=↑(.lst xs)/\H b=↑(.lst z)/\xs.length+z.length<=sizeLine/\Q .non (upd H l (.lst (xs++z)))
theorem znp:MtM X "list.extend" zsq:=by
 intro pins s σ H x vs v us Q I V Y h;obtain⟨l,b,xs,i,rfl,rfl,U,Z,j,q⟩:=h;cases V;obtain⟨u,rfl,a⟩:=Y.one;cases a;obtain⟨z,its,n,r,k,e⟩:=I.lstM U;obtain⟨m,D,c,d,f,g⟩:=I.lstM Z;have S:its.toArray.size+D.toArray.size<=sizeLine:=by rw[a0,a0];omega
 have L:¬(!its.toArray.isEmpty && Builtin.List.listTooLong (its.toArray.size+D.toArray.size))=true:=by
  rw[zk8 S,Bool.and_false];exact bv
 refine call_meets F.slot_list_extend ⟨_,e,rfl⟩ F.entry_list_extend (F.args_list_extend_2 _ _)
  (AutoSeq1.list_extend_list_list_0 l its.toArray n b D.toArray c L (by rw[a0];omega) (by omega)) ⟨e,g,?_⟩
 refine⟨.non,_,I.lset (its':=its++D) U e (by simp) (r.append d) ?_,rfl,q⟩;rw[aj];omega
def rPop:V->el->Hp->VK->Prop:=λx vs H Q=>∃l xs y,x=.ref l/\vs=[]/\H l=↑(.lst xs)/\xs[xs.length-1]?=↑y/\Q y (upd H l (.lst xs.dropLast))
theorem zvp:MtM X "list.pop" rPop:=by
 intro pins s σ H x vs v us Q I U V h;obtain⟨l,xs,y,rfl,rfl,S,Y,q⟩:=h;cases U;have D:=V.zero;subst D;obtain⟨z,its,n,r,Z,e⟩:=I.lstM S;obtain⟨u,a,b⟩:=r.get Y;have L:its.toArray[its.toArray.size-1]?=↑u:=by
  show its.toArray[its.length-1]?=↑u;rw[<-Array.getElem?_toList,<-Z];exact a
 refine call_meets F.slot_list_pop ⟨_,e,rfl⟩ F.entry_list_pop (F.args_list_pop_1 _) (MeetsSeq.list_pop_last l its.toArray n u L (by rw[a0];omega)) ⟨e,?_⟩;refine⟨y,_,I.lset (its':=its.dropLast) S e ?_ r.dropLast ?_,b,q⟩
 ·show its.toArray.eraseIdxIfInBounds (its.toArray.size-1)=its.dropLast.toArray
  rw[a0,lr,zmd]
 ·rw[List.length_dropLast]
  omega
def zvq:V->el->Hp->VK->Prop:=λx vs H Q=>∃l xs i k y,x=.ref l/\vs=[.int i]/\H l=↑(.lst xs)/\-(2 ^ 63)<=i/\i<2 ^ 63/\seqIndex? i xs.length=↑k/\xs[k]?=↑y/\Q y (upd H l (.lst (xs.eraseIdx k)))
theorem zpp:MtM X "list.pop" zvq:=by
 intro pins s σ H x vs v us Q I S U h;obtain⟨l,xs,i,k,y,rfl,rfl,L,h1,h2,V,Y,q⟩:=h;cases S;obtain⟨u,rfl,Z⟩:=U.one;obtain⟨t,rfl⟩:=Z;obtain⟨z,its,n,r,a,e⟩:=I.lstM L;obtain⟨w,b,D⟩:=r.get Y;refine call_meets F.slot_list_pop ⟨_,e,rfl⟩ F.entry_list_pop (F.args_list_pop_2 _ _)
  (MeetsSeq.list_pop_at l its.toArray n i t k w (fitsIndex_both h1 h2) (by rw[a0,<-a];exact V) (by rw[<-Array.getElem?_toList];exact b) (by rw[a0];omega)) ⟨e,?_⟩
 refine⟨y,_,I.lset (its':=its.eraseIdx k) L e ?_ (r.eraseIdx k) ?_,D,q⟩
 ·show its.toArray.eraseIdxIfInBounds k=(its.eraseIdx k).toArray
  rw[lr]
 ·have:=zi6 xs k
  omega
def rRep:R2:=λx y H Q=>∃l k xs,x=.ref l/\y=.int k/\H l=↑(.lst xs)/\-(2 ^ 63)<=k/\k<2 ^ 63/\xs.length*k.toNat<=sizeLine /\
 ∀p,H p=none->Q (.ref p) (upd H p (.lst (List.replicate k.toNat xs).flatten))
def zsr(xs:List α)(k:Nat):(List.replicate k xs).flatten.length=k*xs.length:=by
 induction k with
 |zero=>simp |succ k ih=>rw[gv,bw,aj,ih,Nat.succ_mul,Nat.add_comm]
theorem zvr:OpR X (binaryOp .Mult) rRep:=by
 intro pins s σ H x y v u Q I d f h;obtain⟨l,k,xs,rfl,rfl,g,h1,h2,c,q⟩:=h;cases d;obtain⟨t,rfl⟩:=f;obtain⟨z,its,n,r,i,e⟩:=I.lstM g;have L:its.toArray.size*k.toNat<=sizeLine:=by rw[a0,<-i];exact c
 have S:¬its.toArray.size*k.toNat > (2 ^ 63-1) / 8:=by
  have:(sizeLine:Nat)<=(2 ^ 63-1) / 8:=by decide
  omega
 have V:¬(!Builtin.List.listFitsIndex k)=true:=by
  rw[fitsIndex_both h1 h2];exact bv
 have D:¬Builtin.List.listTooLong (its.toArray.size*k.toNat)=true:=by
  rw[zk8 L];exact bv
 have Y:List.foldl (λZ b=>Z++b) #[] (List.replicate (if its.toArray.isEmpty=true then 0 else k.toNat) its.toArray)=(List.replicate k.toNat its).flatten.toArray:=by
  have j:∀m:Nat,List.foldl (λZ b=>Z++b) #[] (List.replicate m its.toArray)=(List.replicate m its).flatten.toArray:=λm=>by
   have:=zi7 its m [];rw[ng] at this;exact this
  rw[j];cases its with
  |nil=>simp |cons a r'=>rw[if_neg (by simp)]
 refine wpAny_binaryOp_repeat_ref (T:="list") (U:="int") (by decide) ⟨_,e,rfl⟩ (λs'=>typeIs_int s' k t) noFill_list_mul F.fills_int_mul F.slot_int_rmul repeat_list F.slot_int_index.lookup
  (call_meets F.slot_int_rmul (typeIs_int s k t) F.entry_int_rmul (F.args_int_rmul_2 _ _) (int___rmul___int_list k t l its.toArray n)
    ⟨e,rfl,⟨_,e,rfl⟩,call_meets F.slot_list_mul ⟨_,e,rfl⟩ F.entry_list_mul (F.args_list_mul_2 _ _) (AutoListH.list___mul___list_int_3 l its.toArray n k t V S D) ⟨e,?_⟩⟩)
 rw[Y];exact⟨.ref _,_,I.lnew (t':=s.toks) (r.rep k.toNat) (by rw[zsr,Nat.mul_comm];exact c),rfl,q _ I.fresh⟩
end L2
namespace Att
open PySem PySem.W PySem.Calls PyProof.Rows
variable{P:Params}{h:Heap}
def zgy:∀(ns:ci) (vs:b4),WellAll P h vs (ns.map WData.int)->IntsAre vs ns:=by
 intro ns;induction ns with
 |nil =>
   intro vs w;rw[dm] at w;cases w;exact .nil
 |cons n ns ih =>
   intro vs w;rw[bh] at w;cases w with
   |cons a b =>
     cases a;exact .cons _ _ (ih _ b)
variable{l:OpenLaw}{n:Nat}
def znq(Z:l.most=↑n){args:List WData}{z:b4}(D:l.row.toRowW.claim.pre args=true)(U:WellAll P h z args) :
  ∃a vs ns,z=[Value.ref a]/\args=[WData.list (ns.map WData.int)]/\h.get? a=some { cls:=.type "list",data:=.seq vs.toArray }/\IntsAre vs ns/\ns.length<=n:=by
 have V:WShape.hasAll [] args [.list .int]=true:=(pre_splitW D).1;have Y:l.pre.holds [] { args:=args }=true:=(pre_splitW D).2;obtain⟨d,r,rfl,h1,h2⟩:=hasAllW_cons V;obtain rfl:=hasAllW_nil h2;obtain⟨xs,rfl,b⟩:=hasW_list h1;obtain⟨ns,rfl⟩:=items_int b;have I:ns.length<=n:=by
  unfold OpenLaw.pre at Y;have L:(WTm.not (.lt (.lit (.int (n:Int))) (.len (.arg 0)))).holds [] { args:=[.list (ns.map .int)] }=true:=by
   have L:=(holds_andW Y).1;rw[Z] at L;exact L
  have S:=condW_of L (w_not (w_lt w_lit (w_len_list (w_arg rfl))));rw[ac] at S;refine jh λq=>?_;have c:(n:Int)<((ns.length:Nat):Int):=by omega
  first
   | (rw[decide_eq_true c] at S;exact absurd S (by decide))
   | (simp at S;omega)
 cases U with
 |cons w1 w2 =>
   cases w2;cases w1 with
   |list ho hall=>exact⟨_,_,ns,rfl,rfl,ho,zgy ns _ hall,I⟩
def znr(l:OpenLaw)(args:List WData):l.row.toRowW.claim.post args (.bool true) args=true :=
 postW_of (r:=l.row.toRowW) (X:=(true==true))
  (show WShape.has [] (.bool true) .bool=true by first |rfl |decide |simp[WShape.has,WShape.arms,WShape.armsAll])
  (show(WTm.eq .res (.lit (.bool true))).value [] { args:=args,res:=↑(.bool true),after:=args }=↑(.bool (true==true)) from w_eq_bool (w_res rfl) w_lit) rfl
def attach_call{q:Program}{D:b2}{j:(Str->b5)->Heap->Prop}{k:World->Heap->Prop}{d:DefRec}(t:l.most=↑n)(b:d.params.defaults=[])(call:∀(w:World) (s₀ z:Shared) (mg c:Str->b5) (fa:Addr) (o:Obj) (e Z I:Value) (a:Addr) (vs:b4) (ns:ci),
   Ground q D [] j w s₀ mg c z.heap->k w z.heap ->
   z.heap.get? fa=↑o->o.data=.func (docDef d.name d.params d.body d.scope e Z I)->z.heap.CodeRec Z d.name->mg d.name=↑(.ref fa) ->
   z.heap.get? a=some { cls:=.type "list",data:=.seq vs.toArray }->IntsAre vs ns->ns.length<=n->z.gens=#[] ->
   codeAny (model l.prog w) callerA (.call (.ref fa) ⟨[.ref a],[]⟩) (λr s'=>r=.ok (.ret (.bool true))/\OldK z.heap s'.heap/\s'.os=z.os/\AllBare s'.gens) z) :
  WalkO q D j k l.row.toRowW d [] (λf vs=>PySem.call f vs):=by
 intro w s₀ z mg c G Y fa o e Z I u kV v hd g m h x args p as S s y i A;obtain rfl:u=.none:=Dflts.none m b;obtain rfl:kV=.none:=Dflts.noKw m;obtain⟨a,vs,ns,rfl,rfl,U,L,V⟩:=znq t S i;refine enter_call (codeAny_mono (call w s₀ z mg c fa o e Z I a vs ns G Y v (fd_plain hd) g h U L V x) λr s' B=>?_);obtain⟨rfl,h2,C,E⟩:=B;exact⟨.inl ⟨.bool true,.bool true,[],rfl,λ_=>rfl,.bool true,znr l _,λ_=>⟨List.Pairwise.nil,λ_ F=>(nomatch F)⟩⟩,h2,C,E⟩
end Att
namespace L2
open PySem PySem.Spec PyProof.Rows
def zi9:∀ {vs:b4} {ns:ci},IntsAre vs ns->Vals (ns.map V.int) vs
 |_,_,.nil=>.nil |_,_,.cons n t h=>.cons ⟨t,rfl⟩ (zi9 h)
def Only(H:Hp):Prop:=∀b,H b=none\/∃o xs,H b=↑(.frz o (.lst xs))
variable{P:Program}{w:World}{K:eb}{mg:Str->b5}{k:Nat}{a:Addr}{fd:FuncData}{x:Str}{sp:Sp}{vs:b4}
def zpq{A:Str->b5}{CX:CXT}{fa:Addr}{D:Shared}{ns:ci}(J:K.In D.heap)(Z:D.heap.Ns mainGlobals mg)(L:D.heap.Ns builtinsNs A)(B:∀x:Str,x ≠ "__name__"->A x=bootBuiltins x)(c:D.heap.NoLimit)(R:D.gens=#[])(y:D.heap.get? a=some { cls:=.type "list",data:=.seq vs.toArray })(hi:IntsAre vs ns)(M:ns.length<=sizeLine)(T:Room k callerA)(F:∀base:Heap,K.In base->base.Ns mainGlobals mg->FnOk P w K mg base CX k fa fd [x] sp)(Y:∀(s:Shared) (u:Value),BindsTo s fd ⟨[u],[]⟩ [(x,u)])(C:∀H:Hp,Only H->SqL K H a (ns.map V.int)->sp [.ref a] H (λv _=>v=.bl true) λ_ _ _=>False)(E:∀H e s',CX [] H D (λ_ _ _=>False) e s'->False) :
  codeAny (model P w) callerA (.call (.ref fa) ⟨[.ref a],[]⟩) (λr s'=>r=.ok (.ret (.bool true))/\OldK D.heap s'.heap/\s'.os=D.os/\AllBare s'.gens) D:=by
 have N:=zi9 hi;have f:=hi.length;have U:∀H:Hp,Only H->SqL K H a (ns.map V.int)->HOk P w H D.heap->(∀b,H b≠none->b=a)->(H a≠none->K.lookup a=none) ->
   codeAny (model P w) callerA (.call (.ref fa) ⟨[.ref a],[]⟩) (λr s'=>r=.ok (.ret (.bool true))/\OldK D.heap s'.heap/\s'.os=D.os/\AllBare s'.gens) D:=by
  intro H O W g hA X;have I:∀ {b:Addr} {o:Obj},D.heap.get? b=↑o->H b=none->(hidT D.heap H).get? b=↑o:=λe n=>zph e n;have G:∀ {b:Addr} {o:Obj} {es:Array DictEntry} {i:Nat},D.heap.get? b=↑o->o.data=.dict es i->H b=none:=λ{b o es i} e d=>by
   cases q:H b with
   |none=>rfl |some u =>
     have e':b=a:=hA b (by rw[q];simp);subst e';rw[y] at e;cases e;have d':Data.seq vs.toArray _=Data.dict es i:=d;cases d'
  have S:∀ {b:Addr} {m:Str->b5},D.heap.Ns b m->(hidT D.heap H).Ns b m:=λ{b m} ⟨o,es,i,e,d,r⟩=>⟨o,es,i,I e (G e d),d,r⟩;have j:K.In (hidT D.heap H):=λb o e=>I (J b o e) (by
   cases q:H b with
   |none=>rfl |some u =>
     have e':b=a:=hA b (by rw[q];simp);subst e';rw[X (by rw[q];simp)] at e;cases e)
  have hM:Mod K mg (hidT D.heap H):=⟨j,S Z,⟨A,S L,B⟩,let ⟨mc,h1,h2⟩:=c;⟨mc,S h1,h2⟩⟩;have e0:Env0 P w K mg (hidT D.heap H) callerA [] D H:=⟨rfl,hM,λb o e=>zr1 e,Nat.le_of_eq (zm9 _ _),trivial,λb L=>absurd (show b∈([]:cc) from L) (by simp),g,.of_eq R⟩;refine codeAny_mono ((F _ j (S Z)).run callerA [] D H ⟨[.ref a],[]⟩ [.ref a] [.ref a] _ _ T e0 (Y D (.ref a)) (.cons rfl .nil) (C H O W)) λr s' h=>?_;cases r with
  |error e=>exact(E H e s' h).elim |ok fl =>
    cases fl with
    |next=>exact False.elim h |brk=>exact False.elim h |cont=>exact False.elim h |ret u =>
      obtain⟨v,H',os,l,un,p,r',q⟩:=h;have q':v=.bl true:=q;subst q';obtain rfl:u=Value.bool true:=r';refine⟨rfl,OldK.of_keep λb o e=>?_,os,l⟩;cases q:H b with
      |none=>exact un.keep b o e q (by intro z;exact absurd (show b∈([]:cc) from z) (by simp)) (by simp)
      |some u =>
        rcases O b with z | ⟨ob,xs,z⟩
        ·rw[q] at z;cases z
        ·have z2:=un.frzs b ob _ z
         obtain⟨Q,_⟩:=g b _ z;obtain⟨e2,_⟩:=p b _ z2;rw[e] at Q;cases Q;exact e2
 cases hk:K.lookup a with
 |some o =>
   have e:=J a o hk;rw[y] at e;cases e;refine U (λ_=>none) (λ_=>.inl rfl) (.inr ⟨_,vs.toArray,_,hk,rfl,rfl,rfl,by rw[a0,f];exact M,by simpa using N⟩) (λb u z=>by have t:(none:Option HO)=↑u:=z;cases t) (λb z=>absurd rfl z) λz=>absurd rfl z
 |none =>
   refine U (λb=>if b=a then ↑(.frz { cls:=.type "list",data:=.seq vs.toArray } (.lst (ns.map V.int))) else none) (λb=>?_) (.inl (.inr ⟨{ cls:=.type "list",data:=.seq vs.toArray },if_pos rfl⟩)) (λb u z=>?_) (λb z=>?_) λ_=>hk
   ·by_cases L:b=a
    ·exact .inr ⟨_,_,if_pos L⟩
    ·exact .inl (if_neg L)
   ·by_cases L:b=a
    ·have t:=(if_pos L).symm.trans z
     cases t;subst L;exact⟨y,by rw[ac];exact M,vs,_,N,y⟩
    ·have t:=(if_neg L).symm.trans z
     cases t
   ·by_cases L:b=a
    ·exact L
    ·exact absurd (if_neg L) z
variable{l:Addr}{n:Nat}{q:FT}{d:D}
def zss{l:PySem.W.OpenLaw}{q:Program}{D:b2}{r:(Str->b5)->Heap->Prop}{m:World->Heap->Prop}{d:DefRec}{K:Params->eb}{CX:World->CXT}{sp:World->Sp}(t:l.most=↑n)(U:n<=sizeLine)(Z:d.params.defaults=[])(y:Room k callerA)(A:∀(w:World) (h:Heap),m w h->(K w.params).In h)(F:∀(w:World) (mg:Str->b5) (fa:Addr) (h:Heap),(K w.params).In h->h.Ns mainGlobals mg->mg d.name=↑(.ref fa) ->
   ∃fd:FuncData,(∀(s:Shared) (u:Value),BindsTo s fd ⟨[u],[]⟩ [(x,u)]) /\
    ∀base:Heap,(K w.params).In base->base.Ns mainGlobals mg->FnOk l.prog w (K w.params) mg base (CX w) k fa fd [x] (sp w))(c:∀(w:World) (H:Hp) (a:Addr) (ns:ci),ns.length<=n->Only H->SqL (K w.params) H a (ns.map V.int)->sp w [.ref a] H (λv _=>v=.bl true) λ_ _ _=>False)(i:∀(w:World) (H:Hp) (s:Shared) (e:Value) (s':Shared),CX w [] H s (λ_ _ _=>False) e s'->False) :
  PySem.W.WalkO q D r m l.row.toRowW d [] (λf vs=>PySem.call f vs):=by
 refine Att.attach_call t Z λw s₀ L mg P fa o Q R B a vs ns G Y X hd C j S I z E=>?_;have p:=A w _ Y;obtain⟨fd,J,M⟩:=F w mg fa _ p G.T.g j;exact zpq p G.T.g G.T.b G.T.builtins G.T.nolimit E S I (bi z U) y M J (λH N O=>c w H a ns z N O) λH e s'=>i w H L e s'
def nt(s:Stmt):Arguments:=match s with
 | .FunctionDef _ a _ _ _ _ _ _ _ _=>a |_=>{ posonlyargs:=[],args:=[],vararg:=none,kwonlyargs:=[],kw_defaults:=[],kwarg:=none,defaults:=[] }
def kb(s:Stmt):List Stmt:=match s with
 | .FunctionDef _ _ b _ _ _ _ _ _ _=>b |_=>[]
def gn(s:Stmt):Scope:=match s with
 | .FunctionDef _ _ _ _ _ _ sc _ _ _=>sc |_=>{ kind:=.function,names:=[],isGenerator:=false,isCoroutine:=false }
abbrev CX0:CXT:=λ_ _ _ _ _ _=>False
abbrev E0:XK:=λ_ _ _=>False
variable{X:Cx}
def xw:yn CX0 X E0:=λ_ _ _ _ _ _ _ h=>h.elim
structure Fun (K:eb) (x qual:Str) (st:Stmt) (f:Addr) (fd:FuncData):Prop where
 ex:∃(oc:Value) (od:Option Addr) (kV doc pm:Value) (an:Option Addr) (cdv ct:Value) (osl:Array b5),
  fd=PySem.W.fnOf x qual (nt st) (kb st) (gn st) .none kV doc pm an cdv ct/\K.lookup f=↑⟨oc,od,.func fd,osl⟩/\PySem.W.codeIn K cdv qual=true
 kp:PySem.W.keepIn K (.ref f)=true
variable{qual:Str}{st:Stmt}{f:Addr}{N:b2}{ps:List Pt}{base:Heap}
theorem Fun.ok{ps:b2}(F:Fun K x qual st f fd)(S:o0 N ps (gn st))(len:∀vs H Q E,sp vs H Q E->vs.length=ps.length)(z:∀(cdv:Value) (A:Around) (outer:cm) (s:Shared) (H:Hp) (vs:el) (Q:VK) (E:XK),Room k (A.deeper (envOfC qual (gn st) s.heap.objs.size f cdv))->sp vs H Q E ->
   ∃t,PSs (cxOf CX0 P w K mg base N qual (gn st) f cdv A outer s H E).nox (kb st) t/\t { nx:=λ_ H'=>Q .non H',rt:=Q } (start N vs) H):FnOk P w K mg base CX0 (k+1) f fd ps sp:=by
 obtain⟨oc,od,kV,L,Z,an,cdv,ct,osl,rfl,U,D⟩:=F.ex;refine zvk U D S len λA outer s H vs Q E Y I=>?_;obtain⟨t,h,q⟩:=z cdv A outer s H vs Q E Y I;exact⟨t,h.nox,q⟩
def yl{oc:Value}{od an:Option Addr}{osl:Array b5}{kV z D cdv ct:Value}(l:K.lookup f=↑⟨oc,od,.func (PySem.W.fnOf x qual (nt st) (kb st) (gn st) .none kV z D an cdv ct),osl⟩)(c:PySem.W.codeIn K cdv qual=true)(k:PySem.W.keepIn K (.ref f)=true):Fun K x qual st f (PySem.W.fnOf x qual (nt st) (kb st) (gn st) .none kV z D an cdv ct):=⟨⟨oc,od,kV,z,D,an,cdv,ct,osl,rfl,l,c⟩,k⟩
def Same(H H':Hp):Prop:=∀b o,H b=↑o->H' b=↑o
def Same.refl(H:Hp):Same H H:=λ_ _ h=>h
variable{H H1 H2:Hp}
def Same.trans(a:Same H H1)(b:Same H1 H2):Same H H2:=λc o h=>b c o (a c o h)
variable{H':Hp}
def Same.free(e:Same H H')(h:H' l=Option.none):H l=Option.none:=by
 cases q:H l with
 |none=>rfl |some o =>
   rw[e l o q] at h;cases h
def z5{env:Env}:∀(names:List (Str×NameKind)) (z:List (Str×Addr)),
  (∀y∈names,y.2=.free->∃c,env.cells.lookup y.1=↑c)->(∀y c,z.lookup y=↑c->env.cells.lookup y=↑c) ->
  ∃cl,(forIn names z λ(x:Str×NameKind) (cs:List (Str×Addr))=>if (x.2==NameKind.free)=true then(do let c <-cellOf env x.1;pure (ForInStep.yield ((x.1,c)::cs)):Sem _) else pure (ForInStep.yield cs))=pure cl /\
   (∀y c,cl.lookup y=↑c->env.cells.lookup y=↑c)/\(∀y c,z.lookup y=↑c->∃I,cl.lookup y=↑I)/\∀y∈names,y.2=.free->∃c,cl.lookup y.1=↑c
 | [],z,_,ha=>⟨z,rfl,ha,λy c e=>⟨c,e⟩,λ_ h=>nomatch h⟩ | (n,k)::r,z,hn,ha=>by
   by_cases S:k=.free
   ·subst S
    obtain⟨c,V⟩:=hn (n,.free) au rfl;obtain⟨cl,e,h1,h2,U⟩:=z5 r ((n,c)::z) (λy hy=>hn y (ai _ hy)) (λy I e=>by
     rw[b6] at e;cases hq:y==n with
     |true=>rw[hq] at e;cases e;rw[eq_of_beq hq];exact V
     |false=>rw[hq] at e;exact ha y I e)
    have D:List.lookup n ((n,c)::z)=↑c:=by simp[b6]
    refine⟨cl,?_,h1,λy I e'=>?_,λy hy L=>?_⟩
    ·rw[List.forIn_cons]
     have Y:cellOf env n=pure c:=by unfold cellOf;rw[V]
     simp only[beq_self_eq_true,if_true,Y,pure_bind];exact e
    ·cases hq:y==n with
     |true=>rw[eq_of_beq hq];exact h2 n c D |false=>exact h2 y I (by rw[b6,hq];exact e')
    ·rcases b8.mp hy with rfl |hy
     ·exact h2 n c D
     ·exact U y hy L
   ·obtain⟨cl,e,h1,h2,U⟩:=z5 r z (λy hy=>hn y (ai _ hy)) ha
    refine⟨cl,?_,h1,h2,λy hy L=>?_⟩
    ·rw[List.forIn_cons]
     have Z:(k==NameKind.free)=false:=by cases k <;> first |rfl |exact absurd rfl S
     simp only[Z,cr,if_false,pure_bind];exact e
    ·rcases b8.mp hy with rfl |hy
     ·exact absurd L S
     ·exact U y hy L
variable{sc:Scope}{env:Env}
def zhw(h:∀y∈sc.names,y.2=.free->∃c,env.cells.lookup y.1=↑c) :
  ∃cl,closureFor sc env=pure cl/\(∀y c,cl.lookup y=↑c->env.cells.lookup y=↑c)/\∀y∈sc.names,y.2=.free->∃c,cl.lookup y.1=↑c:=by
 obtain⟨cl,e,h1,_,z⟩:=z5 (env:=env) sc.names [] h (λy c e=>by simp at e);refine⟨cl,?_,h1,z⟩;unfold closureFor;rw[show(pure cl:Sem _)=(pure cl >>= λcs=>pure cs) by rw[pure_bind],<-e]
def zb1{env:Env}:∀ {names:List (Str×NameKind)} {x:Str} {k:NameKind},
  (names.map λ(n,k)=>if (k==NameKind.free && env.scope.kind==.function && env.kindOf n==some .cell) then(n,NameKind.cell) else(n,k)).lookup x=↑k ->
  names.lookup x=↑k\/(names.lookup x=some .free/\k=.cell)
 | (n,k0)::r,x,k,h=>by
   have D:=@zb1 env r x k;have h:List.lookup x ((if (k0==NameKind.free && env.scope.kind==.function && env.kindOf n==some .cell)=true then(n,NameKind.cell) else(n,k0))::_)=_:=h;cases hx:x==n with
   |true =>
     by_cases z:(k0==NameKind.free && env.scope.kind==.function && env.kindOf n==some .cell)=true
     ·rw[if_pos z] at h
      simp only[b6,hx] at h ⊢;simp only[fm,beq_iff_eq] at z;cases h;exact .inr ⟨by rw[z.1.1],rfl⟩
     ·rw[if_neg z] at h
      simp only[b6,hx] at h ⊢;exact .inl h
   |false =>
     by_cases z:(k0==NameKind.free && env.scope.kind==.function && env.kindOf n==some .cell)=true
     ·rw[if_pos z] at h
      simp only[b6,hx] at h ⊢;exact D h
     ·rw[if_neg z] at h
      simp only[b6,hx] at h ⊢;exact D h
def xa{env:Env}:∀ {names:List (Str×NameKind)} {x:Str},names.lookup x=some .free ->
  (names.map λ(n,k)=>if (k==NameKind.free && env.scope.kind==.function && env.kindOf n==some .cell) then(n,NameKind.cell) else(n,k)).lookup x=some .cell \/
  (names.map λ(n,k)=>if (k==NameKind.free && env.scope.kind==.function && env.kindOf n==some .cell) then(n,NameKind.cell) else(n,k)).lookup x=some .free
 | (n,k0)::r,x,h=>by
   have D:=@xa env r x;show List.lookup x ((if (k0==NameKind.free && env.scope.kind==.function && env.kindOf n==some .cell)=true then(n,NameKind.cell) else(n,k0))::_)=_\/List.lookup x ((if (k0==NameKind.free && env.scope.kind==.function && env.kindOf n==some .cell)=true then(n,NameKind.cell) else(n,k0))::_)=_;cases hx:x==n with
   |true =>
     simp only[b6,hx] at h;cases h;by_cases z:(NameKind.free==NameKind.free && env.scope.kind==.function && env.kindOf n==some .cell)=true
     ·rw[if_pos z];simp only[b6,hx];exact .inl trivial
     ·rw[if_neg z];simp only[b6,hx];exact .inr trivial
   |false =>
     simp only[b6,hx] at h;by_cases z:(k0==NameKind.free && env.scope.kind==.function && env.kindOf n==some .cell)=true
     ·rw[if_pos z];simp only[b6,hx];exact D h
     ·rw[if_neg z];simp only[b6,hx];exact D h
def ju(X:Cx)(x:Str)(N':b2)(sc:Scope)(cl:List (Str×Addr))(C:Addr)(s₂:Shared)(H₂:Hp)(fp:cc):Cx :=
 { X with N:=x::N',s₀:=s₂,H₀:=H₂,env:=compEnvC sc cl C X.env,outer:=X.stack,stack:=X.stack,ex:=fp,fn:=λ_=>false,pn:=[],xe:=λ_ _=>False }
def PIfs(X:Cx)(ifs:da)(tt:TT):Prop :=
 ∀(pins:ed) (s:Shared) (σ:St) (H:Hp) (Q:Bool->Hp->Prop),Inv X pins σ H s->tt σ H Q ->
  wpAny (model X.prog X.w) X.A (forIn ifs true λc r=>if r=true then do let ok <-isTrue c X.env (eval c X.env);pure (ForInStep.yield ok) else pure (ForInStep.yield r)) (TP X pins σ Q) X.xe s
def tYes:TT:=λ_ H Q=>Q true H
def zpr:PIfs X [] tYes:=λ_ _ _ H _ I h=>wpAny_tests_nil ⟨H,I,h⟩
def ph(wi:TI)(ix:cd)(tt:TT)(te:TE):TE:=λσ H Q=>wi σ H λJ H1=>∃W:Nat->Nat->Hp->el->Prop,(∃m,W 0 m H1 [])/\∀i m H ys,W i m H ys ->
 (J.stop i H/\ys.length<=sizeLine/\∀D,H D=none->Q (.ref D) (upd H D (.lst ys))) \/
 (J.go i H/\∀x H',J.yld i H x H'->tt (↑x::ix.map (λj=>σ.getD j none)) H' λb H2 =>
   if b=true then te (↑x::ix.map (λj=>σ.getD j none)) H2 λv I=>ys.length<sizeLine/\∃z,z<m/\W (i+1) z I (ys++[v]) else ∃z,z<m/\W (i+1) z H2 ys)
abbrev lobj(ys:b4):Obj:={ cls:=.type "list",data:=.seq ys.toArray ys.length }
variable{ys:el}{y:Str}
def Vals.snoc{y:V}{u:Value}(h:Vals ys vs)(r:RelV y u):Vals (ys++[y]) (vs++[u]):=Vals.append h (.cons r .nil)
def znt(vs:b4)(u:Value):({ cls:=.type "list",data:=.seq (vs.toArray.push u) (vs.length+1) }:Obj)=lobj (vs++[u]):=LCg.lst_snoc vs u
variable{R:Result->Shared->Prop}{s:Sl}{elt iter:Expr}{ifs:da}{pos:Pos}
def zke{prog:Program}{A:Around}{s:Shared}{z:Expr}{scope:Scope}{it Z:Value}(I:Nat->Shared->Prop)(turn:∀n s,I n s->wpAny (model prog w) A (pyNext it) (λr D=>match r with
   |none=>R (.ok .next) D |some v => wpAny (model prog w) A (letOwnedTupleGo z it v) (λ_ L => wpAny (model prog w) A (assign z env v) (λ_ s₂ => wpAny (model prog w) A (forIn ifs true λc r => if r = true then do let ok <-isTrue c env (eval c env);pure (ForInStep.yield ok) else pure (ForInStep.yield r)) (λok S =>
       if ok=true then wpAny (model prog w) A (eval elt env) (λx U=>wpAny (model prog w) A (call (.builtin "list.append") [Z,x]) (λ_ V=>∃m,m<n/\I m V) (notedBy (model prog w) A env λe s'=>R (.error e) s') U) (notedBy (model prog w) A env λe s'=>R (.error e) s') S
       else ∃m,m<n/\I m S) (notedBy (model prog w) A env λe s'=>R (.error e) s') s₂) (notedBy (model prog w) A env λe s'=>R (.error e) s') L) (notedBy (model prog w) A env λe s'=>R (.error e) s') D) (notedBy (model prog w) A env λe s'=>R (.error e) s') s)(n:Nat)(h:I n s):codeAny (model prog w) A (.compLoop (.ListComp elt [⟨z,iter,ifs,0⟩] scope pos) 0 it Z env) R s:=by
 refine codeAny_loop rfl I (λn s g=>?_) n h;refine(show wpAny _ A ((compTurn (.ListComp elt [⟨z,iter,ifs,0⟩] scope pos) 0 it Z env).onRaise (λx=>do noteFrame x env;theTreesLotGoes x)) _ _ s from wpAny_noted ?_);rw[compTurn_list];refine wpAny_bind (wpAny_standAt (wpAny_bind (thn (turn n s g) λr D h₁=>?_)));cases r with
 |none=>exact wpAny_pure h₁ |some v =>
   refine wpAny_bind (thn h₁ λ_ L a=>wpAny_bind (thn a λ_ s₂ b=>wpAny_bind (thn b λok S Y=>?_)));cases ok with
   |false=>exact wpAny_pure ⟨rfl,Y⟩ |true=>exact wpAny_bind (wpAny_bind (thn Y λx U d=>wpAny_bind (thn d λ_ V f=>wpAny_pure (wpAny_pure ⟨rfl,f⟩))))
def k3(X:Cx)(xs N':b2)(sc:Scope)(cl:List (Str×Addr))(C:Addr)(s₂:Shared)(H₂:Hp)(fp:cc):Cx :=
 { X with N:=xs++N',s₀:=s₂,H₀:=H₂,env:=compEnvC sc cl C X.env,outer:=X.stack,stack:=X.stack,ex:=fp,fn:=λ_=>false,pn:=[],xe:=λ_ _=>False }
variable{pins:ed}{σ:St}{s2:Shared}{fp:cc}{cl:List (Str×Addr)}{h₁:Heap}{m₁:Str->b5}{xs N':b2}{ix:cd}
theorem zme{tk:Nat}(s:N'=ix.map λi=>X.N.getD i ("" : Str))(J:sc.kind=.function)(V:∀y∈sc.names,y.2≠.cell)(Y:∀y∈sc.names,y.2=.free->X.env.kindOf y.1=some .cell\/X.env.kindOf y.1=some .free)(t:∀y∈N',sc.names.lookup y=some .free)(h1:∀y c,cl.lookup y=↑c->X.env.cells.lookup y=↑c)(H:∀y∈sc.names,y.2=.free->∃c,cl.lookup y.1=↑c)(I:Inv X pins σ H2 s2)(r:∀b∈fp,FpOk X pins H2 b)(x:∀b∈fp,∃o,s2.heap.get? b=↑o)(U:∀b o,s2.heap.get? b=↑o->h₁.get? b=↑o)(A:h₁.Ns (s2.heap.objs.size+1) m₁)(K:h₁.get? s2.heap.objs.size=↑(lobj [])) :
  Inv (k3 X xs N' sc cl (s2.heap.objs.size+1) s2 H2 fp) [(s2.heap.objs.size,lobj [])] (xs.map (λ_=>none)++ix.map (λj=>σ.getD j none)) H2 { s2 with heap:=h₁,toks:=tk }:=by
 have B:∀b∈fp,b<s2.heap.objs.size:=λb S=>by obtain⟨o,e⟩:=x b S;exact bo e
 have a:∀b,s2.heap.objs.size<=b->b∉frs X.stack:=λb S z=>by
  rcases b8.mp (I.stkSub b z) with e |z
  ·exact absurd (ba I.lt (e ▸ S)) (gh _)
  ·exact I.nofs S z
 refine⟨⟨I.ok.mod,J,I.ok.glob,I.ok.blt,Nat.le_succ _,λy z c L D=>I.ok.inj y z c (h1 _ _ L) (h1 _ _ D),λy M=>?_,λy c z _=>(by cases z),I.ok.hd,I.ok.frames,.inl rfl,λb S=>⟨?_,λy c e=>?_⟩,I.bs,bi I.ok.bsz I.sz,λb o e S=>?_,λb S z=>?_,I.stack,I.stkFree⟩,
  rfl,I.bare,Un.kept U,⟨m₁,A,λi y v L D W=>?_⟩,λy c e=>?_,I.hok.fresh (Nat.le_succ _),λy c e=>I.freeC y c (h1 y c e),λp C=>?_,I.hok.kept U,?_⟩
 ·have E:(relabel sc X.env).names.lookup y=some .cell\/(relabel sc X.env).names.lookup y=some .free:=M
  have O:sc.names.lookup y=some .free:=by
   rcases E with q |q
   ·rcases zb1 q with q | ⟨q,_⟩
    ·exact absurd rfl (V _ (dh q))
    ·exact q
   ·rcases zb1 q with q | ⟨_,q⟩
    ·exact q
    ·cases q
  exact H (y,.free) (dh O) rfl
 ·exact bz (gk (B b S))
 ·exact(r b S).2.2.2.2.1 y c (h1 y c e)
 ·rcases(r b S).2.2.2.1 with z |z
  ·exact I.ok.noex b o e z
  ·exact absurd (ba (bo e) (bi I.ok.bsz z)) (gh _)
 ·have z:b∈frs X.stack:=z
  rcases b8.mp (I.stkSub b z) with e |z
  ·exact(r b S).2.1 e
  ·exact(r b S).2.2.1 z
 ·by_cases d:i<xs.length
  ·rw[b9 (by simpa using d),bu] at D
   cases hq0:xs[i]? with
   |none=>rw[hq0] at D;cases D
   |some z0=>rw[hq0] at D;cases D
  ·have L:(xs++N')[i]?=↑y:=L
   rw[d6 (by lia)] at L;rw[d6 (by rw[ac];lia),ac] at D;generalize i-xs.length=j at L D;rw[s,bu] at L;rw[bu] at D;cases q:ix[j]? with
   |none=>rw[q] at L;cases L
   |some k =>
     rw[q] at L D;have L:X.N.getD k "" = y:=ay L;have D:σ.getD k none=↑v:=ay D;have f:σ[k]?=↑↑v:=by
      rw[ae] at D;cases q2:σ[k]? with
      |none=>rw[q2] at D;cases D
      |some z=>rw[q2] at D;rw[show z=↑v from D]
     have g:k<X.N.length:=by rw[<-I.len];exact(aq.mp f).1
     have F:X.N[k]?=↑y:=by
      rw[ae,ak g] at L;rw[ak g];exact congrArg some L
     have G:y∈N':=by
      rw[s,<-L];exact bj.mpr ⟨k,bn q,rfl⟩
     have Z:=t y G;have h:=Y (y,.free) (dh Z) rfl;have l:Vis X.env.scope y:=by
      rcases h with z |z
      ·exact .inr (.inl z)
      ·exact .inr (.inr z)
     obtain⟨m,hn,P⟩:=I.loc;obtain⟨u,Q,R⟩:=P k y v F f l;refine⟨u,Q,.inr ⟨?_,?_⟩⟩
     ·exact xa Z
     ·rcases R with⟨z,_⟩ | ⟨_,c,hc,hcv⟩
      ·rcases h with w |w <;> rw[show X.env.kindOf y=_ from w] at z <;> cases z
      ·obtain⟨T,n⟩:=H (y,.free) (dh Z) rfl
       have:=h1 y T n;rw[hc] at this;cases this;exact⟨c,n,hcv.keeps U⟩
 ·obtain⟨v,q⟩:=I.cell y c (h1 y c e)
  exact⟨v,q.keeps U⟩
 ·have C:p∈[(s2.heap.objs.size,lobj [])]:=C
  rw[df.mp C];exact⟨K,I.hok.fresh (bg _),bz (d3 _),a _ (bg _),λv z=>by cases z⟩
 ·simp[k3,s]
def zja{d:St}{U:Shared}{h':Heap}(I:Inv X pins σ H2 s2)(i:∀b∈fp,FpOk X pins H2 b)(j:∀b∈fp,∃o,s2.heap.get? b=↑o)(J:Inv (k3 X xs N' sc cl (s2.heap.objs.size+1) s2 H2 fp) [(s2.heap.objs.size,lobj vs)] d H' U)(k:Vals ys vs)(l:ys.length<=sizeLine)(Z:Heap.SameBut (s2.heap.objs.size+1) U.heap h') :
  Inv X pins σ (upd H' s2.heap.objs.size (.lst ys)) { U with heap:=h' }:=by
 have h:=J.pin (s2.heap.objs.size,lobj vs) (bq _ au);have V:H' s2.heap.objs.size=none:=h.2.1;have Y:H' (s2.heap.objs.size+1)=none:=J.free;have L:Un (frs X.stack) fp H2 H' s2.heap U.heap:=J.base;have a:∀b o,s2.heap.get? b=↑o->b≠s2.heap.objs.size/\b≠s2.heap.objs.size+1:=λb o e=>by
  have:=bo e;exact⟨bz this,bz (gk this)⟩
 have m:∀b,s2.heap.objs.size<=b->H2 b=none:=λb D=>I.hok.fresh D;have f:∀b o,H2 b=↑o->b≠s2.heap.objs.size:=λb o e z=>by rw[z,m _ (bg _)] at e;cases e
 have p:Un (frs X.stack) fp H2 (upd H' s2.heap.objs.size (.lst ys)) s2.heap h':=by
  refine⟨λb o e n D S=>(Z.2 b (a b o e).2).trans (L.keep b o e n D S),λb o e n D S=>?_,λb o e n S=>?_,λb o e S=>?_,λb xs e=>?_,λb o u e=>?_,λb ps e=>?_⟩
  ·obtain⟨r,q⟩:=L.slot b o e n D S
   exact⟨r,(Z.2 b (a b o e).2).trans q⟩
  ·rw[h9 (a b o e).1];exact L.free b o e n S
  ·obtain⟨o',q⟩:=L.there b o e S
   exact⟨o',(Z.2 b (a b o e).2).trans q⟩
  ·rw[h9 (f b _ e)];exact L.tups b xs e
  ·rw[h9 (f b _ e)];exact L.frzs b o u e
  ·rw[h9 (f b _ e)];exact L.tbls b ps e
 have kk:∀b u,b≠s2.heap.objs.size+1->U.heap.get? b=↑u->h'.get? b=↑u:=λb u D q=>(Z.2 b D).trans q;have g:HOk X.prog X.w (upd H' s2.heap.objs.size (.lst ys)) h':=λb u e=>by
  by_cases D:b=s2.heap.objs.size
  ·subst D
   rw[ko] at e;cases e;exact⟨l,vs,vs.length,k,kk _ _ (bz (d3 _)) h.1⟩
  ·rw[h9 D] at e
   have s:b≠s2.heap.objs.size+1:=λz=>by rw[z,Y] at e;cases e
   refine(J.hok b u e).stay (λc v hc q=>kk c v ?_ q) (λc q=>?_) λc xs q=>?_
   ·rcases hc with rfl |hc
    ·exact s
    ·intro z;rw[z,Y] at hc;cases hc
   ·rw[h9 (λz=>by rw[z,V] at q;cases q)];exact q
   ·rw[h9 (λz=>by rw[z,V] at q;cases q)];exact q
 refine I.call' (s':={ U with heap:=h' }) (ch:=fp) J.os p g J.bare λb D=>?_;obtain⟨_,t,_,x,y,A⟩:=i b D;exact⟨x,t,y,A⟩
variable{J:It}{Q:VK}{W:Nat->Nat->Hp->el->Prop}{Cm:Cx->Prop}{tg:Expr}{g:TG}{tt:TT}{te:TE}
theorem zhx{it:Addr}{O:Nat->Heap->Prop}{m0:Nat}(hc:∀cl C s₂ H₂ fp pins σ,Inv X pins σ H₂ s₂->(∀b∈fp,FpOk X pins H₂ b)->Cm (k3 X xs N' sc cl C s₂ H₂ fp))(a9:∀cl C s₂ H₂ fp,Cm (k3 X xs N' sc cl C s₂ H₂ fp)->PIfs (k3 X xs N' sc cl C s₂ H₂ fp) ifs tt)(bb:∀cl C s₂ H₂ fp,Cm (k3 X xs N' sc cl C s₂ H₂ fp)->PE (k3 X xs N' sc cl C s₂ H₂ fp) elt te)(hg:∀cl C s₂ H₂ fp,Cm (k3 X xs N' sc cl C s₂ H₂ fp)->PG (k3 X xs N' sc cl C s₂ H₂ fp) tg g)(hN:N'=ix.map λi=>X.N.getD i ("" : Str))(hk:sc.kind=.function)(P:∀y∈sc.names,y.2≠.cell)(a8:∀y∈sc.names,y.2=.local->sc.names.lookup y.1=some .local)(aa:∀y∈sc.names,y.2=.free->X.env.kindOf y.1=some .cell\/X.env.kindOf y.1=some .free)(bd:∀y∈N',sc.names.lookup y=some .free)(h1:∀y c,cl.lookup y=↑c->X.env.cells.lookup y=↑c)(h3:∀y∈sc.names,y.2=.free->∃c,cl.lookup y.1=↑c)(f:Inv X pins σ H2 s2)(T:qq Cm X.prog X.w X.K tg J fp it O)(ap:O 0 s2.heap)(h:∀b∈fp,FpOk X pins H2 b)(w0:W 0 m0 H2 [])(turn:∀i m H ys,W i m H ys ->
   (J.stop i H/\ys.length<=sizeLine/\∀D,H D=none->Q (.ref D) (upd H D (.lst ys))) \/
   (J.go i H/\∀x H',J.yld i H x H'->∀I:St,I.length=xs.length->g x (I++ix.map (λj=>σ.getD j none)) H' λk H1=>∃U:St,U.length=xs.length/\k=U++ix.map (λj=>σ.getD j none)/\tt k H1 λb H2 =>
     if b=true then te k H2 λv H3=>ys.length<sizeLine/\∃l,l<m/\W (i+1) l H3 (ys++[v]) else ∃l,l<m/\W (i+1) l H2 ys))(ar:∀b o,s2.heap.get? b=↑o->h₁.get? b=↑o)(s:h₁.Ns (s2.heap.objs.size+1) m₁)(ax:h₁.get? s2.heap.objs.size=↑(lobj []))(hR:∀s5 E ys vs t,Inv (k3 X xs N' sc cl (s2.heap.objs.size+1) s2 H2 fp) [(s2.heap.objs.size,lobj vs)] t E s5->Vals ys vs->ys.length<=sizeLine->(∀D,E D=none->Q (.ref D) (upd E D (.lst ys)))->R (.ok .next) s5) :
  codeAny (model X.prog X.w) X.A (.compStart (.ListComp elt [⟨tg,iter,ifs,0⟩] sc pos) 0 (.ref it) (.ref s2.heap.objs.size) (compEnvC sc cl (s2.heap.objs.size+1) X.env)) R { s2 with heap:=h₁,toks:=s2.toks+([]:List (Str×Value)).length }:=by
 have a1:∀b∈fp,∃o,s2.heap.get? b=↑o:=λb L=>by obtain⟨o,e,_⟩:=T.obj _ _ ap b L;exact⟨o,e⟩
 have ag:∀b∈fp,b<s2.heap.objs.size:=λb L=>by obtain⟨o,e⟩:=a1 b L;exact bo e
 have I3:=zme (xs:=xs) (tk:=s2.toks+([]:List (Str×Value)).length) hN hk P aa bd h1 h3 f h a1 ar s ax;have a2:O 0 h₁:=T.keep _ _ _ ap λb L o e=>ar b o e;generalize V:k3 X xs N' sc cl (s2.heap.objs.size+1) s2 H2 fp=X' at I3;have eP:X'.prog=X.prog:=by rw[<-V];rfl
 have eW:X'.w=X.w:=by rw[<-V];rfl
 have eK:X'.K=X.K:=by rw[<-V];rfl
 have eA:X'.A=X.A:=by rw[<-V];rfl
 have F:X'.env=compEnvC sc cl (s2.heap.objs.size+1) X.env:=by rw[<-V];rfl
 have eC:Cm X':=by rw[<-V];exact hc _ _ _ _ _ _ _ f h
 have a3:X'.pn=[]:=by rw[<-V];rfl
 have al:X'.xe=λ_ _=>False:=by rw[<-V];rfl
 have a4:X'.fs=frs X.stack:=by rw[<-V];rfl
 have be:X'.ex=fp:=by rw[<-V];rfl
 have eS:X'.s₀=s2:=by rw[<-V];rfl
 have bf:∀b∈fp,b∉frs X.stack:=λb L z=>by
  rcases b8.mp (f.stkSub b z) with e |z
  ·exact(h b L).2.1 e
  ·exact(h b L).2.2.1 z
 have a5:s2.heap.objs.size∉frs X.stack:=λz=>by
  rcases b8.mp (f.stkSub _ z) with e |z
  ·exact absurd (e ▸ f.lt) (gh _)
  ·exact f.nofs (bg _) z
 have Y:∀ {H':Hp} {vs:b4},(∀b∈fp,H' b=none)->∀b∈fp,FpOk X' [(s2.heap.objs.size,lobj vs)] H' b:=λ{H' vs} hn b L=>by
  refine⟨hn b L,?_,?_,.inl (by rw[be];exact L),λy c e=>?_,λp B=>?_⟩
  ·rw[F];exact bz (gk (ag b L))
  ·rw[a4];exact bf b L
  ·rw[F] at e;exact(h b L).2.2.2.2.1 y c (h1 y c e)
  ·rw[a3] at B
   rw[df.mp (show p∈[(s2.heap.objs.size,lobj vs)] from B)];exact k6 (ag b L)
 have loop:∀S:Shared,S={ s2 with heap:=h₁,toks:=s2.toks+([]:List (Str×Value)).length } ->
   codeAny (model X.prog X.w) X.A (.compLoop (.ListComp elt [⟨tg,iter,ifs,0⟩] sc pos) 0 (.ref it) (.ref s2.heap.objs.size) (compEnvC sc cl (s2.heap.objs.size+1) X.env))
    (R) S:=by
  rintro S rfl;refine zke (λn s'=>∃i I H' ys vs,I.length=xs.length/\Inv X' [(s2.heap.objs.size,lobj vs)] (I++ix.map (λj=>σ.getD j none)) H' s'/\Vals ys vs/\O i s'.heap/\(∀b∈fp,H' b=none)/\W i n H' ys) ?_ m0
   ⟨0,xs.map (λ_=>none),H2,[],[],by simp,I3,.nil,a2,λb L=>(h b L).1,w0⟩
  rintro n s4 ⟨i,I,E,ys,vs,hσp,I4,hv4,st4,fr4,w4⟩;rcases turn i n E ys w4 with⟨a6,hl,qn⟩ | ⟨go,step⟩
  ·have D:=T.done X' eP eW eK eC i _ s4 _ E (notedBy (model X.prog X.w) X.A (compEnvC sc cl (s2.heap.objs.size+1) X.env) λe s'=>R (.error e) s') I4 (Y fr4) st4 a6
   rw[eA] at D;refine thn D λr s5 Z=>?_;obtain⟨hr,I5⟩:=Z;subst hr;exact hR s5 E ys vs _ (V ▸ I5) hv4 hl qn
  ·have D:=T.item X' eP eW eK eC i _ s4 _ E (notedBy (model X.prog X.w) X.A (compEnvC sc cl (s2.heap.objs.size+1) X.env) λe s'=>R (.error e) s') I4 (Y fr4) st4 go
   rw[eA] at D;refine thn D λr s5 Z=>?_;obtain⟨u,hr,h5⟩:=Z;subst hr;have bk:wpAny (model X.prog X.w) X.A (letOwnedTupleGo tg (.ref it) u) (λ_ an=>wpAny (model X.prog X.w) X.A (assign tg (compEnvC sc cl (s2.heap.objs.size+1) X.env) u) (λ_ s₂ =>
     wpAny (model X.prog X.w) X.A (forIn ifs true λc r=>if r=true then do let ok <-isTrue c (compEnvC sc cl (s2.heap.objs.size+1) X.env) (eval c (compEnvC sc cl (s2.heap.objs.size+1) X.env));pure (ForInStep.yield ok) else pure (ForInStep.yield r)) (λok S =>
      if ok=true then wpAny (model X.prog X.w) X.A (eval elt (compEnvC sc cl (s2.heap.objs.size+1) X.env)) (λx a7 =>
       wpAny (model X.prog X.w) X.A (call (.builtin "list.append") [.ref s2.heap.objs.size,x]) (λ_ G=>∃m,m<n/\∃i I H' ys vs,I.length=xs.length/\Inv X' [(s2.heap.objs.size,lobj vs)] (I++ix.map (λj=>σ.getD j none)) H' G/\Vals ys vs/\O i G.heap/\(∀b∈fp,H' b=none)/\W i m H' ys)
        (notedBy (model X.prog X.w) X.A (compEnvC sc cl (s2.heap.objs.size+1) X.env) λe s'=>R (.error e) s') a7)
       (notedBy (model X.prog X.w) X.A (compEnvC sc cl (s2.heap.objs.size+1) X.env) λe s'=>R (.error e) s') S
      else ∃m,m<n/\∃i I H' ys vs,I.length=xs.length/\Inv X' [(s2.heap.objs.size,lobj vs)] (I++ix.map (λj=>σ.getD j none)) H' S/\Vals ys vs/\O i S.heap/\(∀b∈fp,H' b=none)/\W i m H' ys)
      (notedBy (model X.prog X.w) X.A (compEnvC sc cl (s2.heap.objs.size+1) X.env) λe s'=>R (.error e) s') s₂)
     (notedBy (model X.prog X.w) X.A (compEnvC sc cl (s2.heap.objs.size+1) X.env) λe s'=>R (.error e) s') an) (notedBy (model X.prog X.w) X.A (compEnvC sc cl (s2.heap.objs.size+1) X.env) λe s'=>R (.error e) s') s5:=by
    refine thn h5 λ_ s6 Z=>?_;obtain⟨z,H6,I6,r6,y6,ao,bl⟩:=Z;have bm:=I6.pinned (Y bl) (T.obj _ _ ao);have q6:=step z H6 y6 I hσp;have g6:=(V ▸ hg cl (s2.heap.objs.size+1) s2 H2 fp (hc _ _ _ _ _ _ _ f h):PG X' tg g) _ s6 _ H6 z u _ bm r6 q6;rw[eP,eW,eA,F] at g6;refine wpAny_mono g6 (λ_ s7 Z=>?_) (λe s' z=>by rw[al] at z;exact z.elim);obtain⟨k,H7,I7,U,M,bp,q7⟩:=Z;subst bp;have t7:=(V ▸ a9 cl (s2.heap.objs.size+1) s2 H2 fp (hc _ _ _ _ _ _ _ f h):PIfs X' ifs tt) _ s7 _ H7 _ I7 q7;rw[eP,eW,eA,F] at t7;refine wpAny_mono t7 (λb s8 Z=>?_) (λe s' z=>by rw[al] at z;exact z.elim);obtain⟨H8,I8,q8⟩:=Z;have a:∀ {s':Shared} {H':Hp} {t:St},Inv X' ([(s2.heap.objs.size,lobj vs)]++sx fp s6.heap) t H' s'->O (i+1) s'.heap/\∀b∈fp,H' b=none:=λ{s' H' t} J'=>by
     refine⟨T.keep _ _ _ ao λb L o e=>(J'.pin (b,o) (bq _ (bq _ (vt L e)))).1,λb L=>?_⟩;obtain⟨o,e,d⟩:=T.obj _ _ ao b L;exact(J'.pin (b,o) (bq _ (bq _ (vt L e)))).2.1
    cases b with
    |false =>
      rw[if_neg bv] at q8 ⊢;obtain⟨l,hm,w8⟩:=q8;obtain⟨k1,k2⟩:=a I8;exact⟨l,hm,i+1,U,H8,ys,vs,M,I8.unpinned,hv4,k1,k2,w8⟩
    |true =>
      rw[if_pos rfl] at q8 ⊢;have t8:=(V ▸ bb cl (s2.heap.objs.size+1) s2 H2 fp (hc _ _ _ _ _ _ _ f h):PE X' elt te) _ s8 _ H8 _ I8 q8;rw[eP,eW,eA,F] at t8;refine wpAny_mono t8 (λv s9 Z=>?_) (λe s' z=>by rw[al] at z;exact z.elim);obtain⟨y,H9,I9,r9,b0,l,hm,w9⟩:=Z;have pD:=I9.pin (s2.heap.objs.size,lobj vs) (bq _ (de _ au));obtain⟨k1,k2⟩:=a I9;have b1:=hv4.length;refine append_at (D:=s2.heap.objs.size) (its:=vs.toArray) (n:=vs.length) pD.1 (λh' sb hD=>?_) (by rw[a0];lia);have br:Inv X' [] (U++ix.map (λj=>σ.getD j none)) H9 s9:=I9.pins_of λp B=>nomatch B;have cne:∀y c,X'.env.cells.lookup y=↑c->c≠s2.heap.objs.size:=λy c e=>by
       rw[F] at e;obtain⟨v',q⟩:=f.cell y c (h1 y c e);exact bz q.lt
      have bs:Inv X' [] (U++ix.map (λj=>σ.getD j none)) H9 { s9 with heap:=h' }:=br.turned (t':=s9.toks) (it:=s2.heap.objs.size) (λb o L e=>(sb.2 b L).trans e) pD.2.1 (by rw[F];exact bz (d3 _)) (.inr (by rw[eS];exact bg _)) cne (λp B=>by rw[a3] at B;exact nomatch B);have bt:Inv X' [(s2.heap.objs.size,lobj (vs++[v]))] (U++ix.map (λj=>σ.getD j none)) H9 { s9 with heap:=h' }:=bs.pins_of λp B=>by
       rw[df.mp B];exact⟨hD.trans (congrArg some (znt vs v)),pD.2.1,by rw[F];exact bz (d3 _),by rw[a4];exact a5,λv' z'=>by cases z'⟩
      exact⟨l,hm,i+1,U,H9,ys++[y],vs++[v],M,bt,hv4.snoc r9,T.keep _ _ _ k1 (λb L o e=>(sb.2 b (bz (ag b L))).trans e),k2,w9⟩
   exact bk
 exact codeAny_compStart_list (loop _ rfl) (T.self X.A 0 _ _ _ a2 (loop _ rfl))
def zjb(turn:∀i m H ys,W i m H ys ->
   (J.stop i H/\ys.length<=sizeLine/\∀D,H D=none->Q (.ref D) (upd H D (.lst ys))) \/
   (J.go i H/\∀x H',J.yld i H x H'->tt (↑x::ix.map (λj=>σ.getD j none)) H' λb H2 =>
     if b=true then te (↑x::ix.map (λj=>σ.getD j none)) H2 λv U=>ys.length<sizeLine/\∃z,z<m/\W (i+1) z U (ys++[v]) else ∃z,z<m/\W (i+1) z H2 ys)) :
  ∀i m H ys,W i m H ys ->
   (J.stop i H/\ys.length<=sizeLine/\∀D,H D=none->Q (.ref D) (upd H D (.lst ys))) \/
   (J.go i H/\∀v H',J.yld i H v H'->∀I:St,I.length=[x].length->kc 0 v (I++ix.map (λj=>σ.getD j none)) H' λL H1=>∃S:St,S.length=[x].length/\L=S++ix.map (λj=>σ.getD j none)/\tt L H1 λb H2 =>
     if b=true then te L H2 λv U=>ys.length<sizeLine/\∃z,z<m/\W (i+1) z U (ys++[v]) else ∃z,z<m/\W (i+1) z H2 ys):=λi m H ys w=>(turn i m H ys w).imp id λq=>⟨q.1,λv H' y I V=>by
 obtain⟨a,rfl⟩:=List.length_eq_one_iff.mp V;exact⟨[↑v],rfl,rfl,q.2 v H' y⟩⟩
variable{C:Addr}{s₂:Shared}{H₂:Hp}{px:Pos}
def zrb(z:(x::N').Nodup)(D:sc.names.lookup x=some .local):PG (k3 X [x] N' sc cl C s₂ H₂ fp) (.Name x px) (kc 0) :=
 y8 (i:=0) z rfl (.inl (lookup_relabel_local D)) (.inr (lookup_relabel_local D))
def Heap.SameBut.rf{h:Heap}(e:∃o,h.get? a=↑o):Heap.SameBut a h h:=by
 first |exact⟨rfl,λ_ _=>rfl⟩ |exact⟨e,λ_ _=>rfl⟩
structure yk (X:Cx) (x:Str) (N':b2) (ix:cd) (sc:Scope):Prop where
 nm:N'=ix.map λi=>X.N.getD i ("" : Str)
 nd:(x::N').Nodup
 kind:sc.kind=.function
 hx:sc.names.lookup x=some .local
 cell:∀y∈sc.names,y.2≠.cell
 names:∀y∈sc.names,y.2=.local->sc.names.lookup y.1=some .local
 free:∀y∈sc.names,y.2=.free->X.env.kindOf y.1=some .cell\/X.env.kindOf y.1=some .free
 fv:∀y∈N',sc.names.lookup y=some .free
variable{wi:TI}
def znv(c:yk X x N' ix sc)(p:∀cl C s₂ H₂ fp pins σ,Inv X pins σ H₂ s₂->(∀b∈fp,FpOk X pins H₂ b)->Cm (ju X x N' sc cl C s₂ H₂ fp))(hi:PIC Cm X (.Name x px) iter wi)(V:∀cl C s₂ H₂ fp,Cm (ju X x N' sc cl C s₂ H₂ fp)->PIfs (ju X x N' sc cl C s₂ H₂ fp) ifs tt)(Y:∀cl C s₂ H₂ fp,Cm (ju X x N' sc cl C s₂ H₂ fp)->PE (ju X x N' sc cl C s₂ H₂ fp) elt te)(q:∀v,foldedSetIterable iter X.env v=pure v:=by intro _;rfl) :
  PE X (.ListComp elt [⟨.Name x px,iter,ifs,0⟩] sc pos) (ph wi ix tt te):=by
 intro pins s σ H Q I h;obtain⟨cl,Z,h1,r⟩:=zhw (sc:=sc) (env:=X.env) (λy a t=>I.ok.has y.1 (c.free y a t));rw[eval_ListComp];refine wpAny_comprehension_free (use:=none) rfl q Z c.kind c.names (thn (hi pins s σ H _ I h) λv N u=>thn u λw s2 h2=>?_);obtain⟨it,fp,O,J,H2,rfl,m,T,L,n,W,⟨P,A⟩,turn⟩:=h2;refine wpAny_newObj_type (wpAny_newFunctionEnv c.cell (by intro y a;simp at a) (λh₁ D z=>?_) c.kind);dsimp only at D z ⊢;have S:(s2.heap.push { cls:=.type "list",dict:=none,data:=.seq ([]:b4).toArray }).objs.size=s2.heap.objs.size+1:=Heap.size_push ..;rw[S] at D z ⊢;have d:∀b o,s2.heap.get? b=↑o->h₁.get? b=↑o:=λb o e=>z.extBut b o (bz (gk (bo e))) (bc _ (bc _ e));have U:h₁.get? s2.heap.objs.size=↑(lobj []):=z.extBut _ _ (bz (d3 _)) (bc _ (cf _ rfl));have f:∀b∈fp,∃o,s2.heap.get? b=↑o:=λb B=>by obtain⟨o,e,_⟩:=T.obj _ _ L b B;exact⟨o,e⟩
 refine zhx (xs:=[x]) (g:=kc 0) p V Y (λ_ _ _ _ _ _=>zrb c.nd c.hx) c.nm c.kind c.cell c.names c.free c.fv h1 r m T L n A (zjb turn) d D U λR H4 ys vs E i j F G=>?_;obtain⟨K,k,_⟩:=i.loc;refine⟨K,k,λh' M=>?_⟩;have l:=(i.pin (s2.heap.objs.size,lobj vs) (bq _ au)).2.1;exact⟨.ref s2.heap.objs.size,_,zja (xs:=[x]) m n f i j F M,rfl,G _ l⟩
variable{i:Nat}
def znw{Y spos:Pos}(c:yk X x N' ix sc)(hc:∀cl C s₂ H₂ fp pins σ,Inv X pins σ H₂ s₂->(∀b∈fp,FpOk X pins H₂ b)->Cm (ju X x N' sc cl C s₂ H₂ fp))(n:X.N.Nodup)(q:X.N[i]?=↑y)(r:Loc X.env.scope y)(hi:PIC Cm X (.Name x px) iter wi)(t:∀cl C s₂ H₂ fp,Cm (ju X x N' sc cl C s₂ H₂ fp)->PIfs (ju X x N' sc cl C s₂ H₂ fp) ifs tt)(u:∀cl C s₂ H₂ fp,Cm (ju X x N' sc cl C s₂ H₂ fp)->PE (ju X x N' sc cl C s₂ H₂ fp) elt te)(w:swapsWith (.ListComp elt [⟨.Name x px,iter,ifs,0⟩] sc pos) ↑(.Name y Y) spos.line X.env=pure true)(B:X.fn y=true\/X.env.scope.names.lookup y=some .local:=by first |exact .inl rfl |exact .inr rfl |assumption)(hs:∀v,foldedSetIterable iter X.env v=pure v:=by intro _;rfl) :
  PS X (.Assign [.Name y Y] (.ListComp elt [⟨.Name x px,iter,ifs,0⟩] sc pos) spos) (tAsg (ph wi ix tt te) (kc i)):=by
 intro pins s σ H Dn I h;have h:ph wi ix tt te σ H λv H1=>Dn.nx (σ.set i ↑v) H1:=h;obtain⟨cl,E,h1,h3⟩:=zhw (sc:=sc) (env:=X.env) (λy F B=>I.ok.has y.1 (c.free y F B));rw[exec_Assign_Name_used _ _ _ _ w];refine wpAny_bind (wpAny_standAt (wpAny_bind ?_));show wpAny _ X.A (do let _ <-comprehension (.ListComp elt [⟨.Name x px,iter,ifs,0⟩] sc pos) sc X.env _ (newList []) false (eval iter X.env) ↑(assign (.Name y Y) X.env)) _ _ s;refine wpAny_bind (wpAny_mono (wpAny_comprehension_free (use:=↑(assign (.Name y Y) X.env)) (Q:=λ_ s'=>SP X pins Dn .next s') rfl hs E c.kind c.names
  (thn (hi pins s σ H _ I h) λv s1 g1=>thn g1 λag s2 h2=>?_)) (λ_ s' hq=>wpAny_pure (wpAny_pure hq)) λ_ _ e=>e)
 obtain⟨it,fp,tn,J,H2,rfl,V,T,Z,f2,W,⟨m0,w0⟩,turn⟩:=h2;refine wpAny_newObj_type (wpAny_newFunctionEnv c.cell (by intro y F;simp at F) (λh₁ L D=>?_) c.kind);dsimp only at L D ⊢;have d:(s2.heap.push { cls:=.type "list",dict:=none,data:=.seq ([]:b4).toArray }).objs.size=s2.heap.objs.size+1:=Heap.size_push ..;rw[d] at L D ⊢;have G:∀b o,s2.heap.get? b=↑o->h₁.get? b=↑o:=λb o e=>D.extBut b o (bz (gk (bo e))) (bc _ (bc _ e));have f:h₁.get? s2.heap.objs.size=↑(lobj []):=D.extBut _ _ (bz (d3 _)) (bc _ (cf _ rfl));have K:∀b∈fp,∃o,s2.heap.get? b=↑o:=λb M=>by obtain⟨o,e,_⟩:=T.obj _ _ Z b M;exact⟨o,e⟩
 refine zhx (xs:=[x]) (g:=kc 0) (Q:=λv H1=>Dn.nx (σ.set i ↑v) H1) hc t u (λ_ _ _ _ _ _=>zrb c.nd c.hx) c.nm c.kind c.cell c.names c.free c.fv h1 h3 V T Z f2 w0 (zjb (Q:=λv H1=>Dn.nx (σ.set i ↑v) H1) turn) G L f λj H4 ys vs al k O hl qn=>?_;obtain⟨m5,S,_⟩:=k.loc;have S:j.heap.Ns (s2.heap.objs.size+1) m5:=S;have P:=(k.pin (s2.heap.objs.size,lobj vs) (bq _ au)).2.1;have oC:∃o,j.heap.get? (s2.heap.objs.size+1)=↑o:=let ⟨o,_,_,e,_⟩:=S;⟨o,e⟩;have I6:Inv X pins σ (upd H4 s2.heap.objs.size (.lst ys)) { j with heap:=j.heap }:=zja (xs:=[x]) V f2 K k O hl (Heap.SameBut.rf oC);show wpAny _ X.A (assign (.Name y Y) X.env (.ref s2.heap.objs.size)) _ _ j;have HC:upd H4 s2.heap.objs.size (.lst ys) (s2.heap.objs.size+1)=none:=by rw[h9 (k6 (d3 _))];exact k.free
 have U:∀a o,s2.heap.get? a=↑o->s2.heap.objs.size+1≠a:=λa o e=>k6 (gk (bo e));have oL:∃o,s2.heap.get? X.env.locals=↑o:=let ⟨m,hn,_⟩:=V.loc;let ⟨o,_,_,e,_⟩:=hn;⟨o,e⟩;have cL:s2.heap.objs.size+1≠X.env.locals:=let ⟨o,e⟩:=oL;U _ o e;have cC:∀z l,X.env.cells.lookup z=↑l->l≠s2.heap.objs.size+1:=λz l e=>by
  obtain⟨v',o,e',_⟩:=V.cell z l e;exact Ne.symm (U _ o e')
 refine wpAny_assign_Name (ziy (v:=.ref s2.heap.objs.size) I6 n q r rfl (λs7 I7 zq=>?_) B);obtain⟨a,sb,ha⟩:=zq;have R:s2.heap.objs.size+1≠a:=by
  rcases ha with rfl |ha
  ·exact cL
  ·exact Ne.symm (cC _ _ ha)
 refine⟨m5,S.sameBut sb R,λh' aa=>?_⟩;refine⟨_,_,I7.turned (t':=s7.toks) (it:=s2.heap.objs.size+1) (λb o M e=>(aa.2 b M).trans e) HC cL (.inr ?_) cC (λp hp=>?_),qn _ P⟩
 ·exact k8 V.sz
 ·exact Ne.symm (U _ _ (V.pin p hp).1)
structure zxv (X:Cx) (xs N':b2) (ix:cd) (sc:Scope):Prop where
 nm:N'=ix.map λi=>X.N.getD i ("" : Str)
 nd:(xs++N').Nodup
 kind:sc.kind=.function
 hx:∀y∈xs,sc.names.lookup y=some .local
 cell:∀y∈sc.names,y.2≠.cell
 names:∀y∈sc.names,y.2=.local->sc.names.lookup y.1=some .local
 free:∀y∈sc.names,y.2=.free->X.env.kindOf y.1=some .cell\/X.env.kindOf y.1=some .free
 fv:∀y∈N',sc.names.lookup y=some .free
inductive D where
 |non |bl (b:Bool) |int (i:Int) |str (s:Str) |tup (ds:List D) |lst (ds:List D)
 |dct (ks:ci) (ds:List D)
 |exc (a:Addr)
abbrev em:=List D
abbrev ep:=Option D
inductive Im where
 |t (vs:el) |d (kvs:List (Key×V))
@[reducible] noncomputable def Im.out:Im->HO | .t vs=>.tup vs | .d kvs=>.dK kvs
def dkv(ks:ci)(vs:el):List (Key×V):=ks.zipWith (λk v=>(Sum.inl k,v)) vs
def KL(K:eb)(a:Addr)(xs:el):Prop :=
 ∃(o:Obj) (its:ei) (n:Nat),K.lookup a=↑o/\o.cls=.type "list"/\o.dict=none/\o.data=.seq its n/\its.size<=sizeLine/\Vals xs its.toList
mutual
inductive Rep (K:eb) (H:Hp) (O:Addr->Prop):D->V->Prop
 |non:Rep K H O .non .non
 |bl (b:Bool):Rep K H O (.bl b) (.bl b)
 |int (i:Int):Rep K H O (.int i) (.int i)
 |str (s:Str):Rep K H O (.str s) (.str s)
 |tup {a:Addr} {vs:el} {ds:em}:H a=↑(.tup vs)->Reps K H O ds vs->Rep K H O (.tup ds) (.ref a)
 |lst {a:Addr} {vs:el} {ds:em}:O a->Rd H a (.lst vs)->Reps K H O ds vs->Rep K H O (.lst ds) (.ref a)
 |klst {a:Addr} {vs:el} {ds:em}:KL K a vs->Reps K H O ds vs->Rep K H O (.lst ds) (.ref a)
 |dct {a:Addr} {ks:ci} {vs:el} {ds:em}:H a=↑(.dK (dkv ks vs))->Reps K H O ds vs->Rep K H O (.dct ks ds) (.ref a)
 |exc (a:Addr):Rep K H O (.exc a) (.ref a)
inductive Reps (K:eb) (H:Hp) (O:Addr->Prop):em->el->Prop
 |nil:Reps K H O [] []
 |cons {d:D} {v:V} {ds:em} {vs:el}:Rep K H O d v->Reps K H O ds vs->Reps K H O (d::ds) (v::vs)
end
variable{vs:el}{ds:em}{O:Addr->Prop}
def Reps.ind{P:em->el->Prop}(n:P [] [])(c:∀ {d v ds vs},Rep K H O d v->Reps K H O ds vs->P ds vs->P (d::ds) (v::vs)):Reps K H O ds vs->P ds vs :=
 Reps.rec (motive_1:=λ_ _ _=>True) (motive_2:=λds vs _=>P ds vs) ⟨⟩ (λ_=>⟨⟩) (λ_=>⟨⟩) (λ_=>⟨⟩) (λ_ _ _=>⟨⟩) (λ_ _ _ _=>⟨⟩) (λ_ _ _=>⟨⟩) (λ_ _ _=>⟨⟩) (λ_=>⟨⟩) n λr t _=>c r t
variable{v:V}{O':Addr->Prop}
def Rep.mono(z:∀a (u:Im),H a=↑u.out->H' a=↑u.out)(D:∀a vs,O a->Rd H a (.lst vs)->O' a/\Rd H' a (.lst vs)):Rep K H O d v->Rep K H' O' d v :=
 Rep.rec (motive_1:=λd v _=>Rep K H' O' d v) (motive_2:=λds vs _=>Reps K H' O' ds vs) .non .bl .int .str (λh _=>.tup (z _ (.t _) h)) (λo h _=>.lst (D _ _ o h).1 (D _ _ o h).2) (λh _=>.klst h) (λh _=>.dct (z _ (.d _) h)) .exc .nil λ_ _=>.cons
def Reps.mono(z:∀a (u:Im),H a=↑u.out->H' a=↑u.out)(I:∀a vs,O a->Rd H a (.lst vs)->O' a/\Rd H' a (.lst vs)){ds:em}{vs:el}:Reps K H O ds vs->Reps K H' O' ds vs:=Reps.ind .nil λr _=>.cons (r.mono z I)
def Reps.length{ds:em}{vs:el}:Reps K H O ds vs->ds.length=vs.length:=Reps.ind (P:=λds vs=>ds.length=vs.length) rfl λ_ _=>congrArg Nat.succ
def Reps.get(h:Reps K H O ds vs):ds[i]?=↑d->∃v,vs[i]?=↑v/\Rep K H O d v :=
 Reps.ind (P:=λds vs=>∀ {i:Nat},ds[i]?=↑d->∃v,vs[i]?=↑v/\Rep K H O d v) nofun (λr _ q i e=>match i with
  |0=>⟨_,rfl,ay e ▸ r⟩ |i+1=>q (i:=i) e) h
variable{es:da}
def Reps.append{es:em}{z:el}(h:Reps K H O ds vs)(s:Reps K H O es z):Reps K H O (ds++es) (vs++z):=Reps.ind (P:=λds vs=>Reps K H O (ds++es) (vs++z)) s (λr _=>.cons r) h
def Reps.take{ds:em}{vs:el}(n:Nat)(h:Reps K H O ds vs):Reps K H O (ds.take n) (vs.take n) :=
 Reps.ind (P:=λds vs=>∀n,Reps K H O (ds.take n) (vs.take n)) (λn=>by cases n <;> exact .nil) (λr _ q n=>by cases n;exact .nil;exact .cons r (q _)) h n
def Reps.drop{ds:em}{vs:el}(n:Nat)(h:Reps K H O ds vs):Reps K H O (ds.drop n) (vs.drop n) :=
 Reps.ind (P:=λds vs=>∀n,Reps K H O (ds.drop n) (vs.drop n)) (λn=>by cases n <;> exact .nil) (λr t q n=>by cases n;exact .cons r t;exact q _) h n
def Reps.set{d:D}{v:V}(r:Rep K H O d v){ds:em}{vs:el}(i:Nat)(h:Reps K H O ds vs):Reps K H O (ds.set i d) (vs.set i v) :=
 Reps.ind (P:=λds vs=>∀i,Reps K H O (ds.set i d) (vs.set i v)) (λ_=>.nil) (λp t q n=>by cases n;exact .cons r t;exact .cons p (q _)) h i
def Reps.eraseIdx{ds:em}{vs:el}(i:Nat)(h:Reps K H O ds vs):Reps K H O (ds.eraseIdx i) (vs.eraseIdx i) :=
 Reps.ind (P:=λds vs=>∀i,Reps K H O (ds.eraseIdx i) (vs.eraseIdx i)) (λ_=>.nil) (λp t q n=>by cases n;exact t;exact .cons p (q _)) h i
def Reps.dropLast(h:Reps K H O ds vs):Reps K H O ds.dropLast vs.dropLast:=by
 rw[List.dropLast_eq_take,List.dropLast_eq_take,h.length];exact h.take _
def Rep.int_{i:Int}(h:Rep K H O (.int i) v):v=.int i:=by cases h;rfl
def Rep.bl_{i:Bool}(h:Rep K H O (.bl i) v):v=.bl i:=by cases h;rfl
def Rep.str_{i:Str}(h:Rep K H O (.str i) v):v=.str i:=by cases h;rfl
def Rep.tup_(h:Rep K H O (.tup ds) v):∃a vs,v=.ref a/\H a=↑(.tup vs)/\Reps K H O ds vs:=by cases h with |tup a b=>exact⟨_,_,rfl,a,b⟩
def LsOk(K:eb)(H:Hp)(O:Addr->Prop)(a:Addr)(vs:el):Prop:=(O a/\Rd H a (.lst vs))\/KL K a vs
def LsOk.sq(h:LsOk K H O a vs):SqL K H a vs:=h.elim (λz=>.inl z.2) .inr
def Rep.lst_(h:Rep K H O (.lst ds) v):∃a vs,v=.ref a/\LsOk K H O a vs/\Reps K H O ds vs:=by
 cases h with
 |lst o a b=>exact⟨_,_,rfl,.inl ⟨o,a⟩,b⟩ |klst a b=>exact⟨_,_,rfl,.inr a,b⟩
inductive Mo where
 |l (vs:el) |i (C dx:Addr) (fs:List (Str×V))
@[reducible] noncomputable def Mo.out:Mo->HO | .l vs=>.lst vs | .i C dx fs=>.ins C dx fs
inductive Pt where
 |d (d:D) |o (ds:em)
abbrev er:=List Pt
inductive AK where
 |ls |ins (b:Bool) (c:Str) (fs:b2)
inductive Sl where
 |sh (d:D) |ow (ds:em) |o2 (dss:List em) |ag (k:AK) (r:Option Nat) (ps:er) |al (r j:Nat) |ro (k:AK) (ps:er)
abbrev et:=Option Sl
structure Gd where
 g:Addr->Prop
 r:Nat->cc
instance:CoeFun Gd (λ_=>Addr->Prop):=⟨Gd.g⟩
abbrev gd(g:Addr->Prop):Gd:=⟨g,λ_=>[]⟩
abbrev DE0:=List et
def Ow(G:Gd)(W:Addr->Prop):Addr->Prop:=λa=>G a/\¬W a
def Inn(K:eb)(G:Gd)(W:Addr->Prop)(H:Hp)(dss:List em)(ls:cc):Prop :=
 ls.length=dss.length/\∀(j:Nat) (ds:em) (a:Addr),dss[j]?=↑ds->ls[j]?=↑a->W a/\∃vs,H a=↑(.lst vs)/\Reps K H (Ow G W) ds vs
inductive PtsOk (K:eb) (G:Gd) (W:Addr->Prop) (H:Hp):er->cc->el->Prop
 |nil:PtsOk K G W H [] [] []
 |d {d:D} {v:V} {ps:er} {as:cc} {us:el}:Rep K H (Ow G W) d v->PtsOk K G W H ps as us->PtsOk K G W H (.d d::ps) as (v::us)
 |o {ds:em} {a:Addr} {vs:el} {ps:er} {as:cc} {us:el}:W a->H a=↑(.lst vs)->Reps K H (Ow G W) ds vs->PtsOk K G W H ps as us->PtsOk K G W H (.o ds::ps) (a::as) (.ref a::us)
inductive PtsRo (K:eb) (G:Gd) (W:Addr->Prop) (H:Hp):er->el->Prop
 |nil:PtsRo K G W H [] []
 |d {d:D} {v:V} {ps:er} {us:el}:Rep K H (Ow G W) d v->PtsRo K G W H ps us->PtsRo K G W H (.d d::ps) (v::us)
 |o {ds:em} {a:Addr} {vs:el} {ps:er} {us:el}:¬W a->H a=↑(.lst vs)->Reps K H (Ow G W) ds vs->PtsRo K G W H ps us->PtsRo K G W H (.o ds::ps) (.ref a::us)
def AkOk(K:eb)(H:Hp):AK->Addr->el->Prop
 | .ls,p,us=>H p=↑(.lst us) | .ins _ c fs,p,us=>∃C dx,PySem.W.nsIn K mainGlobals c=↑↑(.ref C)/\H p=↑(.ins C dx (fs.zip us))/\fs.length=us.length
def Lab:AK->cc->Addr->cc->Prop
 | .ins true _ _,l,p,_=>l=[p]
 |_,l,p,as=>l=p::as
inductive OwOk (K:eb) (G:Gd) (W:Addr->Prop) (H:Hp) (ds:em) (v:V):Prop
 |mk (l:Addr) (vs:el) (e:v=.ref l) (w:W l) (h:H l=↑(.lst vs)) (r:Reps K H (Ow G W) ds vs):OwOk K G W H ds v
inductive O2Ok (K:eb) (G:Gd) (W:Addr->Prop) (H:Hp) (dss:List em) (v:V):Prop
 |mk (l:Addr) (ls:cc) (e:v=.ref l) (w:W l) (h:H l=↑(.lst (ls.map V.ref))) (n:(l::ls).Nodup) (r:Inn K G W H dss ls):O2Ok K G W H dss v
inductive AgOk (K:eb) (G:Gd) (W:Addr->Prop) (H:Hp) (k:AK) (r:Option Nat) (ps:er) (v:V):Prop
 |mk (p:Addr) (as:cc) (us:el) (e:v=.ref p) (w:W p) (n:(p::as).Nodup) (l:∀n,r=↑n->Lab k (G.r n) p as) (h:AkOk K H k p us) (q:PtsOk K G W H ps as us):AgOk K G W H k r ps v
def SlOk(K:eb)(G:Gd)(W:Addr->Prop)(H:Hp):Sl->V->Prop
 | .sh d,v=>Rep K H (Ow G W) d v | .ow ds,v=>OwOk K G W H ds v | .o2 dss,v=>O2Ok K G W H dss v | .ag k r ps,v=>AgOk K G W H k r ps v | .al r j,v=>∃p as a,G.r r=p::as/\as[j]?=↑a/\v=.ref a | .ro k ps,v=>∃(p:Addr) (us:el),v=.ref p/\¬W p/\AkOk K H k p us/\PtsRo K G W H ps us
def zvs:er->el->Addr->Prop:=λps us a=>∃(j:Nat) (ds:em),ps[j]?=↑(.o ds)/\us[j]?=↑(.ref a)
def AkH(H:Hp):AK->Addr->el->Prop
 | .ls,p,us=>H p=↑(.lst us) | .ins _ _ fs,p,us=>fs.length=us.length/\∃C dx,H p=↑(.ins C dx (fs.zip us))
def Owns(H:Hp):Sl->V->Addr->Prop
 | .sh _,_,_=>False | .ow _,v,a=>v=.ref a | .o2 _,v,a=>v=.ref a\/∃(l:Addr) (ls:cc),v=.ref l/\H l=↑(.lst (ls.map V.ref))/\a∈ls
 | .ag k _ ps,v,a=>v=.ref a\/∃(p:Addr) (us:el),v=.ref p/\AkH H k p us/\zvs ps us a | .al _ _,_,_=>False | .ro _ _,_,_=>False
structure Ok (K:eb) (G:Gd) (H0:Hp) (W:Addr->Prop) (env:DE0) (σ:St) (H:Hp):Prop where
 stay:Same H0 H
 good:∀a,H0 a=none->G a
 wl:∀l,W l->H0 l=none/\∃m:Mo,H l=↑m.out
 slot:∀(i:Nat) (s:Sl),env[i]?=↑↑s->∃v,σ[i]?=↑↑v/\SlOk K G W H s v
 uniq:∀(i j:Nat) (s s':Sl) (v v':V) (a:Addr),env[i]?=↑↑s->env[j]?=↑↑s'->σ[i]?=↑↑v->σ[j]?=↑↑v'->Owns H s v a->Owns H s' v' a->i=j
 len:env.length=σ.length
variable{ls:cc}
def tv{z:cc}(h:ls.map V.ref=z.map V.ref):ls=z:=by
 induction ls generalizing z with
 |nil=>cases z with |nil=>rfl |cons b r=>cases h
 |cons a t ih=>cases z with |nil=>cases h |cons b r=>simp[List.cons.injEq,V.ref.injEq] at h;rw[h.1,ih h.2]
variable{W:Addr->Prop}{G:Gd}{as:cc}{us:el}
def PtsOk.own(h:PtsOk K G W H ps as us)(ha:a∈as):W a/\∃vs,H a=↑(.lst vs):=by
 induction h with
 |nil=>cases ha
 |d _ _ ih=>exact ih ha |o hW hl _ _ ih =>
   rcases b8.mp ha with rfl |ha
   ·exact⟨hW,_,hl⟩
   ·exact ih ha
def PtsOk.parts_iff(h:PtsOk K G W H ps as us):zvs ps us a↔a∈as:=by
 induction h with
 |nil=>exact⟨λ⟨j,ds,e,_⟩=>by simp at e,λz=>by cases z⟩
 |d _ _ ih =>
   rw[<-ih];constructor
   ·rintro⟨j,ds,I,D⟩
    cases j with
    |zero=>simp at I |succ j=>exact⟨j,ds,by simpa using I,by simpa using D⟩
   ·rintro⟨j,ds,I,D⟩
    exact⟨j+1,ds,by simpa using I,by simpa using D⟩
 |o _ _ _ _ ih =>
   rw[b8,<-ih];constructor
   ·rintro⟨j,ds,I,D⟩
    cases j with
    |zero=>simp at D;exact .inl D.symm |succ j=>exact .inr ⟨j,ds,by simpa using I,by simpa using D⟩
   ·rintro(rfl | ⟨j,ds,I,D⟩)
    ·exact⟨0,_,rfl,rfl⟩
    ·exact⟨j+1,ds,by simpa using I,by simpa using D⟩
variable{G':Gd}{W':Addr->Prop}
def PtsOk.step(h:PtsOk K G W H ps as us)(k:∀a vs,a∈as->H a=↑(.lst vs)->W' a/\H' a=↑(.lst vs))(r:∀d v,Rep K H (Ow G W) d v->Rep K H' (Ow G' W') d v)(z:∀ds vs,Reps K H (Ow G W) ds vs->Reps K H' (Ow G' W') ds vs):PtsOk K G' W' H' ps as us:=by
 induction h with
 |nil=>exact .nil |d q _ ih=>exact .d (r _ _ q) (ih k) |o hW hl q _ ih =>
   obtain⟨D,I⟩:=k _ _ au hl;exact .o D I (z _ _ q) (ih λa vs L=>k a vs (ai _ L))
def PtsRo.step(h:PtsRo K G W H ps us)(k:∀a vs,¬W a->H a=↑(.lst vs)->¬W' a/\H' a=↑(.lst vs))(r:∀d v,Rep K H (Ow G W) d v->Rep K H' (Ow G' W') d v)(z:∀ds vs,Reps K H (Ow G W) ds vs->Reps K H' (Ow G' W') ds vs):PtsRo K G' W' H' ps us:=by
 induction h with
 |nil=>exact .nil |d q _ ih=>exact .d (r _ _ q) ih |o hW hl q _ ih=>obtain⟨D,I⟩:=k _ _ hW hl;exact .o D I (z _ _ q) ih
variable{j:Nat}
def PtsRo.get(h:PtsRo K G W H ps us)(e:ps[j]?=↑(.o ds)):∃a vs,us[j]?=↑(.ref a)/\¬W a/\H a=↑(.lst vs)/\Reps K H (Ow G W) ds vs:=by
 induction h generalizing j with
 |nil=>simp at e |d _ _ ih =>
   cases j with
   |zero=>simp at e |succ j=>obtain⟨a,vs,h1,h2⟩:=ih (j:=j) (by simpa using e);exact⟨a,vs,by simpa using h1,h2⟩
 | @o _ a vs _ _ hW hl r _ ih =>
   cases j with
   |zero=>simp at e;subst e;exact⟨a,vs,rfl,hW,hl,r⟩ |succ j=>obtain⟨a,vs,h1,h2⟩:=ih (j:=j) (by simpa using e);exact⟨a,vs,by simpa using h1,h2⟩
def PtsRo.getD(h:PtsRo K G W H ps us)(e:ps[j]?=↑(.d d)):∃v,us[j]?=↑v/\Rep K H (Ow G W) d v:=by
 induction h generalizing j with
 |nil=>simp at e |d q _ ih =>
   cases j with
   |zero=>simp at e;subst e;exact⟨_,rfl,q⟩ |succ j=>obtain⟨a,h1,h2⟩:=ih (j:=j) (by simpa using e);exact⟨a,by simpa using h1,h2⟩
 |o _ _ _ _ ih =>
   cases j with
   |zero=>simp at e |succ j=>obtain⟨a,h1,h2⟩:=ih (j:=j) (by simpa using e);exact⟨a,by simpa using h1,h2⟩
variable{p:Addr}
theorem yj{k:AK}{z:el}(h:AkOk K H k p us)(h':AkH H k p z):z=us:=by
 cases k with
 |ls=>have h:H p=_:=h;have h':H p=_:=h';rw[h] at h';cases h';rfl
 |ins b c fs =>
   obtain⟨C,dx,_,D,L⟩:=h;obtain⟨S,U,I,e⟩:=h';rw[D] at e;have e:fs.zip us=fs.zip z:=by injection e with e;injection e
   have:=congrArg (List.map Prod.snd) e;rw[l6 (by lia),l6 (by lia)] at this;exact this.symm
protected def AkOk.o{K:eb}{H:Hp}{k:AK}{p:Addr}{us:el}(h:AkOk K H k p us):AkH H k p us:=by
 cases k with
 |ls=>exact h |ins b c fs=>obtain⟨C,dx,_,z,D⟩:=h;exact⟨D,C,dx,z⟩
def AkOk.mo{k:AK}(h:AkOk K H k p us):∃m:Mo,H p=↑m.out/\∀H',H' p=↑m.out->AkOk K H' k p us:=by
 cases k with
 |ls=>exact⟨.l us,h,λH' e=>e⟩ |ins b c fs=>obtain⟨C,dx,z,D,I⟩:=h;exact⟨.i C dx (fs.zip us),D,λH' e=>⟨C,dx,z,e,I⟩⟩
def SlOk.owns(h:SlOk K G W H s v)(o:Owns H s v a):W a:=by
 cases s with
 |sh d=>exact o.elim |ow ds=>obtain⟨l,vs,e,z,_⟩:=h;rw[show v=.ref a from o] at e;cases e;exact z
 |o2 dss =>
   obtain⟨l,ls,e,z,S,U,hi⟩:=h;rcases o with o | ⟨l',ls',e',hl',ha⟩
   ·rw[o] at e;cases e;exact z
   ·rw[e] at e';cases e'
    rw[S] at hl';have:=tv (by simpa using hl');subst this;obtain⟨j,I,V⟩:=List.getElem_of_mem ha;have D:j<dss.length:=by rw[<-hi.1];exact I
    exact(hi.2 j dss[j] a (by simp[D]) (by simp[I,V])).1
 |ag k r ps =>
   obtain⟨p,as,us,e,z,U,Z,Y,L⟩:=h;rcases o with o | ⟨p',us',e',hk',ha⟩
   ·rw[o] at e;cases e;exact z
   ·rw[e] at e';cases e'
    rw[yj Y hk'] at ha;exact(L.own (L.parts_iff.mp ha)).1
 |al _ _=>exact o.elim |ro _ _=>exact o.elim
def SlOk.back(h:SlOk K G W H s v)(k:∀l,v=.ref l->W l->∀m:Mo,H l=↑m.out->H' l=↑m.out)(o:Owns H' s v a):Owns H s v a:=by
 cases s with
 |sh d=>exact o.elim |ow ds=>exact o |o2 dss =>
   obtain⟨l,ls,e,z,D,L,hi⟩:=h;rcases o with o | ⟨l',ls',e',hl',ha⟩
   ·exact .inl o
   ·rw[e] at e';cases e'
    rw[k l e z (.l _) D] at hl';have:=tv (by simpa using hl');subst this;exact .inr ⟨l,ls,e,D,ha⟩
 |ag q r ps =>
   obtain⟨p,as,us,e,z,L,V,I,Y⟩:=h;rcases o with o | ⟨p',us',e',hk',ha⟩
   ·exact .inl o
   ·rw[e] at e';cases e'
    obtain⟨m,S,U⟩:=I.mo;rw[yj (U H' (k p e z m S)) hk'] at ha;exact .inr ⟨p,us,e,I.o,ha⟩
 |al _ _=>exact o.elim |ro _ _=>exact o.elim
structure Step (W:Addr->Prop) (H:Hp) (W':Addr->Prop) (H':Hp):Prop where
 keep:∀b o,H b=↑o->¬W b->H' b=↑o
 ws:∀l,W' l->W l\/H l=none
def Step.refl:Step W H W H:=⟨λ_ _ e _=>e,λ_ h=>.inl h⟩
def Step.trans{W1 D:Addr->Prop}(a:Step W H W1 H1)(b:Step W1 H1 D H2):Step W H D H2 where
 keep:=λc o e n=>b.keep c o (a.keep c o e n) λz=>(a.ws c z).elim n λq=>by rw[q] at e;cases e
 ws:=λl h=>by
  rcases b.ws l h with z |z
  ·exact a.ws l z
  ·by_cases n:W l
   ·exact .inl n
   ·cases e:H l with
    |none=>exact .inr rfl |some o=>rw[a.keep l o e n] at z;cases z
def Step.same(h:Same H H'):Step W H W H':=⟨λb o e _=>h b o e,λ_ h=>.inl h⟩
variable{env:DE0}{H0:Hp}
def Ok.wkeep(ok:Ok K G H0 W env σ H)(st:Step W H W' H'):∀b o,H b=↑o->(∀m:Mo,o≠m.out)->H' b=↑o:=λb o e n =>
 st.keep b o e λz=>by obtain⟨_,m,q⟩:=ok.wl b z;rw[e] at q;exact n m (ay q)
def Rd.keep{u:HO}(h:Rd H a u)(k:∀o,H a=↑o->H' a=↑o):Rd H' a u:=by
 rcases h with h | ⟨o,h⟩
 ·exact .inl (k _ h)
 ·exact .inr ⟨o,k _ h⟩
def Ok.tstep(ok:Ok K G H0 W env σ H)(st:Step W H W' H'):∀a vs,H a=↑(.tup vs)->H' a=↑(.tup vs):=λ_ _ h=>ok.wkeep st _ _ h λm z=>by cases m <;> cases z
def Ok.istep(ok:Ok K G H0 W env σ H)(st:Step W H W' H'):∀a (u:Im),H a=↑u.out->H' a=↑u.out:=λ_ u h=>ok.wkeep st _ _ h λm z=>by cases u <;> cases m <;> cases z
def Ok.lstep(ok:Ok K G H0 W env σ H)(st:Step W H W' H'):∀a vs,Ow G W a->Rd H a (.lst vs)->Ow G W' a/\Rd H' a (.lst vs):=λa vs o h=>by
 refine⟨⟨o.1,λz=>?_⟩,h.keep λu e=>st.keep a u e o.2⟩;rcases st.ws a z with q |q
 ·exact o.2 q
 ·rcases h with h | ⟨_,h⟩ <;> rw[q] at h <;> cases h
def Ok.lsstep(ok:Ok K G H0 W env σ H)(st:Step W H W' H')(h:LsOk K H (Ow G W) a vs):LsOk K H' (Ow G W') a vs:=h.elim (λz=>.inl (ok.lstep st a vs z.1 z.2)) .inr
def Ok.rep(ok:Ok K G H0 W env σ H)(st:Step W H W' H')(r:Rep K H (Ow G W) d v):Rep K H' (Ow G W') d v:=r.mono (ok.istep st) (ok.lstep st)
def Ok.reps(ok:Ok K G H0 W env σ H)(st:Step W H W' H'){d:em}{v:el}(r:Reps K H (Ow G W) d v):Reps K H' (Ow G W') d v:=r.mono (ok.istep st) (ok.lstep st)
variable{dss:List em}
def Inn.step(h:Inn K G W H dss ls)(k:∀a vs,W a->a∈ls->H a=↑(.lst vs)->H' a=↑(.lst vs))(w:∀a,W a->a∈ls->W' a)(r:∀ds vs,Reps K H (Ow G W) ds vs->Reps K H' (Ow G W') ds vs):Inn K G W' H' dss ls :=
 ⟨h.1,λj ds a I z=>by
  obtain⟨D,vs,L,S⟩:=h.2 j ds a I z;exact⟨w a D (bn z),vs,k a vs D (bn z) L,r ds vs S⟩⟩
def Ok.slstep(ok:Ok K G H0 W env σ H)(st:Step W H W' H')(h:SlOk K G W H s v)(k:∀a (m:Mo),Owns H s v a->H a=↑m.out->W' a/\H' a=↑m.out):SlOk K G W' H' s v:=by
 cases s with
 |sh d=>exact ok.rep st h |ow ds =>
   obtain⟨l,vs,e,I,S,r⟩:=h;obtain⟨h1,h2⟩:=k l (.l vs) e S;exact⟨l,vs,e,h1,h2,ok.reps st r⟩
 |o2 dss =>
   obtain⟨l,ls,e,I,S,Z,hi⟩:=h;obtain⟨h1,h2⟩:=k l (.l _) (.inl e) S;have g:∀a vs,a∈ls->H a=↑(.lst vs)->W' a/\H' a=↑(.lst vs):=λa vs L D=>k a (.l vs) (.inr ⟨l,ls,e,S,L⟩) D;refine⟨l,ls,e,h1,h2,Z,hi.1,λj ds a i D=>?_⟩;obtain⟨_,vs,L,t⟩:=hi.2 j ds a i D;obtain⟨u,w⟩:=g a vs (bn D) L;exact⟨u,vs,w,ok.reps st t⟩
 |ag q r ps =>
   obtain⟨p,as,us,e,I,Z,x,U,V⟩:=h;obtain⟨m,Y,b⟩:=U.mo;obtain⟨h1,h2⟩:=k p m (.inl e) Y;exact⟨p,as,us,e,h1,Z,x,b H' h2,V.step (λa vs L D=>k a (.l vs) (.inr ⟨p,us,e,U.o,V.parts_iff.mpr L⟩) D) (λ_ _ r=>ok.rep st r) λ_ _ r=>ok.reps st r⟩
 |al _ _=>exact h |ro q ps =>
   obtain⟨p,us,e,I,U,V⟩:=h;have c:∀a o,¬W a->H a=↑o->¬W' a:=λa o n e z=>(st.ws a z).elim n λy=>by rw[y] at e;cases e
   obtain⟨m,Y,b⟩:=U.mo;exact⟨p,us,e,c p _ I Y,b H' (st.keep p _ Y I),V.step (λa vs f D=>⟨c a _ f D,st.keep a _ D f⟩) (λ_ _ r=>ok.rep st r) λ_ _ r=>ok.reps st r⟩
def Ok.same(ok:Ok K G H0 W env σ H)(s:Same H H'):Ok K G H0 W env σ H':=by
 have st:Step W H W H':=Step.same s;have bk:∀ {i:Nat} {z:Sl} {v:V} {a:Addr},env[i]?=↑↑z->σ[i]?=↑↑v->Owns H' z v a->Owns H z v a:=λ{i z v a} e I o=>by
  obtain⟨d,D,h⟩:=ok.slot i z e;rw[I] at D;cases D;exact h.back (λl _ _ vs q=>s l _ q) o
 refine⟨ok.stay.trans s,ok.good,λl h=>?_,λi z e=>?_,λi j U s2 Y v2 a I D L S Z c=>ok.uniq i j U s2 Y v2 a I D L S (bk I L Z) (bk D S c),ok.len⟩
 ·obtain⟨a,vs,b⟩:=ok.wl l h
  exact⟨a,vs,s _ _ b⟩
 ·obtain⟨v,I,h⟩:=ok.slot i z e
  exact⟨v,I,ok.slstep st h λa vs o D=>⟨h.owns o,s _ _ D⟩⟩
def tu{o:HO}(h:H a=none):Same H (upd H a o):=λb u e=>by rw[h9 (lq e h)];exact e
def addW(W:Addr->Prop)(l:Addr):Addr->Prop:=λa=>W a\/a=l
def Ok.fresh0(ok:Ok K G H0 W env σ H)(s:Same H H')(D:H l=none)(I:H' l=↑(.lst vs)) :
  ¬W l/\H0 l=none/\Ok K G H0 (addW W l) env σ H'/\Step W H (addW W l) H':=by
 have S:H0 l=none:=ok.stay.free D;have U:¬W l:=λz=>by obtain⟨_,vs,q⟩:=ok.wl l z;rw[D] at q;cases q
 have st:Step W H (addW W l) H':=⟨λb o e _=>s b o e,λa z=>z.elim .inl λq=>.inr (by rw[q];exact D)⟩;have L:=ok.same s;refine⟨U,S,⟨ok.stay.trans s,ok.good,λa z=>?_,λi V e=>?_,L.uniq,ok.len⟩,st⟩
 ·rcases z with z |rfl
  ·obtain⟨q,us,b⟩:=ok.wl a z
   exact⟨q,us,s _ _ b⟩
  ·exact⟨S,.l vs,I⟩
 ·obtain⟨v,Y,h⟩:=ok.slot i V e
  exact⟨v,Y,ok.slstep st h λa vs o Z=>⟨.inl (h.owns o),s _ _ Z⟩⟩
def Ok.fresh(ok:Ok K G H0 W env σ H)(s:Same H H')(D:H l=none)(I:H' l=↑(.lst vs))(r:Reps K H' (λa=>(Ow G W a\/H a=none)/\a≠l) ds vs) :
  ¬W l/\H0 l=none/\Ok K G H0 (addW W l) env σ H'/\Reps K H' (Ow G (addW W l)) ds vs/\Step W H (addW W l) H':=by
 have S:H0 l=none:=ok.stay.free D;have U:¬W l:=λz=>by obtain⟨_,vs,q⟩:=ok.wl l z;rw[D] at q;cases q
 have st:Step W H (addW W l) H':=⟨λb o e _=>s b o e,λa z=>z.elim .inl λq=>.inr (by rw[q];exact D)⟩;have V:∀a,W a->H a≠none:=λa z q=>by obtain⟨_,vs,e⟩:=ok.wl a z;rw[q] at e;cases e
 have L:=ok.same s;refine⟨U,S,⟨ok.stay.trans s,ok.good,λa z=>?_,λi Y e=>?_,L.uniq,ok.len⟩,r.mono (λ_ _ h=>h) λa us o h=>⟨⟨?_,?_⟩,h⟩,st⟩
 ·rcases z with z |rfl
  ·obtain⟨q,us,b⟩:=ok.wl a z
   exact⟨q,us,s _ _ b⟩
  ·exact⟨S,.l vs,I⟩
 ·obtain⟨v,Z,h⟩:=ok.slot i Y e
  exact⟨v,Z,ok.slstep st h λa vs o c=>⟨.inl (h.owns o),s _ _ c⟩⟩
 ·rcases o.1 with q |q
  ·exact q.1
  ·exact ok.good a (ok.stay.free q)
 ·rintro(z |z)
  ·rcases o.1 with q |q
   ·exact q.2 z
   ·exact V a z q
  ·exact o.2 z
def Ok.noOwn(ok:Ok K G H0 W env σ H)(D:¬W l):∀(j:Nat) (s:Sl) (v:V),env[j]?=↑↑s->σ[j]?=↑↑v->¬Owns H s v l:=λj s v e I o=>by
 obtain⟨L,z,h⟩:=ok.slot j s e;rw[I] at z;cases z;exact D (h.owns o)
variable{α:Type}
def zps{N:List α}(z:N.Nodup){x:α}(a:N[i]?=↑x)(b:N[j]?=↑x):i=j:=by
 obtain⟨h1,D⟩:=aq.mp a;obtain⟨h2,I⟩:=aq.mp b;exact(List.getElem_inj z).mp (D.trans I.symm)
theorem nk{xs:List α}{x y:α}(h:(xs.set i x)[j]?=↑y):(i=j/\y=x/\i<xs.length)\/(i≠j/\xs[j]?=↑y):=by
 by_cases z:i=j
 ·subst z
  by_cases hi:i<xs.length
  ·rw[fb hi] at h;cases h;exact .inl ⟨rfl,rfl,hi⟩
  ·rw[ca (by rw[dy];lia)] at h;cases h
 ·rw[d4 z] at h;exact .inr ⟨z,h⟩
def Ok.put(ok:Ok K G H0 W env σ H)(h:SlOk K G W H s v)(Z:∀(j:Nat) (s':Sl) (b:V) (a:Addr),env[j]?=↑↑s'->σ[j]?=↑↑b->Owns H s v a->¬Owns H s' b a) :
  Ok K G H0 W (env.set i ↑s) (σ.set i ↑v) H:=by
 refine⟨ok.stay,ok.good,ok.wl,λj f e=>?_,λj k c s2 d v2 a S g z D U Y=>?_,by rw[dy,dy,ok.len]⟩
 ·rcases nk e with⟨rfl,q,hi⟩ | ⟨hj,q⟩
  ·cases q
   exact⟨v,fb (by rw[<-ok.len];exact hi),h⟩
  ·obtain⟨u,S,r⟩:=ok.slot j f q
   exact⟨u,by rw[d4 hj];exact S,r⟩
 ·rcases nk S with⟨a1,b1,c1⟩ | ⟨a1,b1⟩ <;> rcases nk g with⟨I,L,l⟩ | ⟨I,L⟩
  ·rw[<-a1,<-I]
  ·subst a1
   cases b1;rw[fb (by rw[<-ok.len];exact c1)] at z;cases z;rw[d4 I] at D;exact absurd Y (Z k s2 v2 a L D U)
  ·subst I
   cases L;rw[fb (by rw[<-ok.len];exact l)] at D;cases D;rw[d4 a1] at z;exact absurd U (Z j c d a b1 z Y)
  ·rw[d4 a1] at z
   rw[d4 I] at D;exact ok.uniq j k c s2 d v2 a b1 L z D U Y
def Ok.set(ok:Ok K G H0 W env σ H)(r:Rep K H (Ow G W) d v):Ok K G H0 W (env.set i ↑(.sh d)) (σ.set i ↑v) H :=
 ok.put (s:=.sh d) r λ_ _ _ _ _ _ o=>o.elim
def Ok.setO(ok:Ok K G H0 W env σ H)(z:W l)(D:H l=↑(.lst vs))(r:Reps K H (Ow G W) ds vs)(I:∀(j:Nat) (s:Sl) (v:V),env[j]?=↑↑s->σ[j]?=↑↑v->¬Owns H s v l) :
  Ok K G H0 W (env.set i ↑(.ow ds)) (σ.set i ↑(.ref l)) H :=
 ok.put (s:=.ow ds) ⟨l,vs,rfl,z,D,r⟩ λj s' L a e S o=>by
  have:l=a:=by have o:V.ref l=V.ref a:=o;simpa using o
  subst this;exact I j s' L e S
def Ok.let(ok:Ok K G H0 W env σ H)(e:env[i]?=↑↑s)(V:σ[i]?=↑↑v)(W':Addr->Prop)(I:∀a,W' a↔W a/\¬Owns H s v a)(r:Rep K H (Ow G W') d v) :
  Step W H W' H/\Ok K G H0 W' (env.set i ↑(.sh d)) σ H:=by
 have st:Step W H W' H:=⟨λb o q _=>q,λa z=>.inl ((I a).mp z).1⟩;refine⟨st,⟨ok.stay,ok.good,λa z=>ok.wl a ((I a).mp z).1,λj Y q=>?_,λj k g s2 l v2 a m L n p Z c=>?_,by rw[dy,ok.len]⟩⟩
 ·rcases nk q with⟨rfl,D,_⟩ | ⟨hj,D⟩
  ·cases D
   exact⟨v,V,r⟩
  ·obtain⟨u,f,h⟩:=ok.slot j Y D
   exact⟨u,f,ok.slstep st h λa vs o L=>⟨(I a).mpr ⟨h.owns o,λz=>hj (ok.uniq i j s Y v u a e D V f z o)⟩,L⟩⟩
 ·rcases nk m with⟨_,S,_⟩ | ⟨a1,S⟩
  ·cases S;exact Z.elim
  ·rcases nk L with⟨_,U,_⟩ | ⟨a2,U⟩
   ·cases U;exact c.elim
   ·exact ok.uniq j k g s2 l v2 a S U n p Z c
def Ok.share(ok:Ok K G H0 W env σ H)(e:env[i]?=↑↑(.ow ds)) :
  ∃W' v,σ[i]?=↑↑v/\Step W H W' H/\Ok K G H0 W' (env.set i ↑(.sh (.lst ds))) σ H/\Rep K H (Ow G W') (.lst ds) v:=by
 obtain⟨v,I,l,vs,rfl,S,U,r⟩:=ok.slot i _ e;have L:Rep K H (Ow G λa=>W a/\¬Owns H (.ow ds) (.ref l) a) (.lst ds) (.ref l) :=
  .lst ⟨ok.good l (ok.wl l S).1,λz=>z.2 rfl⟩ (.inl U) (r.mono (λ_ _ h=>h) λa us o h=>⟨⟨o.1,λz=>o.2 z.1⟩,h⟩)
 obtain⟨st,D⟩:=ok.let e I _ (λa=>Iff.rfl) L;exact⟨_,.ref l,I,st,D,L⟩
def zk9:∀ {dss:List em} {ls:cc},Inn K G W H dss ls->(∀a,a∈ls->W a->G a/\¬W' a)->(∀ds vs,Reps K H (Ow G W) ds vs->Reps K H (Ow G W') ds vs)->Reps K H (Ow G W') (dss.map D.lst) (ls.map V.ref)
 | [],[],_,_,_=>.nil |ds::dss,a::ls,h,g,r=>by
   obtain⟨L,vs,S,U⟩:=h.2 0 ds a rfl rfl;refine .cons (.lst (g a au L) (.inl S) (r _ _ U)) (zk9 (dss:=dss) (ls:=ls) ⟨k5 h.1,λj ds' z Y Z=>h.2 (j+1) ds' z (by simpa using Y) (by simpa using Z)⟩ (λz I=>g z (ai _ I)) r)
def Ok.share2(ok:Ok K G H0 W env σ H)(e:env[i]?=↑↑(.o2 dss)) :
  ∃W' v,σ[i]?=↑↑v/\Step W H W' H/\Ok K G H0 W' (env.set i ↑(.sh (.lst (dss.map D.lst)))) σ H/\Rep K H (Ow G W') (.lst (dss.map D.lst)) v:=by
 obtain⟨v,L,l,ls,rfl,V,S,b,hi⟩:=ok.slot i _ e;have U:Rep K H (Ow G λa=>W a/\¬Owns H (.o2 dss) (.ref l) a) (.lst (dss.map D.lst)) (.ref l) :=
  .lst ⟨ok.good l (ok.wl l V).1,λz=>z.2 (.inl rfl)⟩ (.inl S) (zk9 hi (λa Y Z=>⟨ok.good a (ok.wl a Z).1,λz=>z.2 (.inr ⟨l,ls,rfl,S,Y⟩)⟩) λds vs r=>r.mono (λ_ _ h=>h) λa us o h=>⟨⟨o.1,λz=>o.2 z.1⟩,h⟩)
 obtain⟨st,I⟩:=ok.let e L _ (λa=>Iff.rfl) U;exact⟨_,.ref l,L,st,I,U⟩
def Ok.chg(ok:Ok K G H0 W env σ H){s':Sl}(S:Mo)(e:env[i]?=↑↑s)(r:σ[i]?=↑↑v)(x:Owns H s v a)(y:SlOk K G W (upd H a S.out) s' v)(t:∀b,Owns (upd H a S.out) s' v b->Owns H s v b):Ok K G H0 W (env.set i ↑s') σ (upd H a S.out)/\Step W H W (upd H a S.out):=by
 have c:W a:=by obtain⟨O,f,h⟩:=ok.slot i s e;rw[r] at f;cases f;exact h.owns x
 have st:Step W H W (upd H a S.out):=⟨λb o q n=>by rw[h9 (λz:b=a=>n (by rw[z];exact c))];exact q,λb z=>.inl z⟩;have w:∀ {j:Nat} {D:Sl} {u:V} {b:Addr},i≠j->env[j]?=↑↑D->σ[j]?=↑↑u->Owns H D u b->b≠a:=λ{j D u b} hj q I o z=>by
  subst z;exact hj (ok.uniq i j s D v u b e q r I x o)
 have bk:∀ {j:Nat} {D:Sl} {u:V} {b:Addr},i≠j->env[j]?=↑↑D->σ[j]?=↑↑u->Owns (upd H a S.out) D u b->Owns H D u b:=λ{j D u b} hj q I o=>by
  obtain⟨P,U,h⟩:=ok.slot j D q;rw[I] at U;cases U;cases D with
  |sh d=>exact o.elim |ow ds=>exact o |o2 dss=>exact h.back (λl Y _ vs Z=>by rw[h9 (w hj q I (.inl Y))];exact Z) o |ag k p ps=>exact h.back (λl Y _ vs Z=>by rw[h9 (w hj q I (.inl Y))];exact Z) o |al _ _=>exact o.elim |ro _ _=>exact o.elim
 refine⟨⟨λb o q=>?_,ok.good,λb z=>?_,λj D q=>?_,λj k Q s2 A v2 b I U Y Z B o2=>?_,by rw[dy,ok.len]⟩,st⟩
 ·rw[h9 (λz=>by rw[z,(ok.wl a c).1] at q;cases q)];exact ok.stay b o q
 ·obtain⟨q,us,t⟩:=ok.wl b z
  by_cases h:b=a
  ·exact⟨q,S,by rw[h,ko]⟩
  ·exact⟨q,us,by rw[h9 h];exact t⟩
 ·rcases nk q with⟨rfl,L,_⟩ | ⟨hj,L⟩
  ·cases L
   exact⟨v,r,y⟩
  ·obtain⟨u,f,h⟩:=ok.slot j D L
   exact⟨u,f,ok.slstep st h λb vs o U=>⟨h.owns o,by rw[h9 (w hj L f o)];exact U⟩⟩
 ·have back:∀ {m:Nat} {D:Sl} {u:V},(env.set i ↑s')[m]?=↑↑D->σ[m]?=↑↑u->Owns (upd H a S.out) D u b->∃g,env[m]?=↑↑g/\Owns H g u b:=λ{m D u} q I o=>by
   rcases nk q with⟨rfl,L,_⟩ | ⟨hj,L⟩
   ·cases L
    rw[r] at I;cases I;exact⟨s,e,t b o⟩
   ·exact⟨D,L,bk hj L I o⟩
  obtain⟨C,E,F⟩:=back I Y B;obtain⟨J,M,N⟩:=back U Z o2;exact ok.uniq j k C J A v2 b E M Y Z F N
variable{ds':em}{vs':el}
def Ok.turn(ok:Ok K G H0 W env σ H)(e:env[i]?=↑↑(.ow ds))(I:σ[i]?=↑↑(.ref l))(r:Reps K H (Ow G W) ds' vs') :
  Ok K G H0 W (env.set i ↑(.ow ds')) σ (upd H l (.lst vs'))/\Step W H W (upd H l (.lst vs')):=by
 obtain⟨v,D,S,vs,rfl,L,U,_⟩:=ok.slot i _ e;rw[I] at D;cases D;have st:Step W H W (upd H l (.lst vs')):=⟨λb o q n=>by rw[h9 (λz:b=l=>n (by rw[z];exact L))];exact q,λb z=>.inl z⟩;exact ok.chg (.l vs') e I (show Owns H (.ow ds) (.ref l) l from rfl) ⟨l,vs',rfl,L,ko,ok.reps st r⟩ λb o=>o
def Ok.turn2(ok:Ok K G H0 W env σ H)(e:env[i]?=↑↑(.o2 dss))(p:σ[i]?=↑↑(.ref l))(U:H l=↑(.lst (ls.map V.ref)))(t:dss[j]?=↑ds)(Y:ls[j]?=↑a)(r:Reps K H (Ow G W) ds' vs'):Ok K G H0 W (env.set i ↑(.o2 (dss.set j ds'))) σ (upd H a (.lst vs'))/\Step W H W (upd H a (.lst vs')):=by
 obtain⟨v,D,u,c,rfl,w,I,d,hi⟩:=ok.slot i _ e;rw[p] at D;cases D;rw[U] at I;have:=tv (by simpa using I);subst this;have s:a∈ls:=bn Y;have L:W a:=(hi.2 j ds a t Y).1;have st:Step W H W (upd H a (.lst vs')):=⟨λb o q n=>by rw[h9 (λz:b=a=>n (by rw[z];exact L))];exact q,λb z=>.inl z⟩;have f:l≠a:=λz=>by subst z;exact(ee.mp d).1 s
 have S:upd H a (.lst vs') l=↑(.lst (ls.map V.ref)):=by rw[h9 f];exact U
 refine ok.chg (.l vs') e p (.inr ⟨l,ls,rfl,U,s⟩) ⟨l,ls,rfl,w,S,d,by rw[dy];exact hi.1,λk es b x Z=>?_⟩ λb o=>?_
 ·rcases nk x with⟨rfl,z,_⟩ | ⟨hk,q'⟩
  ·cases z
   rw[Y] at Z;cases Z;exact⟨L,vs',ko,ok.reps st r⟩
  ·obtain⟨g,us,h,y⟩:=hi.2 k es b q' Z
   refine⟨g,us,?_,ok.reps st y⟩;have m:b≠a:=λz=>hk (by
    subst z;exact zps (ee.mp d).2 Y Z)
   rw[h9 m];exact h
 ·rcases o with o | ⟨u,c,z,q,h⟩
  ·exact .inl o
  ·cases z
   rw[S] at q;have:=tv (by simpa using q);subst this;exact .inr ⟨l,ls,rfl,U,h⟩
def PtsOk.get(h:PtsOk K G W H ps as us)(e:ps[j]?=↑(.o ds)):∃a vs,us[j]?=↑(.ref a)/\a∈as/\W a/\H a=↑(.lst vs)/\Reps K H (Ow G W) ds vs:=by
 induction h generalizing j with
 |nil=>simp at e |d _ _ ih =>
   cases j with
   |zero=>simp at e |succ j=>obtain⟨a,vs,h1,h2⟩:=ih (j:=j) (by simpa using e);exact⟨a,vs,by simpa using h1,h2⟩
 | @o _ a vs _ _ _ hW hl r _ ih =>
   cases j with
   |zero=>simp at e;subst e;exact⟨a,vs,rfl,au,hW,hl,r⟩ |succ j=>obtain⟨a,vs,h1,h2,z⟩:=ih (j:=j) (by simpa using e);exact⟨a,vs,by simpa using h1,ai _ h2,z⟩
def PtsOk.getD(h:PtsOk K G W H ps as us)(e:ps[j]?=↑(.d d)):∃v,us[j]?=↑v/\Rep K H (Ow G W) d v:=by
 induction h generalizing j with
 |nil=>simp at e |d q _ ih =>
   cases j with
   |zero=>simp at e;subst e;exact⟨_,rfl,q⟩ |succ j=>obtain⟨a,h1,h2⟩:=ih (j:=j) (by simpa using e);exact⟨a,by simpa using h1,h2⟩
 |o _ _ _ _ ih =>
   cases j with
   |zero=>simp at e |succ j=>obtain⟨a,h1,h2⟩:=ih (j:=j) (by simpa using e);exact⟨a,by simpa using h1,h2⟩
def PtsOk.set(st:Step W H W (upd H a (.lst vs')))(ok:Ok K G H0 W env σ H)(h:PtsOk K G W H ps as us)(I:as.Nodup)(e:ps[j]?=↑(.o ds))(D:us[j]?=↑(.ref a))(r:Reps K H (Ow G W) ds' vs') :
  PtsOk K G W (upd H a (.lst vs')) (ps.set j (.o ds')) as us:=by
 induction h generalizing j with
 |nil=>simp at e |d q t ih =>
   cases j with
   |zero=>simp at e |succ j=>exact .d (ok.rep st q) (ih I (by simpa using e) (by simpa using D))
 | @o es b vs ps' as' us' hW hl q t ih =>
   cases j with
   |zero =>
     simp at D;subst D;refine .o hW ko (ok.reps st r) (t.step (λb vs L D=>⟨(t.own L).1,?_⟩) (λ_ _ r=>ok.rep st r) λ_ _ r=>ok.reps st r);rw[h9 (λz:b=_=>by subst z;exact(ee.mp I).1 L)];exact D
   |succ j =>
     have S:a∈as':=t.parts_iff.mp ⟨j,ds,e,D⟩;have U:b≠a:=λz=>by subst z;exact(ee.mp I).1 S
     exact .o hW (by rw[h9 U];exact hl) (ok.reps st q) (ih (ee.mp I).2 e D)
structure At (X:Cx) (i:Nat) (x:Str):Prop where
 n:X.N[i]?=↑x
 v:Vis X.env.scope x
 d:(x==("__debug__" : Str))=false
 c:(x==("__classdict__" : Str))=false
def At.pe(h:At X i x):PE X (.Name x pos) (tVar i):=zur h.n h.v h.d h.c
structure To (X:Cx) (i:Nat) (x:Str):Prop where
 nd:X.N.Nodup
 n:X.N[i]?=↑x
 l:Loc X.env.scope x
 f:X.fn x=true\/X.env.scope.names.lookup x=some .local
structure Bn (X:Cx) (x:Str):Prop where
 g:Gl X x
 m:X.mg x=none
structure Ats (N cs:b2) (X:Cx):Prop where
 n:X.N=N
 get:∀i x,N[i]?=↑x->At X i x
 ck:∀u∈cs,X.env.kindOf u=some .cell\/X.env.kindOf u=some .free
structure Tos (N:b2) (X:Cx):Prop where
 to:∀i x,N[i]?=↑x->To X i x
variable{cs:b2}
protected def Ats.a(h:Ats N cs X)(e:N[i]?=↑x):At X i x:=h.get i x e
protected def Tos.t(h:Tos N X)(e:N[i]?=↑x):To X i x:=h.to i x e
def Ats.nox(h:Ats N cs X):Ats N cs X.nox:=⟨h.n,λi x e=>let z:=h.get i x e;⟨z.n,z.v,z.d,z.c⟩,h.ck⟩
def Tos.nox(h:Tos N X):Tos N X.nox:=⟨λi x e=>let z:=h.to i x e;⟨z.nd,z.n,z.l,z.f⟩⟩
def okN(x:Str):Bool:=!(x==("__debug__" : Str)) && !(x==("__classdict__" : Str))
def qt(h:okN x=true):(x==("__debug__" : Str))=false/\(x==("__classdict__" : Str))=false:=by
 unfold okN at h;rwa [fm,lc,lc] at h
def oq{o:Option NameKind}{k:NameKind}(h:(o==↑k)=true):o=↑k:=by
 cases o with
 |none=>cases h
 |some a=>cases a <;> cases k <;> first |rfl |cases h
def subN(N:b2)(ix:cd):b2:=ix.map λi=>N.getD i ("" : Str)
def om(N cs:b2)(ix:cd)(y:Str)(sc:Scope):Bool:=decide ((y::subN N ix).Nodup) && decide (sc.kind=.function) && (sc.names.lookup y==some .local) && decide (∀z∈sc.names,z.2≠.cell) && decide (∀z∈sc.names,z.2=.local->sc.names.lookup z.1=some .local) && decide (∀z∈sc.names,z.2=.free->z.1∈subN N ix) && (subN N ix).all (λu=>(sc.names.lookup u==some .free) && cs.elem u) && (y::subN N ix).all okN
def gl_d(h:X.env.scope.names.lookup x=some .globalImplicit):Gl X x:=h
variable{s:Shared}
def zvt(h:sc.names.lookup x=some .local):Vis (ju X y N' sc cl C s H fp).env.scope x:=.inl (lookup_relabel_local h)
def zvu(h:sc.names.lookup x=some .free):Vis (ju X y N' sc cl C s H fp).env.scope x:=.inr (xa h)
def vf(hA:Ats N cs X)(h:om N cs ix y sc=true):yk X y (subN N ix) ix sc:=by
 unfold om at h;simp only[fm,decide_eq_true_eq,fj] at h;obtain⟨⟨⟨⟨⟨⟨⟨h1,h2⟩,I⟩,L⟩,S⟩,U⟩,D⟩,_⟩:=h;exact⟨by rw[hA.n];rfl,h1,h2,oq I,L,S,λz V Y=>hA.ck z.1 (List.mem_of_elem_eq_true (D z.1 (U z V Y)).2),λu Z=>oq (D u Z).1⟩
def vn(h:om N cs ix y sc=true):Ats (y::subN N ix) (subN N ix) (ju X y (subN N ix) sc cl C s₂ H₂ fp):=by
 unfold om at h;simp only[fm,decide_eq_true_eq,fj] at h;obtain⟨⟨⟨⟨⟨⟨⟨h1,h2⟩,I⟩,S⟩,U⟩,V⟩,z⟩,D⟩:=h;refine⟨rfl,λi x e=>⟨e,?_,(qt (D x (bn e))).1,(qt (D x (bn e))).2⟩,λu L=>?_⟩
 ·rcases b8.mp (bn e) with rfl |hm
  ·exact zvt (oq I)
  ·exact zvu (oq (z x hm).1)
 ·exact xa (env:=X.env) (oq (z u L).1)
abbrev FE:=DE0->Option (D×DE0)
abbrev FT:=DE0->Option (Bool×DE0)
abbrev FA:=DE0->Option (em×DE0)
inductive DP (K:eb) (G:Gd) (H0:Hp) {β:Type} (f:DE0->Option (β×DE0)) (P:(Addr->Prop)->DE0->β->DE0->Prop) (σ:St) (H:Hp):Prop
 |mk (W:Addr->Prop) (env:DE0) (d:β) (env':DE0) (ok:Ok K G H0 W env σ H) (q:f env=↑(d,env')) (k:P W env d env'):DP K G H0 f P σ H
def tD(K:eb)(G:Gd)(H0:Hp)(f:FE):TE:=λσ H Q=>DP K G H0 f (λW env d env' =>
 ∀W' v H',Step W H W' H'->Ok K G H0 W' env' σ H'->Rep K H' (Ow G W') d v->Q v H') σ H
def tDT(K:eb)(G:Gd)(H0:Hp)(f:FT):TT:=λσ H Q=>DP K G H0 f (λW env b env' =>
 ∀W' H',Step W H W' H'->Ok K G H0 W' env' σ H'->Q b H') σ H
def tDA(K:eb)(G:Gd)(H0:Hp)(f:FA):TA:=λσ H Q=>DP K G H0 f (λW env ds env' =>
 ∀W' vs H',Step W H W' H'->Ok K G H0 W' env' σ H'->Reps K H' (Ow G W') ds vs->Q vs H') σ H
def tDF(K:eb)(G:Gd)(H0:Hp)(f:FA):TE:=λσ H Q=>DP K G H0 f (λW env ds env' =>
 ∀W' l vs H',Step W H (addW W' l) H'->Ok K G H0 W' env' σ H'->Ok K G H0 (addW W' l) env' σ H'->¬W' l->H' l=↑(.lst vs)->Reps K H' (Ow G (addW W' l)) ds vs->Q (.ref l) H') σ H
structure DEx (X:Cx) (G:Gd) (H0:Hp) (e:Expr) (f:FE):Prop where
 out:PE X e (tD X.K G H0 f)
structure DTx (X:Cx) (G:Gd) (H0:Hp) (e:Expr) (f:FT):Prop where
 out:PT X e (tDT X.K G H0 f)
structure DAx (X:Cx) (G:Gd) (H0:Hp) (es:da) (f:FA):Prop where
 out:PA X es (tDA X.K G H0 f)
structure DFx (X:Cx) (G:Gd) (H0:Hp) (e:Expr) (f:FA):Prop where
 out:PE X e (tDF X.K G H0 f)
variable{e:Expr}{t:TE}{t':TT}
def PE.imp{t':TE}(h:PE X e t)(i:∀σ H Q,t' σ H Q->t σ H Q):PE X e t':=λpins s σ H Q I q=>h pins s σ H Q I (i σ H Q q)
def PT.imp{t:TT}(h:PT X e t)(i:∀σ H Q,t' σ H Q->t σ H Q):PT X e t':=λpins s σ H Q I q=>h pins s σ H Q I (i σ H Q q)
def PA.imp{e:da}{t t':TA}(h:PA X e t)(i:∀σ H Q,t' σ H Q->t σ H Q):PA X e t':=λpos pins s σ H Q I q=>h pos pins s σ H Q I (i σ H Q q)
@[simp] def fVar(i:Nat):FE:=λe=>match e[i]? with
 |some ↑(.sh d)=>↑(d,e) |some ↑(.ow ds)=>↑(.lst ds,e.set i ↑(.sh (.lst ds)))
 |some ↑(.o2 dss)=>↑(.lst (dss.map D.lst),e.set i ↑(.sh (.lst (dss.map D.lst))))
 |_=>none
@[simp] def fC(d:D):FE:=λe=>↑(d,e)
@[simp] def fBin(op:D->D->ep)(f g:FE):FE:=λe=>(f e).bind λr=>(g r.2).bind λq=>(op r.1 q.1).map λd=>(d,q.2)
@[simp] def fUn(op:D->ep)(f:FE):FE:=λe=>(f e).bind λr=>(op r.1).map λd=>(d,r.2)
@[simp] def fAnd(f g:FT):FT:=λe=>(f e).bind λr=>if r.1=true then g r.2 else ↑(false,r.2)
@[simp] def fOr(f g:FT):FT:=λe=>(f e).bind λr=>if r.1=true then ↑(true,r.2) else g r.2
@[simp] def fNot(f:FT):FT:=λe=>(f e).map λr=>(!r.1,r.2)
@[simp] def fTst(f:FE):FT:=λe=>(f e).bind λr=>match r.1 with | .bl b=>↑(b,r.2) |_=>none
@[simp] def ql(f g:FE):FE:=λe=>(f e).bind λr=>match r.1 with | .bl true=>g r.2 | .bl false=>↑(.bl false,r.2) |_=>none
@[simp] def xv(f:FE):FE:=λe=>(f e).bind λr=>match r.1 with | .bl b=>↑(.bl (!b),r.2) |_=>none
@[simp] def fNil:FA:=λe=>↑([],e)
@[simp] def bx(f:FE)(g:FA):FA:=λe=>(f e).bind λr=>(g r.2).bind λq=>↑(r.1::q.1,q.2)
@[simp] def fTup(g:FA):FE:=λe=>(g e).bind λr=>if r.1.length<=64 then ↑(.tup r.1,r.2) else none
@[simp] def gm(g:FA):FA:=λe=>(g e).bind λr=>if r.1.length<=64 then ↑(r.1,r.2) else none
@[simp] def fLst(g:FA):FE:=λe=>(g e).map λr=>(.lst r.1,r.2)
@[simp] def gq:D->D->ep | .int i,.int j=>↑(.int (i+j)) |_,_=>none
@[simp] def dSub:D->D->ep | .int i,.int j=>↑(.int (i-j)) |_,_=>none
def jt(i:Int):Prop:=-(2 ^ 64)<i/\i<2 ^ 64
noncomputable instance (i:Int):Decidable (jt i):=Classical.propDecidable _
def Few(n:Nat):Prop:=n<=2 ^ 20
noncomputable instance (n:Nat):Decidable (Few n):=Classical.propDecidable _
def Bnd(lo hi i:Int):Prop:=lo<=i/\i<hi
noncomputable instance (lo hi i:Int):Decidable (Bnd lo hi i):=Classical.propDecidable _
def dMul:D->D->ep | .int i,.int j=>if jt i\/jt j then ↑(.int (i*j)) else none |_,_=>none
def dMod:D->D->ep | .int i,.int j=>if 0<j then ↑(.int (i % j)) else none |_,_=>none
def dDiv:D->D->ep | .int i,.int j=>if Bnd 1 1073741824 j then ↑(.int (i / j)) else none |_,_=>none
@[simp] def dNeg:D->ep | .int i=>↑(.int (-i)) |_=>none
@[simp] def dLt:D->D->ep | .int i,.int j=>↑(.bl (decide (i<j))) |_,_=>none
@[simp] def dGt:D->D->ep | .int i,.int j=>↑(.bl (decide (j<i))) |_,_=>none
@[simp] def dGe:D->D->ep | .int i,.int j=>↑(.bl (decide (j<=i))) |_,_=>none
@[simp] def dEq:D->D->ep
 | .int i,.int j=>↑(.bl (decide (i=j))) | .str i,.str j=>↑(.bl (decide (i=j))) | .bl i,.bl j=>↑(.bl (decide (i=j))) |_,_=>none
@[simp] def dNe:D->D->ep
 | .int i,.int j=>↑(.bl (!decide (i=j))) | .str i,.str j=>↑(.bl (!decide (i=j))) | .bl i,.bl j=>↑(.bl (!decide (i=j))) |_,_=>none
@[simp] def dIx:D->D->ep | .tup ds,.int i=>atI ds i | .lst ds,.int i=>atI ds i |_,_=>none
def OpD(X:Cx)(G:Gd)(H0:Hp)(r:R2)(op:D->D->ep):Prop :=
 ∀W env σ H x y d1 d2 d (Q:VK),Ok X.K G H0 W env σ H->Rep X.K H (Ow G W) d1 x->Rep X.K H (Ow G W) d2 y->op d1 d2=↑d ->
  (∀v H',Step W H W H'->Ok X.K G H0 W env σ H'->Rep X.K H' (Ow G W) d v->Q v H')->r x y H Q
variable{f g:FE}{r:R2}{op:D->D->ep}
def uu(S:OpD X G H0 r op):∀σ H Q,tD X.K G H0 (fBin op f g) σ H Q->tOp r (tD X.K G H0 f) (tD X.K G H0 g) σ H Q:=by
 rintro σ H Q ⟨W,env,d,env',ok,e,k⟩;cases e1:f env with
 |none=>simp[e1] at e |some r1 =>
   cases e2:g r1.2 with
   |none=>simp[e1,e2] at e |some r2 =>
     have e:(op r1.1 r2.1).map (λd=>(d,r2.2))=↑(d,env'):=by simpa[fBin,e1,e2] using e
     cases e3:op r1.1 r2.1 with
     |none=>rw[e3] at e;cases e
     |some d' =>
       rw[e3] at e;have U:(d',r2.2)=(d,env'):=ay e;cases U;refine⟨W,env,r1.1,r1.2,ok,e1,λW1 V H1 Y z p1=>⟨W1,r1.2,r2.1,r2.2,z,e2,λL v2 H2 s2 D p2=>?_⟩⟩;exact S L _ σ H2 V v2 _ _ _ Q D (z.rep s2 p1) p2 e3 λv Z a I b=>k L v Z ((Y.trans s2).trans a) I b
variable{a b:Expr}{p:D->D->ep}
def sw{op:Operator}(z:OpR X (binaryOp op) r)(hd:OpD X G H0 r p)(D:DEx X G H0 a f)(I:DEx X G H0 b g):DEx X G H0 (.BinOp a op b pos) (fBin p f g) :=
 ⟨(x6 z D.out I.out).imp (uu hd)⟩
def zrc{op:CmpOp}(z:OpR X (compareOp op) r)(hd:OpD X G H0 r p)(D:DEx X G H0 a f)(I:DEx X G H0 b g)(L:behindInMarks op b=false):DEx X G H0 (.Compare a [op] [b] pos) (fBin p f g) :=
 ⟨(zsd z D.out I.out L).imp (uu hd)⟩
def zvv(z:IxR X r)(hd:OpD X G H0 r p)(D:DEx X G H0 a f)(I:DEx X G H0 b g)(L:tm b):DEx X G H0 (.Subscript a b pos) (fBin p f g) :=
 ⟨(xy z D.out I.out L).imp (uu hd)⟩
def zvw(h:∀σ H Q,tD X.K G H0 f σ H Q->t σ H Q):∀σ H Q,tDT X.K G H0 (fTst f) σ H Q->zvf t σ H Q:=by
 rintro σ H Q ⟨W,env,b,env',ok,e,k⟩;refine h σ H _ ?_;cases e1:f env with
 |none=>simp[e1] at e |some r1 =>
   obtain⟨d,z⟩:=r1;cases d with
   |bl b' =>
     have e:↑(b',z)=↑(b,env'):=by simpa[fTst,e1] using e
     cases e;exact⟨W,env,_,_,ok,e1,λW1 L H1 I D p1=>⟨_,p1.bl_,k W1 H1 I D⟩⟩
   |_=>simp[e1] at e
def sv{op:CmpOp}(z:OpR X (compareOp op) r)(hd:OpD X G H0 r p)(D:DEx X G H0 a f)(I:DEx X G H0 b g)(L:behindInMarks op b=false):DTx X G H0 (.Compare a [op] [b] pos) (fTst (fBin p f g)) :=
 ⟨(zse z D.out I.out L).imp (zvw (uu hd))⟩
variable{g:Int->Int->Int}
def od_I{C:Int->Int->Prop}(h:∀z D d,op z D=↑d->∃i j,z=.int i/\D=.int j/\C i j/\d=.int (g i j)):OpD X G H0 (rI C λi j=>.int (g i j)) op:=by
 intro W env σ H x y z D d Q ok p1 p2 e k;obtain⟨i,j,rfl,rfl,I,rfl⟩:=h _ _ _ e;exact⟨i,j,p1.int_,p2.int_,I,k _ H Step.refl ok (.int _)⟩
def zvx(h:∀z D d,op z D=↑d->∃i j,z=.int i/\D=.int j/\d=.int (g i j)):OpD X G H0 (rI0 λi j=>.int (g i j)) op:=by
 intro W env σ H x y z D d Q ok p1 p2 e k;obtain⟨i,j,rfl,rfl,rfl⟩:=h _ _ _ e;exact⟨i,j,p1.int_,p2.int_,k _ H Step.refl ok (.int _)⟩
variable{g:FE}
def xu{g:Int->Int->Bool}(h:∀z D d,op z D=↑d->∃i j,z=.int i/\D=.int j/\d=.bl (g i j)):OpD X G H0 (rI0 λi j=>.bl (g i j)) op:=by
 intro W env σ H x y z D d Q ok p1 p2 e k;obtain⟨i,j,rfl,rfl,rfl⟩:=h _ _ _ e;exact⟨i,j,p1.int_,p2.int_,k _ H Step.refl ok (.bl _)⟩
def zvy:OpD X G H0 (rI0 λi j=>.int (i+j)) gq:=zvx λz D d e=>by
 cases z <;> try (cases e;done)
 all_goals cases D <;> first | (cases e;done) |exact⟨_,_,rfl,rfl,(ay e).symm⟩
def zvz:OpD X G H0 (rI0 λi j=>.int (i-j)) dSub:=zvx λz D d e=>by
 cases z <;> try (cases e;done)
 all_goals cases D <;> first | (cases e;done) |exact⟨_,_,rfl,rfl,(ay e).symm⟩
def zv0:OpD X G H0 (rI CMul λi j=>.int (i*j)) dMul:=od_I λz D d e=>by
 cases z <;> try (cases e;done)
 all_goals cases D <;> first
  | (cases e;done)
  | (rename_i i j
     by_cases h:jt i\/jt j
     ·simp only[dMul,if_pos h] at e;exact⟨_,_,rfl,rfl,h,(ay e).symm⟩
     ·simp only[dMul,if_neg h] at e;cases e)
def zv1:OpD X G H0 (rI (λ_ j=>0<j) λi j=>.int (i % j)) dMod:=od_I λz D d e=>by
 cases z <;> try (cases e;done)
 all_goals cases D <;> first
  | (cases e;done)
  | (rename_i i j
     by_cases h:0<j
     ·simp only[dMod,if_pos h] at e;exact⟨_,_,rfl,rfl,h,(ay e).symm⟩
     ·simp only[dMod,if_neg h] at e;cases e)
theorem zv2:OpD X G H0 (rI CDiv λi j=>.int (i / j)) dDiv:=od_I λz D d e=>by
 cases z <;> try (cases e;done)
 all_goals cases D <;> first
  | (cases e;done)
  | (rename_i i j
     by_cases h:Bnd 1 1073741824 j
     ·simp only[dDiv,if_pos h] at e;exact⟨_,_,rfl,rfl,⟨by have:=h.1;lia,h.2⟩,(ay e).symm⟩
     ·simp only[dDiv,if_neg h] at e;cases e)
def zxw:OpD X G H0 (rI0 λi j=>.bl (decide (i<j))) dLt:=xu λz D d e=>by
 cases z <;> try (cases e;done)
 all_goals cases D <;> first | (cases e;done) |exact⟨_,_,rfl,rfl,(ay e).symm⟩
def zv3:OpD X G H0 (rI0 λi j=>.bl (decide (j<i))) dGt:=xu λz D d e=>by
 cases z <;> try (cases e;done)
 all_goals cases D <;> first | (cases e;done) |exact⟨_,_,rfl,rfl,(ay e).symm⟩
def zxx:OpD X G H0 (rI0 λi j=>.bl (decide (j<=i))) dGe:=xu λz D d e=>by
 cases z <;> try (cases e;done)
 all_goals cases D <;> first | (cases e;done) |exact⟨_,_,rfl,rfl,(ay e).symm⟩
def zrd(i j:Int):decide (V.int i=V.int j)=decide (i=j):=by simp
def zre(i j:Str):decide (V.str i=V.str j)=decide (i=j):=by simp
def zv4(i j:Bool):decide (V.bl i=V.bl j)=decide (i=j):=by simp
def zv5:OpD X G H0 rEq dEq:=by
 intro W env σ H x y z D d Q ok p1 p2 e k;cases z <;> try (cases e;done)
 all_goals cases D <;> first
  | (cases e;done)
  | (cases p1.int_;cases p2.int_;cases e;refine⟨rfl,?_⟩;rw[zrd];exact k _ H Step.refl ok (.bl _))
  | (cases p1.str_;cases p2.str_;cases e;refine⟨rfl,?_⟩;rw[zre];exact k _ H Step.refl ok (.bl _))
  | (cases p1.bl_;cases p2.bl_;cases e;refine⟨rfl,?_⟩;rw[zv4];exact k _ H Step.refl ok (.bl _))
def zxy:OpD X G H0 rNe dNe:=by
 intro W env σ H x y z D d Q ok p1 p2 e k;cases z <;> try (cases e;done)
 all_goals cases D <;> first
  | (cases e;done)
  | (cases p1.int_;cases p2.int_;cases e;refine⟨rfl,?_⟩;rw[zrd];exact k _ H Step.refl ok (.bl _))
  | (cases p1.str_;cases p2.str_;cases e;refine⟨rfl,?_⟩;rw[zre];exact k _ H Step.refl ok (.bl _))
  | (cases p1.bl_;cases p2.bl_;cases e;refine⟨rfl,?_⟩;rw[zv4];exact k _ H Step.refl ok (.bl _))
def tf{i:Int}(r:Reps K H O ds vs)(h:atI ds i=↑d):∃v,atI vs i=↑v/\Rep K H O d v:=by
 unfold atI at h ⊢;rw[<-r.length];cases q:ixN ds.length i with
 |none=>rw[q] at h;cases h
 |some j=>rw[q] at h;exact r.get h
def zxz:OpD X G H0 (rIx X.K) dIx:=by
 intro W env σ H x y I L d Q ok p1 p2 e k;cases I <;> first
  | (cases e;done)
  | (cases L <;> first
      | (cases e;done)
      | (cases p2
         first
          | (obtain⟨a, vs, rfl, h, r⟩ := p1.tup_
             obtain⟨v,z,D⟩:=tf r e;exact .inr (.inl ⟨a,vs,_,v,rfl,rfl,SqT.of h,z,k _ H Step.refl ok D⟩))
          | (obtain⟨a, vs, rfl, h, r⟩ := p1.lst_
             obtain⟨v,z,D⟩:=tf r e;exact .inl ⟨a,vs,_,v,rfl,rfl,h.sq,z,k _ H Step.refl ok D⟩)))
def j2(z:DEx X G H0 a f)(D:DEx X G H0 b g):DEx X G H0 (.BinOp a .Add b pos) (fBin gq f g):=sw zu8 zvy z D
def kw(z:DEx X G H0 a f)(D:DEx X G H0 b g):DEx X G H0 (.BinOp a .Sub b pos) (fBin dSub f g):=sw zu9 zvz z D
def mh(z:DEx X G H0 a f)(D:DEx X G H0 b g):DEx X G H0 (.BinOp a .Mult b pos) (fBin dMul f g):=sw zva zv0 z D
def ki(z:DEx X G H0 a f)(D:DEx X G H0 b g):DEx X G H0 (.BinOp a .Mod b pos) (fBin dMod f g):=sw zvb zv1 z D
def m4(z:DEx X G H0 a f)(D:DEx X G H0 b g):DEx X G H0 (.BinOp a .FloorDiv b pos) (fBin dDiv f g):=sw zsc zv2 z D
def zx0(z:DEx X G H0 a f)(D:DEx X G H0 b g):DEx X G H0 (.Compare a [.Gt] [b] pos) (fBin dGt f g):=zrc zve zv3 z D (pq _)
def zx1(z:DEx X G H0 a f)(D:DEx X G H0 b g):DEx X G H0 (.Compare a [.Eq] [b] pos) (fBin dEq f g):=zrc zvd zv5 z D (pq _)
def qk(z:DEx X G H0 a f)(D:DEx X G H0 b g):DTx X G H0 (.Compare a [.Lt] [b] pos) (fTst (fBin dLt f g)):=sv zxs zxw z D (pq _)
def pf(z:DEx X G H0 a f)(D:DEx X G H0 b g):DTx X G H0 (.Compare a [.Gt] [b] pos) (fTst (fBin dGt f g)):=sv zve zv3 z D (pq _)
def zx2(z:DEx X G H0 a f)(D:DEx X G H0 b g):DTx X G H0 (.Compare a [.GtE] [b] pos) (fTst (fBin dGe f g)):=sv zxt zxx z D (pq _)
def my(z:DEx X G H0 a f)(D:DEx X G H0 b g):DTx X G H0 (.Compare a [.Eq] [b] pos) (fTst (fBin dEq f g)):=sv zvd zv5 z D (pq _)
def ut(z:DEx X G H0 a f)(D:DEx X G H0 b g):DTx X G H0 (.Compare a [.NotEq] [b] pos) (fTst (fBin dNe f g)):=sv zxr zxy z D (pq _)
def oj(z:DEx X G H0 a f)(D:DEx X G H0 b g)(I:tm b:=by intro _ _;rfl):DEx X G H0 (.Subscript a b pos) (fBin dIx f g):=zvv ym zxz z D I
variable{Nn Cn:b2}
def cq(an:Ats Nn Cn X)(I:Nn[i]?=↑x:=by rfl):DEx X G H0 (.Name x pos) (fVar i):=⟨((an.a I).pe).imp λσ H Q L=>by
 obtain⟨W,env,d,env',ok,e,k⟩:=L;unfold fVar at e;cases q:env[i]? with
 |none=>rw[q] at e;cases e
 |some o =>
   cases o with
   |none=>rw[q] at e;cases e
   |some sl =>
     cases sl with
     |sh d' =>
       rw[q] at e;cases e;obtain⟨v,D,r⟩:=ok.slot i _ q;exact⟨v,D,k W v H Step.refl ok r⟩
     |ow ds =>
       rw[q] at e;cases e;obtain⟨W',v,D,st,z,r⟩:=ok.share q;exact⟨v,D,k W' v H st z r⟩
     |o2 dss =>
       rw[q] at e;cases e;obtain⟨W',v,D,st,z,r⟩:=ok.share2 q;exact⟨v,D,k W' v H st z r⟩
     |ag _ _ _=>rw[q] at e;cases e
     |al _ _=>rw[q] at e;cases e
     |ro _ _=>rw[q] at e;cases e⟩
def de_c(h:PE X e (tC v))(r:∀H O,Rep X.K H O d v):DEx X G H0 e (fC d):=⟨h.imp λσ H Q z=>by
 obtain⟨W,env,d',env',ok,q,k⟩:=z;cases q;exact k W v H Step.refl ok (r _ _)⟩
def db{i:Int}:DEx X G H0 (.Constant (.int i) j pos) (fC (.int i)):=de_c zq6 λ_ _=>.int _
def lw{i:Bool}:DEx X G H0 (.Constant (.bool i) j pos) (fC (.bl i)):=de_c zxg λ_ _=>.bl _
def qr(L:DEx X G H0 a f):DEx X G H0 (.UnaryOp .USub a pos) (fUn dNeg f):=⟨(zxq zvc L.out).imp λσ H Q S=>by
 obtain⟨W,env,d',env',ok,q,k⟩:=S;cases e1:f env with
 |none=>simp[e1] at q |some r =>
   obtain⟨d,z⟩:=r;cases d with
   |int i =>
     have q:↑(D.int (-i),z)=↑(d',env'):=by simpa[fUn,e1,dNeg] using q
     cases q;exact⟨W,env,_,_,ok,e1,λW1 V H1 U I p1=>⟨i,p1.int_,k W1 _ H1 U I (.int _)⟩⟩
   |_=>simp[e1] at q⟩
structure DWx (X:Cx) (G:Gd) (H0:Hp) (e:Expr) (f:FT):Prop where
 out:PW X e (tDT X.K G H0 f)
variable{t:TI}
def PW.imp{t:TT}(h:PW X e t)(i:∀σ H Q,t' σ H Q->t σ H Q):PW X e t':=λw pins s σ H Q I q=>h w pins s σ H Q I (i σ H Q q)
variable{p:FT}
def dt_w(h:DWx X G H0 e p):DTx X G H0 e p:=⟨PW.pt h.out⟩
def tp(h:DTx X G H0 a p):DWx X G H0 (.BoolOp .And [a] pos) p:=⟨zr4 h.out⟩
def qy(h:DTx X G H0 a p):DWx X G H0 (.BoolOp .Or [a] pos) p:=⟨zut h.out⟩
variable{rest:da}
def so(h:DTx X G H0 a p)(h2:DWx X G H0 (.BoolOp .And (b::rest) pos) q):DWx X G H0 (.BoolOp .And (a::b::rest) pos) (fAnd p q):=⟨(zuu h.out h2.out).imp λσ H Q S=>by
 obtain⟨W,env,d,env',ok,e,k⟩:=S;cases e1:p env with
 |none=>simp[e1] at e |some r =>
   obtain⟨t,z⟩:=r;refine⟨W,env,t,z,ok,e1,λW1 H1 L D=>?_⟩;cases t with
   |true =>
     exact⟨W1,z,d,env',D,by simpa[fAnd,e1] using e,λU H2 s2 I=>k U H2 (L.trans s2) I⟩
   |false =>
     have e:↑(false,z)=↑(d,env'):=by simpa[fAnd,e1] using e
     cases e;exact k W1 H1 L D⟩
def qj(h:DTx X G H0 a p)(h2:DWx X G H0 (.BoolOp .Or (b::rest) pos) q):DWx X G H0 (.BoolOp .Or (a::b::rest) pos) (fOr p q):=⟨(zxh h.out h2.out).imp λσ H Q S=>by
 obtain⟨W,env,d,env',ok,e,k⟩:=S;cases e1:p env with
 |none=>simp[e1] at e |some r =>
   obtain⟨t,z⟩:=r;refine⟨W,env,t,z,ok,e1,λW1 H1 L D=>?_⟩;cases t with
   |false =>
     exact⟨W1,z,d,env',D,by simpa[fOr,e1] using e,λU H2 s2 I=>k U H2 (L.trans s2) I⟩
   |true =>
     have e:↑(true,z)=↑(d,env'):=by simpa[fOr,e1] using e
     cases e;exact k W1 H1 L D⟩
def mf(h:DTx X G H0 a p):DTx X G H0 (.UnaryOp .Not a pos) (fNot p):=⟨(zuv h.out).imp λσ H Q D=>by
 obtain⟨W,env,d,env',ok,e,k⟩:=D;cases e1:p env with
 |none=>simp[e1] at e |some r =>
   have e:↑(!r.1,r.2)=↑(d,env'):=by simpa[fNot,e1] using e
   cases e;exact⟨W,env,_,_,ok,e1,λW1 H1 I z=>k W1 H1 I z⟩⟩
def lx(h:DEx X G H0 a f)(D:∀whole,isTrue a X.env whole=(do let v <-whole;standAt a.pos;holding [v] (truthy v)):=by intro _;rfl):DTx X G H0 a (fTst f):=⟨(zus h.out D).imp (zvw λ_ _ _ z=>z)⟩
variable{op:em->ep}
def zrf{op:BoolOp}(h:DEx X G H0 a f):DEx X G H0 (.BoolOp op [a] pos) f:=⟨zuw h.out⟩
def zrg(h:DEx X G H0 a f)(h2:DEx X G H0 (.BoolOp .And (b::rest) pos) g):DEx X G H0 (.BoolOp .And (a::b::rest) pos) (ql f g):=⟨(zux h.out h2.out).imp λσ H Q U=>by
 obtain⟨W,env,d,env',ok,e,k⟩:=U;cases e1:f env with
 |none=>simp[e1] at e |some r =>
   obtain⟨t,z⟩:=r;refine⟨W,env,t,z,ok,e1,λW1 Y H1 S I p1=>?_⟩;cases t with
   |bl t =>
     refine⟨t,p1.bl_,?_⟩;cases t with
     |true =>
       exact⟨W1,z,d,env',I,by simpa[ql,e1] using e,λV v2 H2 s2 L p2=>k V v2 H2 (S.trans s2) L p2⟩
     |false =>
       have e:↑(D.bl false,z)=↑(d,env'):=by simpa[ql,e1] using e
       cases e;exact k W1 _ H1 S I (.bl _)
   |_=>simp[e1] at e⟩
def zv6(h:DEx X G H0 a f):DEx X G H0 (.UnaryOp .Not a pos) (xv f):=⟨(zuy h.out).imp λσ H Q L=>by
 obtain⟨W,env,d,env',ok,e,k⟩:=L;cases e1:f env with
 |none=>simp[e1] at e |some r =>
   obtain⟨t,z⟩:=r;refine⟨W,env,t,z,ok,e1,λW1 U H1 S I p1=>?_⟩;cases t with
   |bl t =>
     have e:↑(D.bl (!t),z)=↑(d,env'):=by simpa[xv,e1] using e
     cases e;exact⟨t,p1.bl_,k W1 _ H1 S I (.bl _)⟩
   |_=>simp[e1] at e⟩
def eg  : DAx X G H0 [] fNil:=⟨mj.imp λσ H Q z=>by
 obtain⟨W,env,ds,env',ok,e,k⟩:=z;cases e;exact k W [] H Step.refl ok .nil⟩
variable{F:FA}
def cz(L:DEx X G H0 e f)(S:DAx X G H0 es F)(U:starEach (e::es) X.env=(false,eval e X.env)::starEach es X.env:=by rfl):DAx X G H0 (e::es) (bx f F):=⟨(ln L.out S.out U).imp λσ H Q V=>by
 obtain⟨W,env,ds,env',ok,q,k⟩:=V;cases e1:f env with
 |none=>simp[e1] at q |some r =>
   obtain⟨d,z⟩:=r;cases e2:F z with
   |none=>simp[e1,e2] at q |some r2 =>
     have q:↑(d::r2.1,r2.2)=↑(ds,env'):=by simpa[bx,e1,e2] using q
     cases q;exact⟨W,env,d,z,ok,e1,λW1 a H1 Y D p1=>⟨W1,z,_,_,D,e2,λZ vs H2 s2 I p2=>k Z _ H2 (Y.trans s2) I (.cons (D.rep s2 p1) p2)⟩⟩⟩
def le64(h:n<=64):n<=sizeLine:=bi h (by rw[sizeLine_eq];decide)
def nj{k1}(h:DAx X G H0 es F):DEx X G H0 (.Tuple es k1 pos) (fTup F):=⟨(zvg h.out).imp λσ H Q S=>by
 obtain⟨W,env,d,env',ok,q,k⟩:=S;cases e1:F env with
 |none=>simp[e1] at q |some r =>
   obtain⟨ds,z⟩:=r;by_cases L:ds.length<=64
   ·have q:↑(D.tup ds,z)=↑(d,env'):=by simpa[fTup,e1,L] using q
    cases q;refine⟨W,env,ds,_,ok,e1,λW1 vs H1 U I p1=>⟨by rw[<-p1.length];exact le64 L,λl V=>?_⟩⟩;have sm:Same H1 (upd H1 l (.tup vs)):=tu V;have st:Step W1 H1 W1 (upd H1 l (.tup vs)):=Step.same sm;exact k W1 _ _ (U.trans st) (I.same sm) (.tup ko (I.reps st p1))
   ·simp[e1,L] at q⟩
def mz(ok:Ok X.K G H0 W env σ H)(r:Reps X.K H (Ow G W) ds vs)(D:H l=none) :
  Step W H (addW W l) (upd H l (.lst vs))/\Ok X.K G H0 W env σ (upd H l (.lst vs))/\Ok X.K G H0 (addW W l) env σ (upd H l (.lst vs))/\¬W l/\upd H l (.lst vs) l=↑(.lst vs)/\Reps X.K (upd H l (.lst vs)) (Ow G (addW W l)) ds vs:=by
 have sm:Same H (upd H l (.lst vs)):=tu D;obtain⟨h1,h2,I,L,S⟩:=ok.fresh (l:=l) (vs:=vs) (ds:=ds) sm D ko ((r.mono (O':=λa=>(Ow G W a\/H a=none)/\a≠l) (λ_ _ h=>sm _ _ h) λa us o h=>⟨⟨.inl o,λz=>by
  subst z;have h2:Rd H a (.lst us):=h;rcases h2 with h2 | ⟨_,h2⟩ <;> rw[D] at h2 <;> cases h2⟩,h.keep λo e=>sm _ o e⟩))
 exact⟨S,ok.same sm,I,h1,ko,L⟩
def jo(h:DAx X G H0 es F):DFx X G H0 (.List es pos) (gm F):=⟨(zvh h.out).imp λσ H Q L=>by
 obtain⟨W,env,d,env',ok,q,k⟩:=L;cases e1:F env with
 |none=>simp[e1] at q |some r =>
   obtain⟨ds,z⟩:=r;by_cases D:ds.length<=64
   ·have q:↑(ds,z)=↑(d,env'):=by simpa[gm,e1,D] using q
    cases q;refine⟨W,env,_,_,ok,e1,λW1 vs H1 S I p1=>⟨by rw[<-p1.length];exact le64 D,λl U=>?_⟩⟩;obtain⟨h1,h2,V,Y,Z,a⟩:=mz I p1 U;exact k W1 l vs _ (S.trans h1) h2 V Y Z a
   ·simp[e1,D] at q⟩
def i9(h:DFx X G H0 e F):DEx X G H0 e (fLst F):=⟨h.out.imp λσ H Q U=>by
 obtain⟨W,env,d,env',ok,q,k⟩:=U;cases e1:F env with
 |none=>simp[e1] at q |some r =>
   have q:↑(D.lst r.1,r.2)=↑(d,env'):=by simpa[fLst,e1] using q
   cases q;refine⟨W,env,_,_,ok,e1,λW1 l vs H1 S I L V Y Z=>k W1 _ H1 ⟨S.keep,λa z=>S.ws a (.inl z)⟩ I (.lst ⟨I.good l (L.wl l (.inr rfl)).1,V⟩ (.inl Y) (Z.mono (λ_ _ h=>h) λa us o h=>⟨⟨o.1,λz=>o.2 (.inl z)⟩,h⟩))⟩⟩
def Cal(P:Program)(w:World)(K:eb)(mg:Str->b5)(base:Heap)(CX:CXT)(x:Str)(k:Nat)(sp:Sp):Prop :=
 ∃fa fd ps,FnOk P w K mg base CX k fa fd ps sp/\mg x=↑(.ref fa)/\PySem.W.keepIn K (.ref fa)=true/\Binds K fd ps []/\(x==("__debug__" : Str))=false
def dSp(K:eb)(m:em->ep):Sp:=λvs H Q _=>∃O ds d,Reps K H O ds vs/\m ds=↑d/\∀v H',Same H H'->Rep K H' (λa=>O a\/H a=none) d v->Q v H'
def fSp(K:eb)(m:em->Option em):Sp:=λvs H Q _=>∃O ds z,Reps K H O ds vs/\m ds=↑z/\∀l us H',Same H H'->H l=none->H' l=↑(.lst us)->Reps K H' (λa=>(O a\/H a=none)/\a≠l) z us->Q (.ref l) H'
@[simp] def e8(m:em->ep)(F:FA):FE:=λe=>(F e).bind λr=>(m r.1).map λd=>(d,r.2)
@[simp] def gy(m:em->Option em)(F:FA):FA:=λe=>(F e).bind λr=>(m r.1).map λd=>(d,r.2)
variable{m:em->ep}{E:XK}
def zv7:∀σ H Q,tD X.K G H0 (e8 m F) σ H Q->uv (dSp X.K m) [] E (tDA X.K G H0 F) σ H Q:=λσ H Q L=>by
 obtain⟨W,env,d,env',ok,q,k⟩:=L;cases e1:F env with
 |none=>simp[e1] at q |some r =>
   obtain⟨ds,I⟩:=r;cases e2:m ds with
   |none=>simp[e1,e2] at q |some d' =>
     have q:↑(d',I)=↑(d,env'):=by simpa[e8,e1,e2] using q
     cases q;refine⟨W,env,ds,_,ok,e1,λW1 vs H1 S D p1=>?_⟩;show dSp X.K m (vs++[]) H1 Q E;rw[ce];refine⟨Ow G W1,ds,_,p1,e2,λv H2 sm U=>?_⟩;refine k W1 v H2 (S.trans (Step.same sm)) (D.same sm) (U.mono (λ_ _ h=>h) λa us o h=>⟨?_,h⟩);rcases o with o |o
     ·exact o
     ·exact⟨D.good a (D.stay.free o),λz=>by obtain⟨_,us,q⟩:=D.wl a z;rw[o] at q;cases q⟩
def zsw{m:em->Option em}:∀σ H Q,tDF X.K G H0 (gy m F) σ H Q->uv (fSp X.K m) [] E (tDA X.K G H0 F) σ H Q:=λσ H Q S=>by
 obtain⟨W,env,d,env',ok,q,k⟩:=S;cases e1:F env with
 |none=>simp[e1] at q |some r =>
   obtain⟨ds,z⟩:=r;cases e2:m ds with
   |none=>simp[e1,e2] at q |some d' =>
     have q:↑(d',z)=↑(d,env'):=by simpa[gy,e1,e2] using q
     cases q;refine⟨W,env,ds,_,ok,e1,λW1 vs H1 U I p1=>?_⟩;show fSp X.K m (vs++[]) H1 Q E;rw[ce];refine⟨Ow G W1,ds,_,p1,e2,λl us H2 sm V L Y=>?_⟩;obtain⟨h1,h2,Z,a,b⟩:=I.fresh sm V L Y;exact k W1 l us H2 (U.trans b) (I.same sm) Z h1 L a
variable{jr:Nat}{p':Pos}
def io(c:Cal X.prog X.w X.K X.mg X.base CX0 x k (dSp X.K m))(I:Room jr X.A)(L:DAx X G H0 (e::es) F)(hkj:k<=jr:=by decide)(S:Gl X x:=by walk_at "g")(U:starEach (e::es) X.env=(false,eval e X.env)::starEach es X.env:=by rfl)(z:(backTo pos (starEach es X.env)).any (·.1)=false:=by rfl) :
  DEx X G H0 (.Call (.Name x p') (e::es) [] pos) (e8 m F):=let ⟨_,_,_,V,Y,Z,a,D⟩:=c;⟨(y7 V (I.mono hkj) S Y Z a .nil xw L.out D U z).imp zv7⟩
variable{mF:em->Option em}
def zny(c:Cal X.prog X.w X.K X.mg X.base CX0 x k (fSp X.K mF))(I:Room jr X.A)(L:DAx X G H0 (e::es) F)(hkj:k<=jr:=by decide)(S:Gl X x:=by walk_at "g")(U:starEach (e::es) X.env=(false,eval e X.env)::starEach es X.env:=by rfl)(z:(backTo pos (starEach es X.env)).any (·.1)=false:=by rfl) :
  DFx X G H0 (.Call (.Name x p') (e::es) [] pos) (gy mF F):=let ⟨_,_,_,V,Y,Z,a,D⟩:=c;⟨(y7 V (I.mono hkj) S Y Z a .nil xw L.out D U z).imp zsw⟩
def qi(X:Cx)(G:Gd)(H0:Hp)(r:el->Hp->VK->Prop)(op:em->ep):Prop :=
 ∀W env σ H vs ds d (Q:VK),Ok X.K G H0 W env σ H->Reps X.K H (Ow G W) ds vs->op ds=↑d ->
  (∀v H',Step W H W H'->Ok X.K G H0 W env σ H'->Rep X.K H' (Ow G W) d v->Q v H')->r vs H Q
def yi(X:Cx)(G:Gd)(H0:Hp)(r:el->Hp->VK->Prop)(op:em->Option em):Prop :=
 ∀W env σ H vs ds rs (Q:VK),Ok X.K G H0 W env σ H->Reps X.K H (Ow G W) ds vs->op ds=↑rs ->
  (∀l us H',Step W H (addW W l) H'->Ok X.K G H0 W env σ H'->Ok X.K G H0 (addW W l) env σ H'->¬W l->H' l=↑(.lst us)->Reps X.K H' (Ow G (addW W l)) rs us->Q (.ref l) H')->r vs H Q
variable{r:el->Hp->VK->Prop}
def zx3(hd:qi X G H0 r op):∀σ H Q,tD X.K G H0 (e8 op F) σ H Q->tCB r (tDA X.K G H0 F) σ H Q:=λσ H Q S=>by
 obtain⟨W,env,d,env',ok,q,k⟩:=S;cases e1:F env with
 |none=>simp[e1] at q |some z =>
   obtain⟨ds,D⟩:=z;cases e2:op ds with
   |none=>simp[e1,e2] at q |some d' =>
     have q:↑(d',D)=↑(d,env'):=by simpa[e8,e1,e2] using q
     cases q;exact⟨W,env,ds,_,ok,e1,λW1 vs H1 U I p1=>hd W1 _ σ H1 vs ds _ Q I p1 e2 λv H2 s2 L p2=>k W1 v H2 (U.trans s2) L p2⟩
def zv8{op:em->Option em}(hd:yi X G H0 r op):∀σ H Q,tDF X.K G H0 (gy op F) σ H Q->tCB r (tDA X.K G H0 F) σ H Q:=λσ H Q V=>by
 obtain⟨W,env,d,env',ok,q,k⟩:=V;cases e1:F env with
 |none=>simp[e1] at q |some z =>
   obtain⟨ds,I⟩:=z;cases e2:op ds with
   |none=>simp[e1,e2] at q |some d' =>
     have q:↑(d',I)=↑(d,env'):=by simpa[gy,e1,e2] using q
     cases q;exact⟨W,env,ds,_,ok,e1,λW1 vs H1 Y L p1=>hd W1 _ σ H1 vs ds _ Q L p1 e2 λl us H2 s2 S U Z a b=>k W1 l us H2 (Y.trans s2) S U Z a b⟩
variable{id:String}
def vm(I:l9 X (.builtin id) r)(hd:qi X G H0 r op)(L:Gl X x)(S:X.mg x=none)(U:bootBuiltins x=↑(.builtin id))(V:DAx X G H0 (e::es) F)(Y:x ≠ "__name__":=by decide)(z:(x==("__debug__" : Str))=false:=by decide)(Z:starEach (e::es) X.env=(false,eval e X.env)::starEach es X.env:=by rfl)(D:(backTo pos (starEach es X.env)).any (·.1)=false:=by rfl):DEx X G H0 (.Call (.Name x p') (e::es) [] pos) (e8 op F):=⟨(vo I L S U V.out Y z Z D).imp (zx3 hd)⟩
variable{T:String}{opF:em->Option em}
def zpv(I:l9 X (.type T) r)(hd:yi X G H0 r opF)(L:Gl X x)(S:X.mg x=none)(U:bootBuiltins x=↑(.type T))(V:DAx X G H0 (e::es) F)(Y:x ≠ "__name__":=by decide)(z:(x==("__debug__" : Str))=false:=by decide)(Z:starEach (e::es) X.env=(false,eval e X.env)::starEach es X.env:=by rfl)(D:(backTo pos (starEach es X.env)).any (·.1)=false:=by rfl):DFx X G H0 (.Call (.Name x p') (e::es) [] pos) (gy opF F):=⟨(zo I L S U V.out Y z Z D).imp (zv8 hd)⟩
def ni(h:Reps K H O [d] vs):∃v,vs=[v]/\Rep K H O d v:=by
 cases h with |cons r t=>cases t;exact⟨_,rfl,r⟩
def xt{d':D}(h:Reps K H O [d,d'] vs):∃v z,vs=[v,z]/\Rep K H O d v/\Rep K H O d' z:=by
 cases h with |cons r t=>cases t with |cons r' t=>cases t;exact⟨_,_,rfl,r,r'⟩
@[simp] def bLen:em->ep | [.tup ds]=>↑(.int ds.length) | [.lst ds]=>↑(.int ds.length) |_=>none
def zv9:qi X G H0 (λxs H Q=>∃p ys,xs=[.ref p]/\(SqL X.K H p ys\/SqT X.K H p ys)/\Q (.int ys.length) H) bLen:=by
 intro W env σ H vs ds d Q ok r e k;unfold bLen at e;split at e
 ·rename_i ds
  cases e;obtain⟨v,rfl,z⟩:=ni r;have r:=z;obtain⟨a,us,rfl,h,r⟩:=r.tup_;exact⟨a,us,rfl,.inr (SqT.of h),by rw[<-r.length];exact k _ H Step.refl ok (.int _)⟩
 ·rename_i ds
  cases e;obtain⟨v,rfl,z⟩:=ni r;have r:=z;obtain⟨a,us,rfl,h,r⟩:=r.lst_;exact⟨a,us,rfl,.inl h.sq,by rw[<-r.length];exact k _ H Step.refl ok (.int _)⟩
 ·cases e
def zwa(D:DAx X G H0 [e] F)(z:Bn X "len":=by walk_at "b")(I:starEach [e] X.env=(false,eval e X.env)::starEach [] X.env:=by rfl):DEx X G H0 (.Call (.Name "len" p') [e] [] pos) (e8 bLen F) :=
 vm zgb zv9 z.g z.m PySem.boot_len D (by decide) (by decide) I rfl
@[simp] def bMax:em->ep | [.int i,.int j]=>↑(.int (if j > i then j else i)) |_=>none
@[simp] def bMin:em->ep | [.int i,.int j]=>↑(.int (if j<i then j else i)) |_=>none
def zwb:qi X G H0 (λxs H Q=>∃i j,xs=[.int i,.int j]/\Q (.int (if j<i then j else i)) H) bMin:=by
 intro W env σ H vs ds d Q ok r e k;unfold bMin at e;split at e
 ·cases e
  obtain⟨v,I,rfl,z,D⟩:=xt r;have r:=z;exact⟨_,_,by rw[r.int_,D.int_],k _ H Step.refl ok (.int _)⟩
 ·cases e
def zwc(I:DAx X G H0 [a,b] F)(L:X.calm=true:=by rfl)(D:Bn X "min":=by walk_at "b")(S:starEach [a,b] X.env=(false,eval a X.env)::starEach [b] X.env:=by rfl)(z:(backTo pos (starEach [b] X.env)).any (·.1)=false:=by rfl):DEx X G H0 (.Call (.Name "min" p') [a,b] [] pos) (e8 bMin F) :=
 vm (znj L) zwb D.g D.m boot_min I (by decide) (by decide) S z
def ints?:em->Option ci
 | []=>↑[] | .int i::r=>(ints? r).map (i::·)
 |_::_=>none
def qz:∀ {ds:em} {ns:ci},ints? ds=↑ns->ds=ns.map D.int
 | [],ns,h=>by cases h;rfl
 | .int i::r,ns,h=>by
   unfold ints? at h;cases q:ints? r with
   |none=>rw[q] at h;cases h
   |some ms=>rw[q] at h;cases h;rw[qz q];rfl
 | .str _::_,_,h=>by cases h
def ints_of(ns:ci):ints? (ns.map D.int)=↑ns:=by
 induction ns with
 |nil=>rfl |cons n r ih=>show(ints? (r.map D.int)).map (n::·)=_;rw[ih];rfl
def re{K:eb}{H:Hp}{O:Addr->Prop}:∀ {ns:ci} {vs:el},Reps K H O (ns.map D.int) vs->vs=ns.map V.int
 | [],_,h=>by cases h;rfl
 |n::r,_,h=>by cases h with |cons a t=>rw[re t,a.int_];rfl
def zji(S:X.calm=true):l9 X (.builtin "sum") (λxs H Q=>∃p,∃ns:ci,xs=[.ref p]/\SqL X.K H p (ns.map V.int)/\Q (.int ns.sum) H):=by
 intro pins s σ H xs us Q I r h;obtain⟨p,ns,rfl,U,q⟩:=h;obtain⟨u,rfl,Y⟩:=qo r;cases Y;obtain⟨its,Z,pl,c⟩:=I.list U;have hi:IntsAre its ns:=zt Z;have D:=pl.isList;obtain⟨xs,z⟩:=hi.allInts.items;rw[z] at D;refine sum_intListG (I.ok.hd S) D λh' tk t' a=>⟨.int ns.sum,H,I.kept a,⟨t',?_⟩,q⟩;have b:numsOf its=ns:=hi.numsOf;have L:numsOf (intItems xs).toList=ns:=by rw[<-z];exact b
 rw[nums_intItems] at L;rw[preSum_eq,ic (by simp),L]
def bSum:em->ep | [.lst ds]=>(ints? ds).map λns=>.int ns.sum |_=>none
def zwd:qi X G H0 (λxs H Q=>∃p,∃ns:ci,xs=[.ref p]/\SqL X.K H p (ns.map V.int)/\Q (.int ns.sum) H) bSum:=by
 intro W env σ H vs ds d Q ok r e k;unfold bSum at e;split at e
 ·rename_i ds
  cases q:ints? ds with
  |none=>rw[q] at e;cases e
  |some ns =>
    rw[q] at e;cases e;obtain⟨v,rfl,z⟩:=ni r;have r:=z;obtain⟨a,us,rfl,h,r⟩:=r.lst_;rw[qz q] at r;rw[re r] at h;exact⟨a,ns,rfl,h.sq,k _ H Step.refl ok (.int _)⟩
 ·cases e
def u6(D:DAx X G H0 [e] F)(I:X.calm=true:=by rfl)(z:Bn X "sum":=by walk_at "b")(L:starEach [e] X.env=(false,eval e X.env)::starEach [] X.env:=by rfl):DEx X G H0 (.Call (.Name "sum" p') [e] [] pos) (e8 bSum F) :=
 vm (zji I) zwd z.g z.m boot_sum D (by decide) (by decide) L rfl
@[simp] def oh:em->Option em | [.lst ds]=>↑ds | [.tup ds]=>↑ds |_=>none
def zsy:yi X G H0 (λxs H Q=>∃p ys,xs=[.ref p]/\(SqL X.K H p ys\/SqT X.K H p ys)/\∀l,H l=none->Q (.ref l) (upd H l (.lst ys))) oh:=by
 intro W env σ H vs ds V Q ok r e k;unfold oh at e;split at e
 ·cases e
  obtain⟨v,rfl,z⟩:=ni r;have r:=z;obtain⟨a,us,rfl,h,r⟩:=r.lst_;refine⟨a,us,rfl,.inl h.sq,λl D=>?_⟩;obtain⟨h1,h2,I,L,S,U⟩:=mz ok r D;exact k l us _ h1 h2 I L S U
 ·cases e
  obtain⟨v,rfl,z⟩:=ni r;have r:=z;obtain⟨a,us,rfl,h,r⟩:=r.tup_;refine⟨a,us,rfl,.inr (SqT.of h),λl D=>?_⟩;obtain⟨h1,h2,I,L,S,U⟩:=mz ok r D;exact k l us _ h1 h2 I L S U
 ·cases e
def z9:bootBuiltins "list" = ↑(.type "list"):=by decide +kernel
def zsz(D:DAx X G H0 [e] F)(z:Bn X "list":=by walk_at "b")(I:starEach [e] X.env=(false,eval e X.env)::starEach [] X.env:=by rfl):DFx X G H0 (.Call (.Name "list" p') [e] [] pos) (gy oh F) :=
 zpv zi5 zsy z.g z.m z9 D (by decide) (by decide) I rfl
def Vals.of:∀ {xs:el} {us:b4},xs.length=us.length->(∀(j:Nat) (x:V) (u:Value),xs[j]?=↑x->us[j]?=↑u->RelV x u)->Vals xs us
 | [],[],_,_=>.nil |x::xs,u::us,h,r=>.cons (r 0 x u rfl rfl) (Vals.of (k5 h) λj y w z D=>r (j+1) y w (by simpa using z) (by simpa using D))
def zx4(ta:TA):TE:=λσ H Q=>ta σ H λvs H1=>∃j:Int,vs=[.int j]/\∀r,H1 r=none->Q (.ref r) (upd H1 r (.rng 0 j))
def zx5(ta:TA):TE:=λσ H Q=>ta σ H λvs H1=>∃i j:Int,vs=[.int i,.int j]/\∀r,H1 r=none->Q (.ref r) (upd H1 r (.rng i j))
variable{ta:TA}
def zn0(z:Bn X "range")(L:PA X [a] ta)(S:starEach [a] X.env=[(false,eval a X.env)]:=by rfl):PE X (.Call (.Name "range" p') [a] [] pos) (zx4 ta):=by
 intro pins s σ H Q I h;refine Call_ (np I z.g z.m boot_range (d5 (thn (L pos pins s σ H _ I h) λus U V=>?_) S rfl));obtain⟨vs,H1,D,Y,Z⟩:=V;obtain⟨j,e,q⟩:=Z;subst e;obtain⟨u,rfl,t,rfl⟩:=qo Y;refine call_range_1 ?_;exact⟨.ref U.heap.objs.size,_,D.laid (o:=.rng 0 j) (λb c q=>bc _ q) (bg _) (show ObjOk X.prog X.w _ _ _ (.rng 0 j) from⟨_,_,_,cf _ rfl⟩),rfl,q _ (D.hok.fresh (bg _))⟩
def zn1(D:Bn X "range")(S:PA X [a,b] ta)(U:starEach [a,b] X.env=[(false,eval a X.env),(false,eval b X.env)]:=by rfl)(z:starEach [b] X.env=[(false,eval b X.env)]:=by rfl) :
  PE X (.Call (.Name "range" p') [a,b] [] pos) (zx5 ta):=by
 intro pins s σ H Q I h;refine Call_ (np I D.g D.m boot_range (d5 (thn (S pos pins s σ H _ I h) λus V Y=>?_) (by rw[U,z]) (by rw[z];rfl)));obtain⟨vs,H1,L,Z,c⟩:=Y;obtain⟨i,j,e,q⟩:=c;subst e;obtain⟨u,d,rfl,⟨t,rfl⟩,t',rfl⟩:=x0 Z;refine call_range_2 ?_;exact⟨.ref V.heap.objs.size,_,L.laid (o:=.rng i j) (λb f q=>bc _ q) (bg _) (show ObjOk X.prog X.w _ _ _ (.rng i j) from⟨_,_,_,cf _ rfl⟩),rfl,q _ (L.hok.fresh (bg _))⟩
def rngL(lo hi:Int):ci:=(List.range (hi-lo).toNat).map λ(k:Nat)=>lo+(k:Int)
def z4(lo hi:Int):(rngL lo hi).length=(hi-lo).toNat:=by simp[rngL]
theorem zgc(Y:X.calm=true):l9 X (.type "list") (λxs H Q=>∃r lo hi,xs=[.ref r]/\H r=↑(.rng lo hi)/\(-(2 ^ 62)<=lo/\lo<2 ^ 62/\-(2 ^ 62)<=hi/\hi<2 ^ 62)/\(hi-lo).toNat<=2 ^ 20 /\
  ∀l,H l=none->Q (.ref l) (upd H l (.lst ((rngL lo hi).map V.int)))):=by
 intro pins s σ H xs us Q I r h;obtain⟨p,lo,hi,rfl,Z,⟨a,b,b3,c⟩,U,q⟩:=h;obtain⟨u,rfl,d⟩:=qo r;cases d;obtain⟨t,u,v,e⟩:=(show ObjOk X.prog X.w H s.heap p (.rng lo hi) from I.hok p _ Z);refine call_list_range (n:=(hi-lo).toNat) (I.ok.hd Y) (show IsRange s.heap p lo hi 1 t u v from e) (small_one a b b3 c) (by rw[rangeSize_one];split <;> lia) (bi U (by decide)) λh' tk z f g i D=>?_;have m:Vals ((rngL lo hi).map V.int) z.toList:=by
  obtain⟨o,y⟩:=D;refine Vals.of (by rw[ac,z4,f7,o]) λj x u L A=>?_;obtain⟨t,rfl⟩:=y j u (by simpa using A);rw[bu,rngL,bu] at L;cases q:(List.range (hi-lo).toNat)[j]? with
  |none=>rw[q] at L;cases L
  |some k =>
    rw[q] at L;have S:k=j:=by
     rw[iy] at q
     ·exact(ay q).symm
     ·have:=(aq.mp q).1;simpa using this
    cases L;exact⟨t,by rw[S,Int.mul_one]⟩
 exact⟨.ref s.heap.objs.size,_,I.laid g (bg _) (show ObjOk X.prog X.w _ h' _ (.lst _) from⟨by rw[ac,z4];exact bi U (by rw[sizeLine_eq];decide),z.toList,f,m,i⟩),rfl,q _ (I.hok.fresh (bg _))⟩
def ya(ds:em):Option em:=match ds with
 | [.int j]=>if Bnd (-(2 ^ 62)) (2 ^ 20+1) j then ↑((rngL 0 j).map D.int) else none
 |_=>none
def qh(ds:em):Option em:=match ds with
 | [.int i,.int j]=>if Bnd (-(2 ^ 20)) (2 ^ 20+1) i/\Bnd (-(2 ^ 62)) (2 ^ 62) j/\Bnd (-(2 ^ 63)) (2 ^ 20+1) (j-i) then ↑((rngL i j).map D.int) else none
 |_=>none
def vx{K:eb}{H:Hp}{O:Addr->Prop}:∀(ns:ci),Reps K H O (ns.map D.int) (ns.map V.int)
 | []=>.nil |n::r=>.cons (.int n) (vx r)
variable{lo:Int}
def zg1{hi:Int}(ok:Ok X.K G H0 W env σ H)(S:(-(2 ^ 62)<=lo/\lo<2 ^ 62/\-(2 ^ 62)<=hi/\hi<2 ^ 62))(U:(hi-lo).toNat<=2 ^ 20)(k:∀l us H',Step W H (addW W l) H'->Ok X.K G H0 W env σ H'->Ok X.K G H0 (addW W l) env σ H'->¬W l->H' l=↑(.lst us)->Reps X.K H' (Ow G (addW W l)) ((rngL lo hi).map D.int) us->Q (.ref l) H')(r:Addr)(Y:H r=none):∃L z I,[V.ref r]=[.ref L]/\(upd H r (.rng lo hi)) L=↑(.rng z I)/\(-(2 ^ 62)<=z/\z<2 ^ 62/\-(2 ^ 62)<=I/\I<2 ^ 62)/\(I-z).toNat<=2 ^ 20 /\
   ∀l,upd H r (.rng lo hi) l=none->Q (.ref l) (upd (upd H r (.rng lo hi)) l (.lst ((rngL z I).map V.int))):=by
 refine⟨r,lo,hi,rfl,ko,S,U,λl Z=>?_⟩;have sm:Same H (upd H r (.rng lo hi)):=tu Y;obtain⟨h1,h2,a,b,c,d⟩:=mz (ok.same sm) (vx (rngL lo hi)) Z;exact k l _ _ ((Step.same sm).trans h1) h2 a b c d
variable{p1 pos1:Pos}
theorem zs1(b:DAx X G H0 [a] F)(c:X.calm=true:=by rfl)(Y:Bn X "list":=by walk_at "b")(I:Bn X "range":=by walk_at "b")(e:starEach [a] X.env=[(false,eval a X.env)]:=by rfl)(Z:starEach [.Call (.Name "range" p1) [a] [] pos1] X.env=(false,eval (.Call (.Name "range" p1) [a] [] pos1) X.env)::starEach [] X.env:=by rfl) :
  DFx X G H0 (.Call (.Name "list" p') [.Call (.Name "range" p1) [a] [] pos1] [] pos) (gy ya F) :=
 ⟨(zo (zgc c) Y.g Y.m z9 (ln (zn0 I b.out e) mj Z) (by decide) (by decide) Z rfl).imp λσ H Q f=>by
  obtain⟨W,env,d,env',ok,q,k⟩:=f;cases e1:F env with
  |none=>simp[e1] at q |some z =>
    obtain⟨ds,D⟩:=z;cases e2:ya ds with
    |none=>simp[e1,e2] at q |some d' =>
      have q:↑(d',D)=↑(d,env'):=by simpa[gy,e1,e2] using q
      cases q;refine⟨W,env,ds,_,ok,e1,λW1 vs H1 h L p1=>?_⟩;unfold ya at e2;split at e2
      ·rename_i j
       split at e2
       ·rename_i S
        cases e2;obtain⟨v,rfl,i⟩:=ni p1;cases i;exact⟨j,rfl,λr n=>zg1 L ⟨by lia,by lia,S.1,by have:=S.2;lia⟩ (by have:=S.2;lia) (λl us H2 s2 U V o p s=>k W1 l us H2 (h.trans s2) U V o p s) r n⟩
       ·cases e2
      ·cases e2⟩
theorem zkg(e:DAx X G H0 [a,b] F)(f:X.calm=true:=by rfl)(Z:Bn X "list":=by walk_at "b")(L:Bn X "range":=by walk_at "b")(h:starEach [a,b] X.env=[(false,eval a X.env),(false,eval b X.env)]:=by rfl)(S:starEach [b] X.env=[(false,eval b X.env)]:=by rfl)(c:starEach [.Call (.Name "range" p1) [a,b] [] pos1] X.env=(false,eval (.Call (.Name "range" p1) [a,b] [] pos1) X.env)::starEach [] X.env:=by rfl) :
  DFx X G H0 (.Call (.Name "list" p') [.Call (.Name "range" p1) [a,b] [] pos1] [] pos) (gy qh F) :=
 ⟨(zo (zgc f) Z.g Z.m z9 (ln (zn1 L e.out h S) mj c) (by decide) (by decide) c rfl).imp λσ H Q n=>by
  obtain⟨W,env,d,env',ok,q,k⟩:=n;cases e1:F env with
  |none=>simp[e1] at q |some z =>
    obtain⟨ds,D⟩:=z;cases e2:qh ds with
    |none=>simp[e1,e2] at q |some d' =>
      have q:↑(d',D)=↑(d,env'):=by simpa[gy,e1,e2] using q
      cases q;refine⟨W,env,ds,_,ok,e1,λW1 vs H1 o U p1=>?_⟩;unfold qh at e2;split at e2
      ·rename_i i j
       split at e2
       ·rename_i I
        cases e2;obtain⟨v,y,rfl,p,s⟩:=xt p1;cases p;cases s;exact⟨i,j,rfl,λr t=>zg1 U ⟨by have:=I.1.1;lia,by have:=I.1.2;lia,I.2.1.1,I.2.1.2⟩ (by have:=I.2.2.2;lia) (λl us H2 s2 V Y u w x=>k W1 l us H2 (o.trans s2) V Y u w x) r t⟩
       ·cases e2
      ·cases e2⟩
abbrev FO:=DE0->Option (dt×DE0)
def tDO(K:eb)(G:Gd)(H0:Hp)(f:FO):TO:=λσ H Q=>DP K G H0 f (λW env o env'=> ∀W' H',Step W H W' H'->Ok K G H0 W' env' σ H'->Q o H') σ H
structure DOx (X:Cx) (G:Gd) (H0:Hp) (e:Option Expr) (f:FO):Prop where
 out:PO X e (tDO X.K G H0 f)
variable{t':TI}
def PO.imp{e:Option Expr}{t t':TO}(h:PO X e t)(i:∀σ H Q,t' σ H Q->t σ H Q):PO X e t':=λpins s σ H Q I q=>h pins s σ H Q I (i σ H Q q)
@[simp] def fO0:FO:=λe=>↑(none,e)
@[simp] def fO1(f:FE):FO:=λe=>(f e).bind λr=>match r.1 with | .int i=>↑(↑i,r.2) |_=>none
def ve  : DOx X G H0 none fO0:=⟨zsk.imp λσ H Q ⟨W,env,o,env',ok,q,k⟩=>by cases q;exact k W H Step.refl ok⟩
def vd(h:DEx X G H0 e f):DOx X G H0 ↑e (fO1 f):=⟨(zsl h.out).imp λσ H Q I=>by
 obtain⟨W,env,o,env',ok,q,k⟩:=I;cases e1:f env with
 |none=>simp[e1] at q |some r =>
   obtain⟨d,z⟩:=r;cases d with
   |int i =>
     have q:↑(↑i,z)=↑(o,env'):=by simpa[fO1,e1] using q
     cases q;exact⟨W,env,_,_,ok,e1,λW1 S H1 L D p1=>⟨i,p1.int_,k W1 H1 L D⟩⟩
   |_=>simp[e1] at q⟩
def cutD(xs:em)(lo hi:dt):em:=(xs.drop (HT.sIx xs.length 0 lo)).take (HT.sIx xs.length xs.length hi-HT.sIx xs.length 0 lo)
def Reps.cut(r:Reps K H O ds vs)(lo hi:dt):Reps K H O (cutD ds lo hi) (cutV vs lo hi):=by
 unfold cutD cutV;rw[r.length];exact(r.drop _).take _
@[simp] def fSl(f:FE)(l h:FO):FA:=λe=>(f e).bind λr=>(l r.2).bind λz=>(h z.2).bind λD=>match r.1 with | .lst ds=>↑(cutD ds z.1 D.1,D.2) |_=>none
def ur{lo hi:Option Expr}{fl S:FO}{sp:Pos}(c:DEx X G H0 a f)(e:DOx X G H0 lo fl)(g:DOx X G H0 hi S) :
  DFx X G H0 (.Subscript a (.Slice lo hi none sp) pos) (fSl f fl S):=⟨(zpn zso c.out e.out g.out).imp λσ H Q i=>by
 obtain⟨W,env,d,env',ok,q,k⟩:=i;cases e1:f env with
 |none=>simp[e1] at q |some r =>
   obtain⟨j,z⟩:=r;cases e2:fl z with
   |none=>simp[e1,e2] at q |some r2 =>
     obtain⟨Y,D⟩:=r2;cases e3:S D with
     |none=>simp[e1,e2,e3] at q |some r3 =>
       obtain⟨Z,I⟩:=r3;cases j with
       |lst ds =>
         have q:↑(cutD ds Y Z,I)=↑(d,env'):=by simpa[fSl,e1,e2,e3] using q
         cases q;refine⟨W,env,_,_,ok,e1,λW1 x H1 m L p1=>⟨W1,z,_,_,L,e2,λn H2 s2 U=>⟨n,D,_,_,U,e3,λo y b V=>?_⟩⟩⟩;obtain⟨l,us,rfl,h,r⟩:=(L.rep (s2.trans b) p1).lst_;refine⟨l,us,rfl,h.sq,λp s=>?_⟩;obtain⟨h1,h2,t,u,v,w⟩:=mz V (r.cut Y Z) s;exact k o p _ _ (((m.trans s2).trans b).trans h1) h2 t u v w
       |_=>simp[e1,e2,e3] at q⟩
def zx6(K:eb):R2:=λx y H Q=>∃l b xs z,x=.ref l/\y=.ref b/\SqL K H l xs/\SqL K H b z/\xs.length+z.length<=sizeLine/\∀p,H p=none->Q (.ref p) (upd H p (.lst (xs++z)))
theorem zs2:OpR X (binaryOp .Add) (zx6 X.K):=by
 intro pins s σ H x y v u Q I e f h;obtain⟨l,b,xs,t,rfl,rfl,g,i,w,q⟩:=h;cases e;cases f;obtain⟨its,r,⟨⟨cls,A,data,j⟩,n,a,k,U,hd⟩,z⟩:=I.list g;obtain⟨D,c,⟨⟨d,m,data2,V⟩,o,L,Y,S,Z⟩,B⟩:=I.list i;subst k hd Y Z U S;have C:=r.length;have p:=c.length;refine concat_meets ⟨_,a,rfl⟩ ⟨_,L,rfl⟩ noFill_list_add seq_list_add PySem.F.slot_list_add PySem.F.entry_list_add (PySem.F.args_list_add_2 _ _) (list_addW l b its.toArray D.toArray n o none none j V (by simp;lia)) ⟨a,L,?_⟩;have ea:its.toArray++D.toArray=(its++D).toArray:=by simp
 rw[ea];exact⟨.ref _,_,I.lnew (t':=s.toks) (r.append c) (by rw[aj];lia),rfl,q _ I.fresh⟩
@[simp] def fCat(f g:FE):FA:=λe=>(f e).bind λr=>(g r.2).bind λq=>match r.1,q.1 with | .lst ds,.lst es=>if Few (ds.length+es.length) then ↑(ds++es,q.2) else none |_,_=>none
def u5(Y:DEx X G H0 a f)(Z:DEx X G H0 b g):DFx X G H0 (.BinOp a .Add b pos) (fCat f g):=⟨(x6 zs2 Y.out Z.out).imp λσ H Q c=>by
 obtain⟨W,env,d,env',ok,q,k⟩:=c;cases e1:f env with
 |none=>simp[e1] at q |some r =>
   obtain⟨e,z⟩:=r;cases e2:g z with
   |none=>simp[e1,e2] at q |some r2 =>
     obtain⟨i,D⟩:=r2;cases e with
     |lst ds =>
       cases i with
       |lst es =>
         by_cases L:Few (ds.length+es.length)
         ·have q:↑(ds++es,D)=↑(d,env'):=by simpa only[fCat,e1,e2,ab,if_pos L] using q
          cases q;refine⟨W,env,_,_,ok,e1,λW1 w H1 j I p1=>⟨W1,z,_,_,I,e2,λm v2 H2 s2 S p2=>?_⟩⟩;obtain⟨l,us,rfl,h,r⟩:=(I.rep s2 p1).lst_;obtain⟨o,U,rfl,h',V⟩:=p2.lst_;refine⟨l,o,us,U,rfl,rfl,h.sq,h'.sq,?_,λn p=>?_⟩
          ·rw[<-r.length,<-V.length];exact bi L (by rw[sizeLine_eq];decide)
          ·obtain⟨h1,h2,s,t,u,v⟩:=mz S (r.append V) p
           exact k m n _ _ ((j.trans s2).trans h1) h2 s t u v
         ·simp only[fCat,e1,e2,ab,if_neg L] at q;cases q
       |_=>simp[e1,e2] at q
     |_=>simp[e1,e2] at q⟩
@[simp] def g5(i:Nat):FE:=λe=>match e[i]? with
 |some ↑(.ow ds)=>↑(.int ds.length,e) |some ↑(.sh (.lst ds))=>↑(.int ds.length,e) |some ↑(.sh (.tup ds))=>↑(.int ds.length,e) |_=>none
def jg(an:Ats Nn Cn X)(L:Bn X "len":=by walk_at "b")(I:Nn[i]?=↑x:=by rfl)(S:starEach [.Name x p1] X.env=(false,eval (.Name x p1) X.env)::starEach [] X.env:=by rfl):DEx X G H0 (.Call (.Name "len" p') [.Name x p1] [] pos) (g5 i) :=
 ⟨(vo zgb L.g L.m PySem.boot_len (ln ((an.a I).pe) mj S) (by decide) (by decide) S rfl).imp λσ H Q U=>by
  obtain⟨W,env,d,env',ok,q,k⟩:=U;unfold g5 at q;split at q
  ·rename_i ds z
   cases q;obtain⟨v,D,l,vs,rfl,Y,V,r⟩:=ok.slot i _ z;exact⟨_,D,l,vs,rfl,.inl (.inl (.inl V)),by rw[<-r.length];exact k W _ H Step.refl ok (.int _)⟩
  ·rename_i ds z
   cases q;obtain⟨v,D,r⟩:=ok.slot i _ z;obtain⟨l,us,rfl,h,r⟩:=Rep.lst_ r;exact⟨_,D,l,us,rfl,.inl h.sq,by rw[<-r.length];exact k W _ H Step.refl ok (.int _)⟩
  ·rename_i ds z
   cases q;obtain⟨v,D,r⟩:=ok.slot i _ z;obtain⟨l,us,rfl,h,r⟩:=Rep.tup_ r;exact⟨_,D,l,us,rfl,.inr (SqT.of h),by rw[<-r.length];exact k W _ H Step.refl ok (.int _)⟩
  ·cases q⟩
@[simp] def ixSl:D->Option et->ep
 | .int k,↑↑(.ow ds)=>atI ds k | .int k,↑↑(.sh (.lst ds))=>atI ds k | .int k,↑↑(.sh (.tup ds))=>atI ds k |_,_=>none
@[simp] def fIxV(i:Nat)(g:FE):FE:=λe=>match e[i]? with
 |some ↑_=>(g e).bind λr=>(ixSl r.1 r.2[i]?).map λd=>(d,r.2)
 |_=>none
def gg(j:DEx X G H0 b g)(an:Ats Nn Cn X)(m:tm b:=by intro _ _;rfl)(Y:Nn[i]?=↑x:=by rfl):DEx X G H0 (.Subscript (.Name x p1) b pos) (fIxV i g) :=
 ⟨(xy ym ((an.a Y).pe) j.out m).imp λσ H Q n=>by
  obtain⟨W,env,d,env',ok,q,k⟩:=n;unfold fIxV at q;split at q;case h_2=>cases q
  rename_i p Z;obtain⟨v,V,_⟩:=ok.slot i _ Z;cases e1:g env with
  |none=>rw[e1] at q;cases q
  |some r =>
    obtain⟨e,I⟩:=r;rw[e1,ab] at q;cases e3:ixSl e I[i]? with
    |none=>rw[e3] at q;cases q
    |some d' =>
      rw[e3] at q;cases q;refine⟨v,V,W,env,e,_,ok,e1,λW1 s H1 c z p1=>?_⟩;unfold ixSl at e3;split at e3
      ·rename_i kk ds L
       obtain⟨f,D,l,vs,rfl,t,o,r⟩:=z.slot i _ L;rw[V] at D;cases D;obtain⟨u,S,U⟩:=tf r e3;exact .inl ⟨l,vs,kk,u,rfl,p1.int_,.inl (.inl o),S,k W1 _ H1 c z U⟩
      ·rename_i kk ds L
       obtain⟨f,D,r⟩:=z.slot i _ L;rw[V] at D;cases D;obtain⟨l,us,rfl,h,r⟩:=Rep.lst_ r;obtain⟨u,S,U⟩:=tf r e3;exact .inl ⟨l,us,kk,u,rfl,p1.int_,h.sq,S,k W1 _ H1 c z U⟩
      ·rename_i kk ds L
       obtain⟨f,D,r⟩:=z.slot i _ L;rw[V] at D;cases D;obtain⟨l,us,rfl,h,r⟩:=Rep.tup_ r;obtain⟨u,S,U⟩:=tf r e3;exact .inr (.inl ⟨l,us,kk,u,rfl,p1.int_,SqT.of h,S,k W1 _ H1 c z U⟩)
      ·cases e3⟩
@[simp] def tyD:D->String | .non=>"NoneType" | .bl _=>"bool" | .int _=>"int" | .str _=>"str" | .tup _=>"tuple" | .lst _=>"list" | .dct _ _=>"dict" | .exc _=>"exc"
@[simp] def isiT(t T:String):Bool:=t==T || (t=="bool" && T=="int")
def yq(T:String):Bool:=T=="int" || T=="bool" || T=="str" || T=="tuple" || T=="list"
def zpx(K:eb)(d:D)(T:String)(h:yq T=true)(hd:∀a,d≠.exc a):PySem.W.kitOne K (.type (tyD d)) (.type T)=↑(isiT (tyD d) T):=by
 simp only[yq,Bool.or_eq_true,beq_iff_eq] at h;rcases h with(((rfl |rfl) |rfl) |rfl) |rfl <;> cases d <;> first |rfl |exact absurd rfl (hd _)
def zpy:l9 X (.builtin "isinstance") (λxs H Q=>∃x T t b,xs=[x,.ty T]/\(TyOf X.K H x t\/(t=.type "list"/\∃a us,x=.ref a/\SqL X.K H a us))/\PySem.W.kitOne X.K t (.type T)=↑b/\Q (.bl b) H):=by
 intro pins s σ H xs us Q I r h;obtain⟨x,T,t,b,rfl,D,e,q⟩:=h;obtain⟨u,S,rfl,L,rt⟩:=x0 r;cases (show S=Value.type T from rt);rcases D with D | ⟨rfl,a,ws,rfl,hq⟩
 ·exact znl I L D e λtk=>⟨.bl b,H,I.tok tk,rfl,q⟩
 ·cases (show u=Value.ref a from L)
  obtain⟨its,_,⟨o,n,h1,h2,_⟩,_⟩:=I.list hq;exact di k4 I.kIn ⟨o,h1,h2⟩ e (λz=>nomatch z) λtk=>⟨.bl b,H,I.tok tk,rfl,q⟩
def zwe(r:Rep K H O d v)(hd:∀a,d≠.exc a):TyOf K H v (.type (tyD d))\/(Value.type (tyD d)=.type "list"/\∃a us,v=.ref a/\SqL K H a us):=by
 cases r with
 |non=>exact .inl .non |bl b=>exact .inl (.bl b) |int i=>exact .inl (.int i)
 |str s=>exact .inl (.str s) |tup h _=>exact .inl (.tup h) |lst o h _=>exact .inr ⟨rfl,_,_,rfl,.inl h⟩ |klst h _=>exact .inr ⟨rfl,_,_,rfl,.inr h⟩ |dct h _=>exact .inl (.dK h) |exc a=>exact absurd rfl (hd a)
def zpz:bootBuiltins "isinstance" = ↑(.builtin "isinstance"):=by decide +kernel
@[simp] def fIsi(T:String)(f:FE):FE:=λe=>(f e).bind λr=>match r.1 with | .exc _=>none |d=>↑(.bl (isiT (tyD d) T),r.2)
structure Ty (x:Str) (T:String):Prop where
 b:bootBuiltins x=↑(.type T)
 k:yq T=true
 d:(x==("__debug__" : Str))=false
 n:x ≠ "__name__"
def oz(z:Ty x T)(Z:DEx X G H0 a f)(V:Bn X "isinstance":=by walk_at "b")(D:Gl X x:=by walk_at "g")(I:X.mg x=none:=by assumption)(Y:starEach [a,.Name x p1] X.env=(false,eval a X.env)::starEach [.Name x p1] X.env:=by rfl)(L:starEach [.Name x p1] X.env=(false,eval (.Name x p1) X.env)::starEach [] X.env:=by rfl)(S:(backTo pos (starEach [.Name x p1] X.env)).any (·.1)=false:=by rfl) :
  DEx X G H0 (.Call (.Name "isinstance" p') [a,.Name x p1] [] pos) (fIsi T f) :=
 ⟨(vo zpy V.g V.m zpz (ln Z.out (ln (zr3 (v:=.ty T) D I z.b rfl z.n z.d) mj L) Y) (by decide) (by decide) Y S).imp λσ H Q c=>by
  obtain⟨W,env,d,env',ok,q,k⟩:=c;cases e1:f env with
  |none=>simp[e1] at q |some r =>
    unfold fIsi at q;rw[e1,ab] at q;split at q
    ·cases q
    ·rename_i hd
     cases q;exact⟨W,env,_,_,ok,e1,λW1 e H1 h U p1=>⟨e,T,_,_,rfl,zwe p1 hd,zpx X.K _ T z.k hd,k W1 _ H1 h U (.bl _)⟩⟩⟩
abbrev FI:=DE0->Option (em×DE0)
structure Walk (K:eb) (G:Gd) (J:It) (W:Addr->Prop) (H:Hp) (ds:em):Prop where
 go:∀W' H' (i:Nat) d,Step W H W' H'->ds[i]?=↑d->J.go i H'/\∀x H'',J.yld i H' x H''->H''=H'/\Rep K H' (Ow G W') d x
 stop:∀W' H',Step W H W' H'->J.stop ds.length H'
def tDI(K:eb)(G:Gd)(H0:Hp)(f:FI):TI:=λσ H R=>DP K G H0 f (λW env ds env' =>
 ∀W' J H',Step W H W' H'->Ok K G H0 W' env' σ H'->Walk K G J W' H' ds->R J H') σ H
structure DIC (Cm:Cx->Prop) (X:Cx) (G:Gd) (H0:Hp) (tg:Expr) (e:Expr) (f:FI):Prop where
 out:PIC Cm X tg e (tDI X.K G H0 f)
abbrev DIx:=DIC λX=>X.calm=true
def PI.imp(h:PI X tg e t)(i:∀σ H Q,t' σ H Q->t σ H Q):PI X tg e t':=λpins s σ H Q I q=>h pins s σ H Q I (i σ H Q q)
def PIC.imp(h:PIC Cm X tg e t)(i:∀σ H Q,t' σ H Q->t σ H Q):PIC Cm X tg e t':=λpins s σ H Q I q=>h pins s σ H Q I (i σ H Q q)
def zn3{a:Addr}(ok:Ok X.K G H0 W env σ H)(h:LsOk X.K H (Ow G W) a vs)(r:Reps X.K H (Ow G W) ds vs):Walk X.K G (Itl X.K a) W H ds where
 go:=λW' H' i d st e=>by
  obtain⟨v,z,D⟩:=(ok.reps st r).get e;have h':=(ok.lsstep st h).sq;exact⟨⟨vs,v,h',z⟩,λx H'' ⟨e2,y⟩=>⟨e2,by have:=y vs h';rw[z] at this;cases this;exact D⟩⟩
 stop:=λW' H' st=>⟨vs,(ok.lsstep st h).sq,by rw[r.length];exact bg _⟩
def zp0{a:Addr}(ok:Ok X.K G H0 W env σ H)(h:H a=↑(.tup vs))(r:Reps X.K H (Ow G W) ds vs):Walk X.K G (Itt X.K a) W H ds where
 go:=λW' H' i d st e=>by
  obtain⟨v,z,D⟩:=(ok.reps st r).get e;have h':=ok.tstep st a vs h;exact⟨⟨vs,v,SqT.of h',z⟩,λx H'' ⟨e2,y⟩=>⟨e2,by have:=y vs (SqT.of h');rw[z] at this;cases this;exact D⟩⟩
 stop:=λW' H' st=>⟨vs,SqT.of (ok.tstep st a vs h),by rw[r.length];exact bg _⟩
def zlc:Walk X.K G (Itr lo n) W H ((List.range n).map λ(k:Nat)=>D.int (lo+(k:Int))) where
 go:=λW' H' i d st e=>by
  rw[bu] at e;have hi:i<n:=by
   have:=(aq.mp (show((List.range n).map λ(k:Nat)=>D.int (lo+(k:Int)))[i]?=↑d by rw[bu];exact e)).1;simpa using this
  rw[iy hi] at e;cases e;exact⟨hi,λx H'' ⟨e2,y⟩=>⟨e2,by rw[y];exact .int _⟩⟩
 stop:=λW' H' st=>by rw[ac,ie];exact bg _
@[simp] def fiS(f:FE):FI:=λe=>(f e).bind λr=>match r.1 with | .lst ds=>↑(ds,r.2) | .tup ds=>↑(ds,r.2) |_=>none
def PI.or(h:PI X tg e t)(h':PI X tg e t'):PI X tg e (λσ H R=>t σ H R\/t' σ H R):=λpins s σ H R I q=>q.elim (h pins s σ H R I) (h' pins s σ H R I)
def kh(h:DEx X G H0 e f):DIx X G H0 tg e (fiS f):=⟨((zsa h.out).or (zu6 h.out)).imp λσ H R L=>by
 obtain⟨W,env,ds,env',ok,q,k⟩:=L;cases e1:f env with
 |none=>simp[e1] at q |some r =>
   obtain⟨d,D⟩:=r;cases d with
   |lst ds' =>
     have q:↑(ds',D)=↑(ds,env'):=by simpa[fiS,e1] using q
     cases q;refine .inl ⟨W,env,_,_,ok,e1,λW1 S H1 I z p1=>?_⟩;obtain⟨a,vs,rfl,h.out,r⟩:=p1.lst_;exact⟨a,rfl,⟨vs,h.out.sq⟩,k W1 _ H1 I z (zn3 z h.out r)⟩
   |tup ds' =>
     have q:↑(ds',D)=↑(ds,env'):=by simpa[fiS,e1] using q
     cases q;refine .inr ⟨W,env,_,_,ok,e1,λW1 S H1 I z p1=>?_⟩;obtain⟨a,vs,rfl,h.out,r⟩:=p1.tup_;exact⟨a,rfl,⟨vs,SqT.of h.out⟩,k W1 _ H1 I z (zp0 z h.out r)⟩
   |_=>simp[e1] at q⟩
def rngD(lo:Int)(n:Nat):em:=(List.range n).map λ(k:Nat)=>D.int (lo+(k:Int))
def iR1(ds:em):Option em:=match ds with | [.int j]=>if Bnd (-(2 ^ 62)) (2 ^ 62) j then ↑(rngD 0 j.toNat) else none |_=>none
def iR2(ds:em):Option em:=match ds with | [.int i,.int j]=>if Bnd (-(2 ^ 62)) (2 ^ 62) i/\Bnd (-(2 ^ 62)) (2 ^ 62) j then ↑(rngD i (j-i).toNat) else none |_=>none
def zmk(hT:∀(it:Addr) (lo:Int) (n:Nat),qq Cm X.prog X.w X.K tg (Itr lo n) [it] it (λi h=>IsRangeIter h it (lo+(i:Nat)*1) ((n:Int)-(i:Nat)) 1))(U:DAx X G H0 [a] F)(L:Bn X "range":=by walk_at "b")(V:starEach [a] X.env=[(false,eval a X.env)]:=by rfl):DIC Cm X G H0 tg (.Call (.Name "range" p') [a] [] pos) (gy iR1 F) :=
 ⟨PIC.imp (zl9 hT L.g L.m U.out V) λσ H R Y=>by
  obtain⟨W,env,ds,env',ok,q,k⟩:=Y;cases e1:F env with
  |none=>simp[e1] at q |some z =>
    obtain⟨as,D⟩:=z;cases e2:iR1 as with
    |none=>simp[e1,e2] at q |some d' =>
      have q:↑(d',D)=↑(ds,env'):=by simpa[gy,e1,e2] using q
      cases q;refine⟨W,env,as,_,ok,e1,λW1 vs H1 Z I p1=>?_⟩;unfold iR1 at e2;split at e2
      ·rename_i j
       split at e2
       ·rename_i S
        cases e2;obtain⟨v,rfl,b⟩:=ni p1;cases b;exact⟨j,rfl,S.1,S.2,k W1 _ H1 Z I zlc⟩
       ·cases e2
      ·cases e2⟩
def n8(z:DAx X G H0 [a] F)(D:Bn X "range":=by walk_at "b")(I:starEach [a] X.env=[(false,eval a X.env)]:=by rfl):DIx X G H0 tg (.Call (.Name "range" p') [a] [] pos) (gy iR1 F):=zmk (λit lo n=>zhu it lo n) z D I
def zn4(V:DAx X G H0 [a,b] F)(U:Bn X "range":=by walk_at "b")(Y:starEach [a,b] X.env=[(false,eval a X.env),(false,eval b X.env)]:=by rfl)(L:starEach [b] X.env=[(false,eval b X.env)]:=by rfl) :
  DIx X G H0 tg (.Call (.Name "range" p') [a,b] [] pos) (gy iR2 F) :=
 ⟨(zne U.g U.m V.out Y L).imp λσ H R Z=>by
  obtain⟨W,env,ds,env',ok,q,k⟩:=Z;cases e1:F env with
  |none=>simp[e1] at q |some z =>
    obtain⟨as,D⟩:=z;cases e2:iR2 as with
    |none=>simp[e1,e2] at q |some d' =>
      have q:↑(d',D)=↑(ds,env'):=by simpa[gy,e1,e2] using q
      cases q;refine⟨W,env,as,_,ok,e1,λW1 vs H1 c S p1=>?_⟩;unfold iR2 at e2;split at e2
      ·rename_i i j
       split at e2
       ·rename_i I
        cases e2;obtain⟨v,f,rfl,d,e⟩:=xt p1;cases d;cases e;exact⟨i,j,rfl,⟨I.1.1,I.1.2,I.2.1,I.2.2⟩,k W1 _ H1 c S zlc⟩
       ·cases e2
      ·cases e2⟩
def capt:et->et |some (.sh d)=>↑(.sh d) |_=>none
def j0(tt:FT)(te:FE)(base:DE0):em->Option em
 | []=>↑[] |d::r=>(tt (↑(.sh d)::base)).bind λb=>if b.1=true then(te b.2).bind λv=>(j0 tt te base r).map (v.1::·) else j0 tt te base r
def iw(fi:FI)(ix:cd)(tt:FT)(te:FE):FA:=λe=>(fi e).bind λr=>if Few r.1.length then(j0 tt te (ix.map λj=>capt (r.2.getD j none)) r.1).map λds=>(ds,r.2) else none
@[simp] def fYes:FT:=λe=>↑(true,e)
def tDxT(K:eb)(f:FT):TT:=λσ H Q=>∃G H0,tDT K G H0 f σ H Q
def tDx(K:eb)(f:FE):TE:=λσ H Q=>∃G H0,tD K G H0 f σ H Q
def NoW:Addr->Prop:=λ_=>False
def zg(ok:Ok X.K G H0 W env σ H)(r:Rep X.K H (Ow G W) d v) :
  Ok X.K (gd λa=>Ow G W a\/H a=none) H NoW (↑(.sh d)::ix.map λj=>capt (env.getD j none)) (↑v::ix.map λj=>σ.getD j none) H:=by
 have S:∀ {d:D} {v:V},Rep X.K H (Ow G W) d v->Rep X.K H (Ow (gd λa=>Ow G W a\/H a=none) NoW) d v:=λr=>r.mono (λ_ _ h=>h) λa us o h=>⟨⟨.inl o,λz=>z⟩,h⟩;have I:∀(i:Nat) (s:Sl),(↑(Sl.sh d)::ix.map λj=>capt (env.getD j none))[i]?=↑↑s->∃d',s=.sh d':=λi s z=>by
  cases i with
  |zero=>exact⟨d,by simpa using z.symm⟩ |succ i =>
    simp only[af,bu] at z;cases q:ix[i]? with
    |none=>rw[q] at z;cases z
    |some j =>
      rw[q] at z;have z:capt (env.getD j none)=↑s:=ay z;unfold capt at z;split at z
      ·cases z;exact⟨_,rfl⟩
      ·cases z
 refine⟨Same.refl _,λa z=>.inr z,λl z=>z.elim,λi s e=>?_,λi j U s2 Z v2 a L _ _ _ o _=>by obtain⟨d',rfl⟩:=I i U L;exact o.elim,by simp⟩;cases i with
 |zero =>
   cases e;exact⟨v,rfl,S r⟩
 |succ i =>
   simp only[af,bu] at e ⊢;cases q:ix[i]? with
   |none=>rw[q] at e;cases e
   |some j =>
     rw[q] at e;have e:capt (env.getD j none)=↑s:=ay e;rw[ae] at e;cases q2:env[j]? with
     |none=>rw[q2] at e;cases e
     |some o =>
       rw[q2] at e;have e:capt o=↑s:=e;unfold capt at e;split at e
       ·rename_i d'
        cases e;obtain⟨u,L,Y⟩:=ok.slot j _ q2;exact⟨u,by simp only[av];rw[ae,L];rfl,S Y⟩
       ·cases e
inductive CInv (K:eb) (O:Addr->Prop) (H1:Hp) (ds d:em) (f:em->Option em) (i m:Nat) (H':Hp) (ys:el):Prop
 |mk (rest done:em) (hm:m=ds.length-i) (hi:i<=ds.length) (sm:Same H1 H') (rp:Reps K H' O done ys) (hd:done.length<=i) (ec:f (ds.drop i)=↑rest) (hz:d=done++rest):CInv K O H1 ds d f i m H' ys
def vk:2 ^ 20<=sizeLine:=by rw[sizeLine_eq];decide
variable{te:FE}{fi:FI}
theorem zrh{tt:FT}:∀σ H Q,tDF X.K G H0 (iw fi ix tt te) σ H Q->ph (tDI X.K G H0 fi) ix (tDxT X.K tt) (tDx X.K te) σ H Q:=λσ H Q z=>by
 obtain⟨W,env,d,env',ok,q,k⟩:=z;obtain⟨⟨ds,Z⟩,C,q⟩:=cv.mp q;by_cases n:Few ds.length;case neg=>cases (if_neg n).symm.trans q
 obtain⟨u,E,q⟩:=ib.mp ((if_pos n).symm.trans q);cases q;refine⟨W,env,ds,_,ok,C,λW1 J H1 F r A=>⟨CInv X.K (Ow G W1) H1 ds d (j0 tt te (ix.map λj=>capt (Z.getD j none))),⟨ds.length,d,[],rfl,eo _,Same.refl _,.nil,bg _,E,rfl⟩,λi m H' ys z=>?_⟩⟩;obtain⟨rest,S,M,hi,sm,c,hd,L,s⟩:=z;subst M;have D:=r.same sm;by_cases I:i<ds.length
 ·rw[ft I] at L
  obtain⟨⟨b,U⟩,N,L⟩:=cv.mp L;obtain⟨O,P⟩:=A.go W1 H' i ds[i] (Step.same sm) (ak I);refine .inr ⟨O,λx t y=>?_⟩;obtain⟨e,R⟩:=P x t y;subst e;refine⟨_,_,NoW,_,b,U,zg (ix:=ix) D R,N,λT H2 s2 V=>?_⟩;have p:ds.length-(i+1)<ds.length-i:=j3 _ _ I;cases b with
  |false=>exact⟨_,p,rest,S,rfl,I,sm.trans V.stay,D.reps (Step.same V.stay) c,k8 hd,L,s⟩ |true =>
    obtain⟨⟨B,f⟩,e4,L⟩:=cv.mp L;obtain⟨Y,e5,e6⟩:=ib.mp L;refine⟨_,_,T,U,B,f,V,e4,λW3 v H3 s3 g r3=>⟨?_,_,p,Y,S++[B],rfl,I,sm.trans g.stay,(D.reps (Step.same g.stay) c).append (.cons (r3.mono (λ_ _ h=>h) λa us o h=>⟨?_,h⟩) .nil),?_,e5,?_⟩⟩
    ·rw[<-c.length];exact ba (Nat.lt_of_le_of_lt hd (ba I n)) vk
    ·rcases o.1 with z |z
     ·exact z
     ·exact⟨D.good a (D.stay.free z),λw=>by obtain⟨_,us,q⟩:=D.wl a w;rw[z] at q;cases q⟩
    ·rw[aj];exact lz hd
    ·rw[s,<-e6,cb];rfl
 ·cases nc hi (jh I)
  rw[im] at L;cases L;refine .inl ⟨A.stop W1 H' (Step.same sm),by rw[<-c.length];exact bi hd (bi n vk),λl p=>?_⟩;obtain⟨h1,h2,h3,h4,h5,h6⟩:=mz D c p;rw[s,ce] at k;exact k W1 l _ _ ((F.trans (Step.same sm)).trans h1) h2 h3 h4 h5 h6
variable{X':Cx}
def uy(D:X'.K=X.K):PIfs X' [] (tDxT X.K fYes):=λpins s σ H Q I z=>by
 obtain⟨G,H0,W,env,b,env',ok,e,k⟩:=z;cases e;exact zpr pins s σ H Q I (k W H Step.refl ok)
def el_x(z:X'.K=X.K)(h:∀G H0,DEx X' G H0 e te):PE X' e (tDx X.K te):=λpins s σ H Q I ⟨G,H0,q⟩=>(h G H0).out pins s σ H Q I (by rw[z];exact q)
def rc(an:Ats Nn Cn X)(hi:DIx X G H0 (.Name x px) a fi)(D:∀cl C s₂ H₂ fp G H0,Ats (x::(subN Nn ix)) (subN Nn ix) (ju X x (subN Nn ix) sc cl C s₂ H₂ fp)->DEx (ju X x (subN Nn ix) sc cl C s₂ H₂ fp) G H0 e te)(z:om Nn Cn ix x sc=true:=by decide +kernel)(I:X.calm=true:=by rfl)(L:∀v,foldedSetIterable a X.env v=pure v:=by intro _;rfl) :
  DFx X G H0 (.ListComp e [⟨.Name x px,a,[],0⟩] sc pos) (iw fi ix fYes te) :=
 ⟨(znv (vf an z) (λ_ _ _ _ _ _ _ _ _=>I) hi.out (λcl C s₂ H₂ fp _=>uy (X:=X) rfl) (λcl C s₂ H₂ fp _=>el_x (X:=X) rfl (λG H0=>D cl C s₂ H₂ fp G H0 (vn z))) L).imp zrh⟩
def Here(h h':Heap):Prop:=∀b o,h.get? b=↑o->∃o',h'.get? b=↑o'
def Here.trans{a b c:Heap}(x:Here a b)(y:Here b c):Here a c:=λp o q=>let ⟨o',e⟩:=x p o q;y p o' e
structure XOk (B:Heap) (l:cm) (e:Addr) (cls fl:Value) (h:Heap):Prop where
 stay:B.StaysIn h
 new:B.get? e=none
 fr:h.FunFrames B l
 tr:∃oe vs T oT ts,h.get? e=↑oe/\oe.cls=cls/\oe.dict=none/\oe.data=.fields vs/\vs[1]?=↑(.ref T)/\vs[2]?=some .none/\B.get? T=none/\T≠e/\h.get? T=↑oT/\oT.data=.fields ts/\ts[3]?=↑fl
end L2
namespace L2
open PySem PySem.Spec PyProof.Rows PySem.W
def Cl(K:eb)(c:Str)(C:Addr):Prop:=PySem.W.nsIn K mainGlobals c=↑↑(.ref C)
def Fly(P:Program)(w:World)(l:cm)(H:Hp)(s:Shared)(C e:Addr)(H':Hp)(s':Shared):Prop :=
 ∃B,XOk B l e (.ref C) .none s'.heap/\(∀b o,s.heap.get? b=↑o->H b=none->b∉frs l->B.get? b=↑o)/\HOk P w H' B/\Un (frs l) [] H H' s.heap s'.heap/\s'.os=s.os/\AllBare s'.gens
def XS(X:Cx)(pins:ed)(σ:St)(H:Hp)(C e:Addr)(s':Shared):Prop :=
 (∃s H1,Inv X pins σ H1 s/\Fly X.prog X.w X.stack H1 s C e H s')\/∃s args,Inv X pins σ H s/\Heap.MadeExcOf s.heap s'.heap e (.ref C) args/\s'={ s with heap:=s'.heap }
variable{CX:CXT}{P:Program}{w:World}{K:eb}{mg:Str->b5}{base:Heap}{x qual:Str}{st:Stmt}{f:Addr}{fd:FuncData}{N ps:b2}{k:Nat}{sp:Sp}
theorem Fun.okX(F:Fun K x qual st f fd)(S:o0 N ps (gn st))(len:∀vs H Q E,sp vs H Q E->vs.length=ps.length)(z:∀(cdv:Value) (A:Around) (outer:cm) (s:Shared) (H:Hp) (vs:el) (Q:VK) (E:XK),Room k (A.deeper (envOfC qual (gn st) s.heap.objs.size f cdv))->sp vs H Q E ->
   ∃t,PSs (cxOf CX P w K mg base N qual (gn st) f cdv A outer s H E) (kb st) t/\t { nx:=λ_ H'=>Q .non H',rt:=Q } (start N vs) H):FnOk P w K mg base CX (k+1) f fd ps sp:=by
 obtain⟨oc,od,kV,L,Z,an,cdv,ct,osl,rfl,U,D⟩:=F.ex;exact zvk U D S len λA outer s H vs Q E Y I=>z cdv A outer s H vs Q E Y I
theorem Fun.okC(F:Fun K x qual st f fd)(S:o0 N ps (gn st))(len:∀vs H Q E,sp vs H Q E->vs.length=ps.length)(z:∀(cdv:Value) (A:Around) (outer:cm) (s:Shared) (H:Hp) (vs:el) (Q:VK) (E:XK),Room k (A.deeper (envOfC qual (gn st) s.heap.objs.size f cdv))->sp vs H Q E ->
   ∃t,PSs (cxOf CX P w K mg base N qual (gn st) f cdv A outer s H E).nox (kb st) t/\t { nx:=λ_ H'=>Q .non H',rt:=Q } (start N vs) H):FnOk P w K mg base CX (k+1) f fd ps sp :=
 F.okX S len λcdv A outer s H vs Q E D h=>let ⟨t,p,q⟩:=z cdv A outer s H vs Q E D h;⟨t,p.nox,q⟩
end L2
namespace L2
open PySem PySem.Spec PyProof.Rows
inductive Fl where
 |nx |bk |ct |rt (d:D) |rf (ds:em) |r2 (dss:List em) |xc (c:Str) |ra (k:AK) (ps:er)
abbrev FS:=DE0->Option (Fl×DE0)
structure N2 (K:eb) (G:Gd) (H0 H:Hp) (l:Addr) (ls:cc) (dss:List em):Prop where
 nd:(l::ls).Nodup
 new:∀a∈l::ls,H0 a=none
 top:H l=↑(.lst (ls.map V.ref))
 len:ls.length=dss.length
 inn:∀(j:Nat) (ds:em) (a:Addr),dss[j]?=↑ds->ls[j]?=↑a->∃vs,H a=↑(.lst vs)/\Reps K H (λb=>G b/\b∉l::ls) ds vs
def EndOk(X:Cx)(G:Gd)(H0:Hp)(W:Addr->Prop)(H:Hp)(Dn:Ends)(env':DE0):Fl->Prop
 | .nx=>∀W' z H',Step W H W' H'->Ok X.K G H0 W' env' z H'->Dn.nx z H' | .bk=>∀W' z H',Step W H W' H'->Ok X.K G H0 W' env' z H'->Dn.bk z H' | .ct=>∀W' z H',Step W H W' H'->Ok X.K G H0 W' env' z H'->Dn.ct z H' | .rt d=>∀W' z v H',Step W H W' H'->Ok X.K G H0 W' env' z H'->Rep X.K H' (Ow G W') d v->Dn.rt v H' | .rf ds=>∀l vs H',Same H0 H'->H0 l=none->H' l=↑(.lst vs)->Reps X.K H' (λa=>G a/\a≠l) ds vs->Dn.rt (.ref l) H'
 | .r2 dss=>∀l ls H',Same H0 H'->N2 X.K G H0 H' l ls dss->Dn.rt (.ref l) H'
 | .xc c=>∀W' z H' C,Cl X.K c C->Step W H W' H'->Ok X.K G H0 W' env' z H'->∀pins e s',XS X pins z H' C e s'->X.xe (.ref e) s' | .ra k ps=>∀W' z p H',Step W H W' H'->Ok X.K G H0 W' env' z H'->SlOk X.K G W' H' (.ag k none ps) (.ref p)->Dn.rt (.ref p) H'
def tDS(X:Cx)(G:Gd)(H0:Hp)(g:FS):TS:=λDn σ H=>DP X.K G H0 g (λW env fl env'=> EndOk X G H0 W H Dn env' fl) σ H
structure DSx (X:Cx) (G:Gd) (H0:Hp) (s:Stmt) (g:FS):Prop where
 out:PS X s (tDS X G H0 g)
structure DBx (X:Cx) (G:Gd) (H0:Hp) (s:List Stmt) (g:FS):Prop where
 out:PSs X s (tDS X G H0 g)
variable{X:Cx}{e:Expr}{t t':TS}
def PS.imp{e:Stmt}(h:PS X e t)(i:∀D σ H,t' D σ H->t D σ H):PS X e t':=λpins s σ H D I q=>h pins s σ H D I (i D σ H q)
def PSs.imp{e:List Stmt}(h:PSs X e t)(i:∀D σ H,t' D σ H->t D σ H):PSs X e t':=λpins s σ H D I q=>h pins s σ H D I (i D σ H q)
variable{G:Gd}{W W1:Addr->Prop}{H0 H H1:Hp}{Dn:Ends}{env':DE0}{fl:Fl}
def EndOk.step(st:Step W H W1 H1)(h:EndOk X G H0 W H Dn env' fl):EndOk X G H0 W1 H1 Dn env' fl:=by
 cases fl with
 |nx=>exact λW' D H' s o=>h W' D H' (st.trans s) o |bk=>exact λW' D H' s o=>h W' D H' (st.trans s) o |ct=>exact λW' D H' s o=>h W' D H' (st.trans s) o |rt d=>exact λW' D v H' s o=>h W' D v H' (st.trans s) o |rf ds=>exact h |r2 dss=>exact h |xc c=>exact λW' D H' C z s o=>h W' D H' C z (st.trans s) o |ra k ps=>exact λW' D p H' s o=>h W' D p H' (st.trans s) o
def Fl.out:Fl->Bool | .rt _=>true | .rf _=>true | .r2 _=>true | .xc _=>true | .ra _ _=>true |_=>false
variable{Dn':Ends}
protected def EndOk.go(I:fl.out=true)(h:EndOk X G H0 W H Dn env' fl)(e:Dn'.rt=Dn.rt)(st:Step W H W1 H1):EndOk X G H0 W1 H1 Dn' env' fl:=by
 cases fl with
 |nx=>cases I
 |bk=>cases I
 |ct=>cases I
 |rt d=>intro W' D v H' s o r;rw[e];exact h W' D v H' (st.trans s) o r
 |rf ds=>intro v vs H' s n l r;rw[e];exact h v vs H' s n l r
 |r2 dss=>intro v ls H' s n;rw[e];exact h v ls H' s n
 |xc c=>exact λW' D H' C z s o=>h W' D H' C z (st.trans s) o |ra k ps=>intro W' D p H' s o r;rw[e];exact h W' D p H' (st.trans s) o r
@[simp] def sNil:FS:=λe=>↑(.nx,e)
@[simp] def sSeq(g h:FS):FS:=λe=>(g e).bind λr=>match r.1 with | .nx=>h r.2 |_=>↑r
@[simp] def sSet(i:Nat)(f:FE):FS:=λe=>(f e).map λr=>(.nx,r.2.set i ↑(.sh r.1))
@[simp] def sOwn(i:Nat)(f:FA):FS:=λe=>(f e).map λr=>(.nx,r.2.set i ↑(.ow r.1))
@[simp] def sRet(f:FE):FS:=λe=>(f e).map λr=>(.rt r.1,r.2)
@[simp] def x9(f:FA):FS:=λe=>(f e).map λr=>(.rf r.1,r.2)
@[simp] def sIf(c:FT)(g h:FS):FS:=λe=>(c e).bind λr=>if r.1=true then g r.2 else h r.2
@[simp] def jm(f:FE):FS:=λe=>(f e).map λr=>(.nx,r.2)
@[simp] def sj:FS:=λ_=>none
def forL(i:Nat)(g:FS):em->DE0->Option (Fl×DE0)
 | [],e=>↑(.nx,e) |d::r,e=>(g (e.set i ↑(.sh d))).bind λq=>match q.1 with | .nx=>forL i g r q.2 | .ct=>forL i g r q.2 | .bk=>↑(.nx,q.2) | .rt d=>↑(.rt d,q.2) | .rf ds=>↑(.rf ds,q.2) | .r2 ds=>↑(.r2 ds,q.2) | .xc c=>↑(.xc c,q.2) | .ra k ps=>↑(.ra k ps,q.2)
@[simp] def sFor(i:Nat)(fi:FI)(g:FS):FS:=λe=>(fi e).bind λr=>forL i g r.1 r.2
def ke(c:FT)(g:FS):Nat->DE0->Option (Fl×DE0)
 |0,_=>none |n+1,e=>(c e).bind λr=>if r.1=true then(g r.2).bind λq=>match q.1 with | .nx=>ke c g n q.2 | .ct=>ke c g n q.2 | .bk=>↑(.nx,q.2) | .rt d=>↑(.rt d,q.2) | .rf ds=>↑(.rf ds,q.2) | .r2 ds=>↑(.r2 ds,q.2) | .xc c=>↑(.xc c,q.2) | .ra k ps=>↑(.ra k ps,q.2) else ↑(.nx,r.2)
def je  : DBx X G H0 [] sNil:=⟨zr5.imp λDn σ H z=>by
 obtain⟨W,env,fl,env',ok,q,k⟩:=z;cases q;exact k W σ H Step.refl ok⟩
variable{s:Stmt}{ss:List Stmt}{u v:FS}
def e7(h1:DSx X G H0 s u)(h2:DBx X G H0 ss v):DBx X G H0 (s::ss) (sSeq u v):=⟨(zpi h1.out h2.out).imp λDn σ H L=>by
 obtain⟨W,env,fl,env',ok,q,k⟩:=L;cases e1:u env with
 |none=>simp[e1] at q |some r =>
   obtain⟨D,z⟩:=r;refine⟨W,env,D,z,ok,e1,?_⟩;cases D with
   |nx =>
     have q:v z=↑(fl,env'):=by simpa[sSeq,e1] using q
     exact λW1 S H1 U I=>⟨W1,z,fl,env',I,q,k.step U⟩
   |bk =>
     have q:↑(Fl.bk,z)=↑(fl,env'):=by simpa[sSeq,e1] using q
     cases q;exact k
   |ct =>
     have q:↑(Fl.ct,z)=↑(fl,env'):=by simpa[sSeq,e1] using q
     cases q;exact k
   |rt d =>
     have q:↑(Fl.rt d,z)=↑(fl,env'):=by simpa[sSeq,e1] using q
     cases q;exact k
   |rf d =>
     have q:↑(Fl.rf d,z)=↑(fl,env'):=by simpa[sSeq,e1] using q
     cases q;exact k
   |r2 d =>
     have q:↑(Fl.r2 d,z)=↑(fl,env'):=by simpa[sSeq,e1] using q
     cases q;exact k
   |xc d =>
     have q:↑(Fl.xc d,z)=↑(fl,env'):=by simpa[sSeq,e1] using q
     cases q;exact k
   |ra d d' =>
     have q:↑(Fl.ra d d',z)=↑(fl,env'):=by simpa[sSeq,e1] using q
     cases q;exact k⟩
def fo(h:DSx X G H0 s u):DBx X G H0 [s] u:=⟨zr6 h.out⟩
variable{f:FE}{pos p':Pos}{x:Str}{i:Nat}
def zwf(L:X.N.Nodup)(hi:X.N[i]?=↑x:=by rfl)(S:DEx X G H0 e f)(ps:PS X (.Assign [.Name x p'] e pos) (tAsg (tD X.K G H0 f) (kc i))):DSx X G H0 (.Assign [.Name x p'] e pos) (sSet i f):=⟨ps.imp λDn σ H D=>by
 obtain⟨W,env,fl,env',ok,q,k⟩:=D;cases e1:f env with
 |none=>simp[e1] at q |some r =>
   have q:↑(Fl.nx,r.2.set i ↑(Sl.sh r.1))=↑(fl,env'):=by simpa[sSet,e1] using q
   cases q;exact⟨W,env,_,_,ok,e1,λW1 U H1 I z p1=>k W1 _ H1 I (z.set p1)⟩⟩
variable{F:FA}
def me(ps:PS X (.Assign [.Name x p'] e pos) (tAsg (tDF X.K G H0 F) (kc i))):DSx X G H0 (.Assign [.Name x p'] e pos) (sOwn i F):=⟨ps.imp λDn σ H I=>by
 obtain⟨W,env,fl,env',ok,q,k⟩:=I;cases e1:F env with
 |none=>simp[e1] at q |some r =>
   have q:↑(Fl.nx,r.2.set i ↑(Sl.ow r.1))=↑(fl,env'):=by simpa[sOwn,e1] using q
   cases q;exact⟨W,env,_,_,ok,e1,λW1 l vs H1 L z D S U V=>k (addW W1 l) _ H1 L (D.setO (.inr rfl) U V (z.noOwn S))⟩⟩
def ii(D:DEx X G H0 e f):DSx X G H0 (.Return ↑e pos) (sRet f):=⟨(yo D.out).imp λDn σ H I=>by
 obtain⟨W,env,fl,env',ok,q,k⟩:=I;cases e1:f env with
 |none=>simp[e1] at q |some r =>
   have q:↑(Fl.rt r.1,r.2)=↑(fl,env'):=by simpa[sRet,e1] using q
   cases q;exact⟨W,env,_,_,ok,e1,λW1 L H1 S z p1=>k W1 σ L H1 S z p1⟩⟩
def zs4(L:DFx X G H0 e F):DSx X G H0 (.Return ↑e pos) (x9 F):=⟨(yo L.out).imp λDn σ H S=>by
 obtain⟨W,env,fl,env',ok,q,k⟩:=S;cases e1:F env with
 |none=>simp[e1] at q |some r =>
   have q:↑(Fl.rf r.1,r.2)=↑(fl,env'):=by simpa[x9,e1] using q
   cases q;exact⟨W,env,_,_,ok,e1,λW1 l vs H1 Y D I Z U V=>k l vs H1 D.stay (I.wl l (.inr rfl)).1 U (V.mono (λ_ _ h=>h) λa us o h=>⟨⟨o.1,λz=>o.2 (.inr z)⟩,h⟩)⟩⟩
def fOwn(i:Nat):FA:=λe=>match e[i]? with |some ↑(.ow ds)=>↑(ds,e.set i none) |_=>none
@[simp] def ux(i:Nat):FS:=λe=>match e[i]? with |some ↑(.ow ds)=>↑(.rf ds,e) |_=>none
variable{Nn Cn:b2}
def zs5(an:Ats Nn Cn X)(D:Nn[i]?=↑x:=by rfl):DSx X G H0 (.Return ↑(.Name x p') pos) (ux i):=⟨(yo ((an.a D).pe)).imp λDn σ H L=>by
 obtain⟨W,env,fl,env',ok,q,k⟩:=L;unfold ux at q;split at q
 ·rename_i ds S
  cases q;obtain⟨v,U,l,vs,rfl,I,V,r⟩:=ok.slot i _ S;exact⟨_,U,k l vs H ok.stay (ok.wl l I).1 V (r.mono (λ_ _ h=>h) λa us o h=>⟨⟨o.1,λz=>o.2 (z ▸ I)⟩,h⟩)⟩
 ·cases q⟩
variable{c:Expr}{p:FT}
def jd{I L:List Stmt}(U:DTx X G H0 c p)(V:DBx X G H0 I u)(Y:DBx X G H0 L v):DSx X G H0 (.If c I L pos) (sIf p u v):=⟨(zxm U.out V.out Y.out).imp λDn σ H Z=>by
 obtain⟨W,env,fl,env',ok,q,k⟩:=Z;cases e1:p env with
 |none=>simp[e1] at q |some r =>
   obtain⟨t,z⟩:=r;refine⟨W,env,t,z,ok,e1,λW1 H1 S D=>?_⟩;cases t with
   |true=>rw[if_pos rfl];exact⟨W1,z,fl,env',D,by simpa[sIf,e1] using q,k.step S⟩ |false=>rw[if_neg bv];exact⟨W1,z,fl,env',D,by simpa[sIf,e1] using q,k.step S⟩⟩
def vj  : DSx X G H0 s sj:=⟨zpj.imp λDn σ H ⟨W,env,fl,env',ok,q,k⟩=>by cases q⟩
def ly(D:DEx X G H0 e f)(I:swapsWith e none pos.line X.env=pure false:=by rfl):DSx X G H0 (.Expr e pos) (jm f):=⟨(zr7 D.out I).imp λDn σ H L=>by
 obtain⟨W,env,fl,env',ok,q,k⟩:=L;cases e1:f env with
 |none=>simp[e1] at q |some r =>
   have q:↑(Fl.nx,r.2)=↑(fl,env'):=by simpa[jm,e1] using q
   cases q;exact⟨W,env,_,_,ok,e1,λW1 U H1 S z p1=>k W1 σ H1 S z⟩⟩
structure zwg (K:eb) (G:Gd) (J:It) (W:Addr->Prop) (H:Hp) (ds:em):Prop where
 go:∀W' H' (i:Nat) d,Step W H W' H'->ds[i]?=↑d->J.go i H'/\∀x H'',J.yld i H' x H''->Same H' H''/\Rep K H'' (Ow G W') d x
 stop:∀W' H',Step W H W' H'->J.stop ds.length H'
def tDJ(K:eb)(G:Gd)(H0:Hp)(f:FI):TI:=λσ H R=>DP K G H0 f (λW env ds env' =>
 ∀W' J H',Step W H W' H'->Ok K G H0 W' env' σ H'->zwg K G J W' H' ds->R J H') σ H
structure DJx (X:Cx) (G:Gd) (H0:Hp) (tg:Expr) (e:Expr) (f:FI):Prop where
 out:PI X tg e (tDJ X.K G H0 f)
variable{tg a:Expr}
def DIC.dj{f:FI}(h:DIx X G H0 tg a f):DJx X G H0 tg a f:=⟨h.out.imp λσ H R z=>by
 obtain⟨W,env,ds,env',ok,q,k⟩:=z;exact⟨W,env,ds,env',ok,q,λW' J H' st D w=>k W' J H' st D ⟨λI H2 i d s e=>⟨(w.go I H2 i d s e).1,λx L y=>by
  obtain⟨S,r⟩:=(w.go I H2 i d s e).2 x L y;cases S;exact⟨Same.refl _,r⟩⟩,w.stop⟩⟩⟩
def forK(k:DE0->Option (Fl×DE0))(q:Fl×DE0):Option (Fl×DE0):=match q.1 with | .nx=>k q.2 | .ct=>k q.2 | .bk=>↑(.nx,q.2) | .rt d=>↑(.rt d,q.2) | .rf ds=>↑(.rf ds,q.2) | .r2 ds=>↑(.r2 ds,q.2) | .xc c=>↑(.xc c,q.2) | .ra k ps=>↑(.ra k ps,q.2)
variable{W':Addr->Prop}{H':Hp}{N:b2}
def EndOk.loop{S:Fl}{D:DE0}{N:St->Hp->Prop}{kk:DE0->Option (Fl×DE0)}(k:EndOk X G H0 W H Dn env' fl)(st:Step W H W' H')(U:forK kk (S,D)=↑(fl,env'))(V:∀L z H2,Step W' H' L H2->Ok X.K G H0 L D z H2->kk D=↑(fl,env')->N z H2) :
  EndOk X G H0 W' H' { Dn with nx:=N,ct:=N,bk:=Dn.nx } D S:=by
 cases S with
 |nx=>exact λL z H2 s2 I=>V L z H2 s2 I U |ct=>exact λL z H2 s2 I=>V L z H2 s2 I U |bk=>cases U;exact λL z H2 s2 I=>k L z H2 (st.trans s2) I
 |_=>cases U;exact k.go rfl rfl st
inductive FInv (X:Cx) (G:Gd) (H0:Hp) (W1:Addr->Prop) (H1:Hp) (ds:em) (L:em->DE0->Option (Fl×DE0)) (r:Option (Fl×DE0)) (n m:Nat) (σ:St) (H:Hp):Prop
 |mk (W:Addr->Prop) (env:DE0) (hm:m=ds.length-n) (hn:n<=ds.length) (st:Step W1 H1 W H) (ok:Ok X.K G H0 W env σ H) (ef:L (ds.drop n) env=r):FInv X G H0 W1 H1 ds L r n m σ H
variable{g:FS}{body:List Stmt}{fi:FI}{b:Expr}{q:FT}
theorem zn5{g:TG}{b:D->DE0->Option DE0}{L:em->DE0->Option (Fl×DE0)}(hi:DJx X G H0 tg a fi)(i:PG X tg g)(F:DBx X G H0 body u)(M:∀ {W env env' σ H d x} {Q:St->Hp->Prop},Ok X.K G H0 W env σ H->Rep X.K H (Ow G W) d x->b d env=↑env'->(∀S,Ok X.K G H0 W env' S H->Q S H)->g x σ H Q)(N:∀e,L [] e=↑(.nx,e))(h1:∀d r e,L (d::r) e=(b d e).bind λe'=>(u e').bind λq=>forK (L r) q)(O:PassesOwn (model X.prog X.w) X.A X.env X.xe)(P:X.calm=true)(R:∀x,foldedSetIterable a X.env x=pure x):DSx X G H0 (.For tg a body [] pos) (λe=>(fi e).bind λr=>L r.1 r.2):=⟨(zu7 O P hi.out i F.out R).imp λDn σ H z=>by
 obtain⟨W,env,fl,env',ok,q,k⟩:=z;obtain⟨⟨ds,U⟩,T,q⟩:=cv.mp q;refine⟨W,env,ds,U,ok,T,λW1 J H1 t j v=>⟨FInv X G H0 W1 H1 ds L ↑(fl,env'),⟨ds.length,W1,U,rfl,eo _,Step.refl,j,q⟩,λn m S H' z=>?_⟩⟩;obtain⟨W',B,hm,hn,st,Z,V⟩:=z;subst hm;by_cases I:n<ds.length
 ·rw[ft I,h1] at V
  obtain⟨c,e2,V⟩:=cv.mp V;obtain⟨⟨l,Y⟩,e3,V⟩:=cv.mp V;obtain⟨i,hy⟩:=v.go W' H' n ds[n] st (ak I);refine .inr ⟨i,λf H2=>∃C,C<ds.length-n/\FInv X G H0 W1 H1 ds L ↑(fl,env') (n+1) C f H2,λ_ _ h=>h,λx o y=>?_⟩;obtain⟨sm,rx⟩:=hy x o y;have E:=st.trans (Step.same sm);exact M (Z.same sm) rx e2 λaa p=>⟨W',c,l,Y,p,e3,k.loop (t.trans E) V λW2 f H2 s2 s e=>⟨_,j3 _ _ I,W2,Y,rfl,I,E.trans s2,s,e⟩⟩
 ·cases nc hn (jh I)
  rw[im,N] at V;cases V;exact .inl ⟨v.stop W' H' st,k W' S H' (t.trans st) Z⟩⟩
variable{px:Pos}
def lj{tg:Str}(hi:DIx X G H0 (.Name tg px) a fi)(z:PG X (.Name tg px) (kc i))(D:DBx X G H0 body u)(I:PassesOwn (model X.prog X.w) X.A X.env X.xe:=by passes_own)(S:X.calm=true:=by rfl)(U:∀x,foldedSetIterable a X.env x=pure x:=by intro _;rfl):DSx X G H0 (.For (.Name tg px) a body [] pos) (sFor i fi u) :=
 zn5 (b:=λd e=>↑(e.set i ↑(.sh d))) (L:=forL i u) hi.dj z D (λok r e k=>by cases e;exact k _ (ok.set r)) (λ_=>rfl) (λ_ _ _=>rfl) I S U
inductive WInv (X:Cx) (G:Gd) (H0:Hp) (W1:Addr->Prop) (H1:Hp) (L:Nat->DE0->Option (Fl×DE0)) (r:Option (Fl×DE0)) (m:Nat) (σ:St) (H:Hp):Prop
 |mk (W:Addr->Prop) (env:DE0) (st:Step W1 H1 W H) (ok:Ok X.K G H0 W env σ H) (ef:L m env=r):WInv X G H0 W1 H1 L r m σ H
variable{n:Nat}
def zld(i:DTx X G H0 c p)(j:DBx X G H0 body u)(l:PassesOwn (model X.prog X.w) X.A X.env X.xe:=by passes_own):DSx X G H0 (.While c body [] pos) (ke p u n):=⟨(zpl l i.out j.out).imp λDn σ H z=>by
 obtain⟨W,env,fl,env',ok,q,k⟩:=z;refine⟨WInv X G H0 W H (ke p u) ↑(fl,env'),⟨n,W,env,Step.refl,ok,q⟩,λm Y H' z=>?_⟩;obtain⟨W',S,st,Z,L⟩:=z;cases m with
 |zero=>cases L
 |succ m =>
   obtain⟨⟨t,D⟩,o,L⟩:=cv.mp L;refine⟨W',S,t,D,Z,o,λd H2 s2 U=>?_⟩;cases t with
   |false =>
     cases L;exact k d Y H2 (st.trans s2) U
   |true =>
     obtain⟨⟨a,I⟩,r,L⟩:=cv.mp L;exact⟨λV f=>∃g,g<m+1/\WInv X G H0 W H (ke p u) ↑(fl,env') g V f,λ_ _ h=>h,d,D,a,I,U,r,k.loop (kk:=ke p u m) (st.trans s2) L λs V f v b e=>⟨m,d3 _,s,I,(st.trans s2).trans v,b,e⟩⟩⟩
def lt20(h:n<2 ^ 20):n<sizeLine:=ba h (by rw[sizeLine_eq];decide)
@[simp] def pd(d:D)(e:DE0)(i:Nat):Option (D×DE0):=match e[i]? with
 |some ↑(.ow ds)=>if Few (ds.length+1) then ↑(.non,e.set i ↑(.ow (ds++[d]))) else none
 |_=>none
@[simp] def ky(i:Nat)(f:FE):FE:=λe=>match e[i]? with
 |some ↑(.ow _)=>(f e).bind λr=>pd r.1 r.2 i
 |_=>none
variable{p1:Pos}
def tx(h:DEx X G H0 a f)(an:Ats Nn Cn X)(V:Nn[i]?=↑x:=by rfl)(z:attributeBase (.Name x p') "append" X.env (eval (.Name x p') X.env)=eval (.Name x p') X.env:=by rfl)(I:((backTo pos (starEach [a] X.env)).all (λx=>!x.1) && (backToKw pos (keywordEach [] X.env)).all (λx=>x.1.isSome)
   && decide ([a].length+([]:List Keyword).length+(if ([]:List Keyword).isEmpty then 0 else 1)<30))=true:=by rfl)(D:(p1.endLine==pos.line)=true:=by rfl)(c:starEach [a] X.env=(false,eval a X.env)::starEach [] X.env:=by rfl) :
  DEx X G H0 (.Call (.Attribute (.Name x p') "append" p1) [a] [] pos) (ky i f):=⟨(qm dz rn rj zi8 ((an.a V).pe) (ln h.out mj c) z I D c rfl).imp λσ H Q j=>by
 obtain⟨W,env,d,env',ok,q,k⟩:=j;unfold ky at q;split at q;case h_2=>cases q
 rename_i m Y;obtain⟨v,Z,l,n,rfl,o,b,_⟩:=ok.slot i _ Y;cases e1:f env with
 |none=>rw[e1] at q;cases q
 |some r =>
   obtain⟨p,L⟩:=r;rw[e1,ab] at q;unfold pd at q;split at q;case h_2=>cases q
   rename_i ds e;split at q;case isFalse=>cases q
   rename_i S;cases q;refine⟨_,Z,.inl ⟨rfl,_,.inl (.inl b)⟩,W,env,p,L,ok,e1,λW1 s H1 t U u=>?_⟩;obtain⟨C,g,E,vs,w,F,y,r⟩:=U.slot i _ e;rw[Z] at g;cases g;cases w;obtain⟨A,B⟩:=U.turn e Z (r.append (.cons u .nil));exact⟨l,vs,s,rfl,rfl,y,by rw[<-r.length];exact lt20 (k7 S),k W1 _ _ (t.trans B) A .non⟩⟩
@[simp] def fPop(i:Nat):FE:=λe=>match e[i]? with
 |some ↑(.ow ds)=>(ds[ds.length-1]?).map λd=>(d,e.set i ↑(.ow ds.dropLast))
 |_=>none
def zwh(an:Ats Nn Cn X)(I:Nn[i]?=↑x:=by rfl)(z:attributeBase (.Name x p') "pop" X.env (eval (.Name x p') X.env)=eval (.Name x p') X.env:=by rfl)(D:(p1.endLine==pos.line)=true:=by rfl) :
  DEx X G H0 (.Call (.Attribute (.Name x p') "pop" p1) [] [] pos) (fPop i):=⟨(zvo dz PySem.F.slot_list_pop PySem.F.type_list_pop zvp ((an.a I).pe) z D).imp λσ H Q Y=>by
 obtain⟨W,env,d,env',ok,q,k⟩:=Y;unfold fPop at q;split at q;case h_2=>cases q
 rename_i ds L;obtain⟨v,S,l,vs,rfl,e,U,r⟩:=ok.slot i _ L;cases e1:ds[ds.length-1]? with
 |none=>rw[e1] at q;cases q
 |some d' =>
   rw[e1] at q;cases q;obtain⟨u,Z,b⟩:=r.get e1;obtain⟨c,V⟩:=ok.turn L S r.dropLast;exact⟨_,S,.inl ⟨rfl,_,.inl (.inl U)⟩,l,vs,u,rfl,rfl,U,by rw[<-r.length];exact Z,k W _ _ V c (ok.rep V b)⟩⟩
def x8(k:D)(e:DE0)(i:Nat):Option (D×DE0):=match k,e[i]? with
 | .int k,↑↑(.ow ds)=>if Few ds.length then(ixN ds.length k).bind λj=>(ds[j]?).map λd=>(d,e.set i ↑(.ow (ds.eraseIdx j))) else none
 |_,_=>none
def si(i:Nat)(f:FE):FE:=λe=>match e[i]? with
 |some ↑(.ow _)=>(f e).bind λr=>x8 r.1 r.2 i
 |_=>none
theorem zp3(m:DEx X G H0 a f)(an:Ats Nn Cn X)(V:Nn[i]?=↑x:=by rfl)(D:attributeBase (.Name x p') "pop" X.env (eval (.Name x p') X.env)=eval (.Name x p') X.env:=by rfl)(S:((backTo pos (starEach [a] X.env)).all (λx=>!x.1) && (backToKw pos (keywordEach [] X.env)).all (λx=>x.1.isSome)
   && decide ([a].length+([]:List Keyword).length+(if ([]:List Keyword).isEmpty then 0 else 1)<30))=true:=by rfl)(I:(p1.endLine==pos.line)=true:=by rfl)(c:starEach [a] X.env=(false,eval a X.env)::starEach [] X.env:=by rfl) :
  DEx X G H0 (.Call (.Attribute (.Name x p') "pop" p1) [a] [] pos) (si i f):=⟨(qm dz PySem.F.slot_list_pop PySem.F.type_list_pop zpp ((an.a V).pe) (ln m.out mj c) D S I c rfl).imp λσ H Q n=>by
 obtain⟨W,env,d,env',ok,q,k⟩:=n;unfold si at q;split at q;case h_2=>cases q
 rename_i o Y;obtain⟨v,Z,l,p,rfl,s,b,_⟩:=ok.slot i _ Y;cases e1:f env with
 |none=>rw[e1] at q;cases q
 |some r =>
   obtain⟨K,U⟩:=r;rw[e1,ab] at q;unfold x8 at q;dsimp only at q;split at q;case h_2=>cases q
   rename_i kk ds e;split at q;case isFalse=>cases q
   rename_i z;cases e2:ixN ds.length kk with
   |none=>rw[e2] at q;cases q
   |some j =>
     rw[e2,ab] at q;cases e3:ds[j]? with
     |none=>rw[e3] at q;cases q
     |some d' =>
       rw[e3] at q;cases q;obtain⟨t,M,N,O⟩:=y0 e2;refine⟨_,Z,.inl ⟨rfl,_,.inl (.inl b)⟩,W,env,_,U,ok,e1,λW1 P H1 w L y=>?_⟩;obtain⟨R,g,T,vs,A,hW,B,r⟩:=L.slot i _ e;rw[Z] at g;cases g;cases A;obtain⟨u,C,E⟩:=r.get e3;obtain⟨J,h⟩:=L.turn e Z (r.eraseIdx j);exact⟨l,vs,kk,j,u,rfl,by rw[y.int_],B,by have:ds.length<=2 ^ 20:=z;lia,by have:ds.length<=2 ^ 20:=z;lia,by rw[<-r.length];exact t,C,k W1 _ _ (w.trans h) J (L.rep h E)⟩⟩
@[simp] def zwi(d k:D)(e:DE0)(i:Nat):Option (Fl×DE0):=match k,e[i]? with
 | .int k,↑↑(.ow ds)=>(ixN ds.length k).map λj=>(.nx,e.set i ↑(.ow (ds.set j d)))
 |_,_=>none
@[simp] def zri(i:Nat)(z D:FE):FS:=λe=>(D e).bind λr=>match r.2[i]? with
 |some ↑(.ow _)=>(z r.2).bind λq=>zwi r.1 q.1 q.2 i
 |_=>none
def jf(n:Nat)(ds:em):DE0:=ds.map (λd=>↑(Sl.sh d))++List.replicate (n-ds.length) none
def runD(n ar:Nat)(g:FS):em->ep:=λds=>if ds.length=ar then(match g (jf n ds) with |some (.rt d,_)=>↑d |some (.nx,_)=>some .non |_=>none) else none
def runF(n ar:Nat)(g:FS):em->Option em:=λds=>if ds.length=ar then(match g (jf n ds) with |some (.rf d,_)=>↑d |_=>none) else none
def zh1:∀ {n:Nat} {ds:em} {i:Nat} {s:Sl},(jf n ds)[i]?=↑↑s->∃d,ds[i]?=↑d/\s=.sh d:=λ{n ds i s} h=>by
 unfold jf at h;by_cases hi:i<ds.length
 ·rw[b9 (by simpa using hi),bu] at h
  cases e:ds[i]? with
  |none=>rw[e] at h;cases h
  |some d=>rw[e] at h;cases h;exact⟨d,rfl,rfl⟩
 ·rw[d6 (by simpa using hi),ui] at h
  split at h <;> cases h
variable{O:Addr->Prop}{ds:em}{vs:el}{K:eb}
def zf(r:Reps K H O ds vs):Ok K (gd λa=>O a\/H a=none) H NoW (jf N.length ds) (start N vs) H:=by
 refine⟨Same.refl _,λa z=>.inr z,λl z=>z.elim,λi s e=>?_,λi j S s2 U v2 a D _ _ _ o _=>?_,?_⟩
 ·obtain⟨d,D,rfl⟩:=zh1 e
  obtain⟨v,I,L⟩:=r.get D;refine⟨v,?_,L.mono (λ_ _ h=>h) λa us o h=>⟨⟨.inl o,λz=>z⟩,h⟩⟩;unfold start;rw[b9 (by simpa using(aq.mp I).1),bu,I];rfl
 ·obtain⟨d,_,z⟩:=zh1 D
  subst z;exact o.elim
 ·unfold jf start
  rw[aj,aj,ac,ac,fq,fq,r.length]
variable{f:Addr}{CX:CXT}{qual:Str}{st:Stmt}{fd:FuncData}{ps:b2}{k ar:Nat}{P:Program}{w:World}{mg:Str->b5}{base:Heap}
theorem fn_D(F:Fun K x qual st f fd)(S:o0 N ps (gn st))(U:n=N.length)(V:ar=ps.length)(z:∀(cdv:Value) (A:Around) (outer:cm) (s:Shared) (H:Hp) (E:XK) (G:Gd) (H0:Hp),Room k (A.deeper (envOfC qual (gn st) s.heap.objs.size f cdv)) ->
   DBx (cxOf CX P w K mg base N qual (gn st) f cdv A outer s H E).nox G H0 (kb st) g):FnOk P w K mg base CX (k+1) f fd ps (dSp K (runD n ar g)):=by
 subst U V;refine F.okC S (λvs H Q E h=>?_) (λcdv A outer s H vs Q E Y h=>?_)
 ·obtain⟨O,ds,d,r,e,_⟩:=h
  rw[<-r.length];unfold runD at e;split at e
  ·assumption
  ·cases e
 ·obtain⟨O,ds,d,r,e,k⟩:=h
  refine⟨_,(z cdv A outer s H E (gd λa=>O a\/H a=none) H Y).out,?_⟩;unfold runD at e;split at e;case isFalse=>cases e
  split at e
  ·rename_i d' env' I
   cases e;exact⟨NoW,_,_,env',zf r,I,λW' L v H' st D Z=>k v H' D.stay (Z.mono (λ_ _ h=>h) λa us o h=>⟨o.1,h⟩)⟩
  ·rename_i env' I
   cases e;exact⟨NoW,_,_,env',zf r,I,λW' L H' st D=>k .non H' D.stay .non⟩
  ·cases e
theorem fn_F(F:Fun K x qual st f fd)(S:o0 N ps (gn st))(D:n=N.length)(I:ar=ps.length)(z:∀(cdv:Value) (A:Around) (outer:cm) (s:Shared) (H:Hp) (E:XK) (G:Gd) (H0:Hp),Room k (A.deeper (envOfC qual (gn st) s.heap.objs.size f cdv)) ->
   DBx (cxOf CX P w K mg base N qual (gn st) f cdv A outer s H E).nox G H0 (kb st) g):FnOk P w K mg base CX (k+1) f fd ps (fSp K (runF n ar g)):=by
 subst D I;refine F.okC S (λvs H Q E h=>?_) (λcdv A outer s H vs Q E L h=>?_)
 ·obtain⟨O,ds,d,r,e,_⟩:=h
  rw[<-r.length];unfold runF at e;split at e
  ·assumption
  ·cases e
 ·obtain⟨O,ds,d,r,e,k⟩:=h
  refine⟨_,(z cdv A outer s H E (gd λa=>O a\/H a=none) H L).out,?_⟩;unfold runF at e;split at e;case isFalse=>cases e
  split at e
  ·rename_i d' env' U
   cases e;exact⟨NoW,_,_,env',zf r,U,λl vs' H' sm V Y Z=>k l vs' H' sm V Y Z⟩
  ·cases e
def u4(K:eb):Sp:=λvs H Q _=>∃(a:Addr) (ns:ci),vs=[.ref a]/\SqL K H a (ns.map V.int)/\ns.length<=63/\∀H',Q (.bl true) H'
variable{m:em->ep}
theorem zx7(F:FnOk P w K mg base CX k f fd ps (dSp K m))(h:∀ns:ci,ns.length<=63->m [.lst (ns.map D.int)]=↑(.bl true)) :
  FnOk P w K mg base CX k f fd ps (u4 K):=F.imp λvs H Q E I=>by
 obtain⟨a,ns,e,L,S,q⟩:=I;subst e;exact⟨λ_=>True,[.lst (ns.map D.int)],.bl true,.cons (L.elim (λz=>.lst trivial z (vx ns)) λz=>.klst z (vx ns)) .nil,h ns S,λv H' _ r=>by rw[r.bl_];exact q H'⟩
def fr_D:∀σ H Q,tD X.K G H0 (fLst F) σ H Q->tDF X.K G H0 F σ H Q:=λσ H Q U=>by
 obtain⟨W,env,d,env',ok,q,k⟩:=U;cases e1:F env with
 |none=>simp[e1] at q |some r =>
   have q:↑(D.lst r.1,r.2)=↑(d,env'):=by simpa[fLst,e1] using q
   cases q;refine⟨W,env,_,_,ok,e1,λW1 l vs H1 S I L V Y Z=>k W1 _ H1 ⟨S.keep,λa z=>S.ws a (.inl z)⟩ I (.lst ⟨I.good l (L.wl l (.inr rfl)).1,V⟩ (.inl Y) (Z.mono (λ_ _ h=>h) λa us o h=>⟨⟨o.1,λz=>o.2 (.inl z)⟩,h⟩))⟩
variable{f:FE}
def ia(D:Tos Nn X)(I:DEx X G H0 e f)(z:Nn[i]?=↑x:=by rfl)(L:swapsWith e ↑(.Name x p') pos.line X.env=pure false:=by rfl):DSx X G H0 (.Assign [.Name x p'] e pos) (sSet i f):=zwf (D.t z).nd (D.t z).n I (zq7 (D.t z).nd (D.t z).n (D.t z).l I.out L (D.t z).f)
def zn6(ps:PS X (.Assign [.Name x p'] e pos) (tAsg (tDF X.K G H0 F) (kc i))):DSx X G H0 (.Assign [.Name x p'] e pos) (sSet i (fLst F)):=⟨(PS.imp ps (t':=tAsg (tD X.K G H0 (fLst F)) (kc i)) λDn σ H h=>fr_D σ H _ h).imp λDn σ H D=>by
 obtain⟨W,env,fl,env',ok,q,k⟩:=D;cases e1:fLst F env with
 |none=>simp only[sSet,e1,Option.map_none] at q;cases q
 |some r =>
   have q:↑(Fl.nx,r.2.set i ↑(Sl.sh r.1))=↑(fl,env'):=by simpa only[sSet,e1,av] using q
   cases q;exact⟨W,env,_,_,ok,e1,λW1 L H1 I z p1=>k W1 _ H1 I (z.set p1)⟩⟩
variable{y:Str}{ix:cd}{sc:Scope}{spos:Pos}{te:FA}
def vi{V:Pos}{te:FE}(an:Ats Nn Cn X)(L:Tos Nn X)(hi:DIx X G H0 (.Name x px) a fi)(S:∀cl C s₂ H₂ fp G H0,Ats (x::(subN Nn ix)) (subN Nn ix) (ju X x (subN Nn ix) sc cl C s₂ H₂ fp)->DEx (ju X x (subN Nn ix) sc cl C s₂ H₂ fp) G H0 e te)(I:om Nn Cn ix x sc=true:=by decide +kernel)(Y:X.calm=true:=by rfl)(z:Nn[i]?=↑y:=by rfl)(U:swapsWith (.ListComp e [⟨.Name x px,a,[],0⟩] sc pos) ↑(.Name y V) spos.line X.env=pure true:=by rfl)(Z:∀v,foldedSetIterable a X.env v=pure v:=by intro _;rfl) :
  PS X (.Assign [.Name y V] (.ListComp e [⟨.Name x px,a,[],0⟩] sc pos) spos) (tAsg (tDF X.K G H0 (iw fi ix fYes te)) (kc i)) :=
 (znw (vf an I) (λ_ _ _ _ _ _ _ _ _=>Y) (L.t z).nd (L.t z).n (L.t z).l hi.out (λcl C s₂ H₂ fp _=>uy (X:=X) rfl) (λcl C s₂ H₂ fp _=>el_x (X:=X) rfl (λG H0=>S cl C s₂ H₂ fp G H0 (vn I))) U (L.t z).f Z).imp λD σ H h=>zrh σ H _ h
abbrev FA2:=DE0->Option (List em×DE0)
def tDF2(K:eb)(G:Gd)(H0:Hp)(f:FA2):TE:=λσ H Q=>DP K G H0 f (λW env dss env' =>
 ∀W' l H',Step W H W' H'->Ok K G H0 W' env' σ H'->SlOk K G W' H' (.o2 dss) (.ref l) ->
  (∀(j:Nat) (s:Sl) (v:V) (a:Addr),env'[j]?=↑↑s->σ[j]?=↑↑v->Owns H' (.o2 dss) (.ref l) a->¬Owns H' s v a)->Q (.ref l) H') σ H
structure DF2x (X:Cx) (G:Gd) (H0:Hp) (e:Expr) (f:FA2):Prop where
 out:PE X e (tDF2 X.K G H0 f)
@[simp] def uw(i:Nat)(f:FA2):FS:=λe=>(f e).map λr=>(.nx,r.2.set i ↑(.o2 r.1))
def zs7{z:FA2}(ps:PS X (.Assign [.Name x p'] e pos) (tAsg (tDF2 X.K G H0 z) (kc i))):DSx X G H0 (.Assign [.Name x p'] e pos) (uw i z):=⟨ps.imp λDn σ H I=>by
 obtain⟨W,env,fl,env',ok,q,k⟩:=I;cases e1:z env with
 |none=>simp[e1] at q |some r =>
   have q:↑(Fl.nx,r.2.set i ↑(Sl.o2 r.1))=↑(fl,env'):=by simpa[uw,e1] using q
   cases q;exact⟨W,env,_,_,ok,e1,λW1 l H1 L D h1 S=>k W1 _ H1 L (D.put h1 S)⟩⟩
def qx(te:FA)(base:DE0):em->Option (List em)
 | []=>↑[] |d::r=>(te (↑(.sh d)::base)).bind λv=>(qx te base r).map (v.1::·)
def pz(fi:FI)(ix:cd)(te:FA):FA2:=λe=>(fi e).bind λr=>if Few r.1.length then(qx te (ix.map λj=>capt (r.2.getD j none)) r.1).map λds=>(ds,r.2) else none
def tDxF(K:eb)(f:FA):TE:=λσ H Q=>∃G H0,tDF K G H0 f σ H Q
def zx8{X':Cx}(z:X'.K=X.K)(h:∀G H0,DFx X' G H0 e te):PE X' e (tDxF X.K te):=λpins s σ H Q I ⟨G,H0,q⟩=>(h G H0).out pins s σ H Q I (by rw[z];exact q)
inductive zwj (X:Cx) (G:Gd) (H0:Hp) (env:DE0) (σ:St) (W1:Addr->Prop) (H1:Hp) (ds:em) (d:List em) (f:em->Option (List em)) (i m:Nat) (H':Hp) (ys:el):Prop
 |mk (Wi:Addr->Prop) (rest done:List em) (ls:cc) (hm:m=ds.length-i) (hi:i<=ds.length) (sm:Same H1 H') (st:Step W1 H1 Wi H') (ok:Ok X.K G H0 Wi env σ H') (hy:ys=ls.map V.ref) (inn:Inn X.K G Wi H' done ls) (nd:ls.Nodup) (fr:∀a∈ls,H1 a=none) (hd:done.length<=i) (ec:f (ds.drop i)=↑rest) (hz:d=done++rest):zwj X G H0 env σ W1 H1 ds d f i m H' ys
theorem zs8:∀σ H Q,tDF2 X.K G H0 (pz fi ix te) σ H Q->ph (tDI X.K G H0 fi) ix (tDxT X.K fYes) (tDxF X.K te) σ H Q:=λσ H Q z=>by
 obtain⟨W,env,d,env',ok,q,k⟩:=z;obtain⟨⟨ds,Z⟩,e1,q⟩:=cv.mp q;by_cases P:Few ds.length;case neg=>cases (if_neg P).symm.trans q
 obtain⟨ao,e2,q⟩:=ib.mp ((if_pos P).symm.trans q);cases q;refine⟨W,env,ds,_,ok,e1,λW1 J H1 s1 g wk=>⟨zwj X G H0 Z σ W1 H1 ds d (qx te (ix.map λj=>capt (Z.getD j none))),⟨ds.length,W1,d,[],[],rfl,eo _,Same.refl _,Step.refl,g,rfl,⟨rfl,λj ds a e=>by cases e⟩,List.nodup_nil,(λa h=>by cases h),bg _,e2,rfl⟩,λi m H' ys z=>?_⟩⟩;obtain⟨A,rest,D,ls,hm,hi,sm,st,S,hy,U,nd,fr,hd,u,R⟩:=z;subst hm hy;have I:ls.length=D.length:=U.1;have B:∀a∈ls,∃vs,H' a=↑(.lst vs):=λa C=>by
  obtain⟨j,T,e⟩:=List.getElem_of_mem C;obtain⟨_,vs,h,_⟩:=U.2 j (D[j]'(I ▸ T)) a (ak _) (e ▸ ak T);exact⟨vs,h⟩
 by_cases L:i<ds.length
 ·rw[ft L] at u
  obtain⟨⟨dv,E⟩,e4,u⟩:=cv.mp u;obtain⟨n,e5,e6⟩:=ib.mp u;obtain⟨hg,hy⟩:=wk.go A H' i ds[i] st (ak L);refine .inr ⟨hg,λx Y y=>?_⟩;obtain⟨e,rx⟩:=hy x Y y;subst e;refine⟨_,_,NoW,_,true,_,zg (ix:=ix) S rx,rfl,λW2 H2 s2 aa=>?_⟩;refine⟨_,_,W2,_,dv,E,aa,e4,λW3 l vs H3 s3 ag F nW M rp=>⟨?_,ds.length-(i+1),j3 _ _ L,?_⟩⟩
  ·rw[ac,I];exact ba (Nat.lt_of_le_of_lt hd (ba L P)) vk
  ·have p:Same Y H3:=ag.stay
   have c:Y l=none:=(F.wl l (.inr rfl)).1;obtain⟨q1,q2,q3,q4,q5⟩:=S.fresh p c M (rp.mono (O':=λa=>(Ow G A a\/Y a=none)/\a≠l) (λ_ _ h=>h) λa us o h=>⟨⟨o.1,λz=>o.2 (.inr z)⟩,h⟩);have nl:l∉ls:=λz=>by obtain⟨us,h⟩:=B l z;rw[c] at h;cases h
   refine⟨addW A l,n,D++[dv],ls++[l],rfl,L,sm.trans p,st.trans q5,q3,by simp,⟨by simp[I],λj es a ea f=>?_⟩,?_,λa C=>?_,by rw[aj,cu];lia,e5,by rw[R,<-e6,cb];rfl⟩
   ·by_cases T:j<D.length
    ·rw[b9 T] at ea
     rw[b9 (by lia)] at f;obtain⟨w,us,h,r⟩:=U.2 j es a ea f;exact⟨.inl w,us,p _ _ h,S.reps q5 r⟩
    ·rw[d6 (by lia)] at ea
     rw[d6 (by lia),I] at f;have R:j-D.length=0:=by
      have:=(aq.mp ea).1;simp at this;lia
     rw[R] at ea f;simp[Option.some.injEq] at ea f;subst ea f;exact⟨.inr rfl,vs,M,q4⟩
   ·rw[List.nodup_append]
    exact⟨nd,by simp,λa C b hb=>by simp only[df] at hb;subst hb;intro z;subst z;exact nl C⟩
   ·rcases cw.mp C with z |z
    ·exact fr a z
    ·rw[df.mp z];exact sm.free c
 ·cases nc hi (jh L)
  rw[im] at u;cases u;refine .inl ⟨wk.stop A H' st,by rw[ac,I];exact bi hd (bi P vk),λl c=>?_⟩;have t:Same H' (upd H' l (.lst (ls.map V.ref))):=tu c;obtain⟨q1,q2,q3,q4⟩:=S.fresh0 (vs:=ls.map V.ref) t c ko;have nl:l∉ls:=λz=>by obtain⟨us,h⟩:=B l z;rw[c] at h;cases h
  have al:Same H1 (upd H' l (.lst (ls.map V.ref))):=sm.trans t;rw[R,ce] at k;refine k (addW A l) l _ ((s1.trans st).trans q4) q3 ⟨l,ls,rfl,.inr rfl,ko,ee.mpr ⟨nl,nd⟩,U.1,λj es a ea f=>?_⟩ λj s v a ej ev o1 o2=>?_
  ·obtain⟨w,us,h,r⟩:=U.2 j es a ea f
   exact⟨.inl w,us,t _ _ h,S.reps q4 r⟩
  ·obtain⟨v',N,hs⟩:=g.slot j s ej
   rw[ev] at N;cases N;have an:Owns H1 s v a:=hs.back (λl' _ _ vs q=>al _ _ q) o2;have wa:W1 a:=hs.owns an;have O:H1 a≠none:=λz=>by obtain⟨_,us,q⟩:=g.wl a wa;rw[z] at q;cases q
   rcases o1 with o1 | ⟨l',ls',z,q,hb⟩
   ·cases o1;exact O (sm.free c)
   ·cases z
    rw[ko] at q;have:=tv (by simpa using q);subst this;exact O (fr a hb)
def zp5{V:Pos}(an:Ats Nn Cn X)(L:Tos Nn X)(hi:DIx X G H0 (.Name x px) a fi)(S:∀cl C s₂ H₂ fp G H0,Ats (x::(subN Nn ix)) (subN Nn ix) (ju X x (subN Nn ix) sc cl C s₂ H₂ fp)->DFx (ju X x (subN Nn ix) sc cl C s₂ H₂ fp) G H0 e te)(I:om Nn Cn ix x sc=true:=by decide +kernel)(Y:X.calm=true:=by rfl)(z:Nn[i]?=↑y:=by rfl)(U:swapsWith (.ListComp e [⟨.Name x px,a,[],0⟩] sc pos) ↑(.Name y V) spos.line X.env=pure true:=by rfl)(Z:∀v,foldedSetIterable a X.env v=pure v:=by intro _;rfl) :
  PS X (.Assign [.Name y V] (.ListComp e [⟨.Name x px,a,[],0⟩] sc pos) spos) (tAsg (tDF2 X.K G H0 (pz fi ix te)) (kc i)) :=
 (znw (vf an I) (λ_ _ _ _ _ _ _ _ _=>Y) (L.t z).nd (L.t z).n (L.t z).l hi.out (λcl C s₂ H₂ fp _=>uy (X:=X) rfl) (λcl C s₂ H₂ fp _=>zx8 (X:=X) rfl (λG H0=>S cl C s₂ H₂ fp G H0 (vn I))) U (L.t z).f Z).imp λD σ H h=>zs8 σ H _ h
variable{env:DE0}{σ:St}
def zs9(ok:Ok X.K G H0 W env σ H):Ok X.K (gd λa=>Ow G W a\/H a=none) H NoW (env.map capt) σ H:=by
 have S:∀ {d:D} {v:V},Rep X.K H (Ow G W) d v->Rep X.K H (Ow (gd λa=>Ow G W a\/H a=none) NoW) d v:=λr=>r.mono (λ_ _ h=>h) λa us o h=>⟨⟨.inl o,λz=>z⟩,h⟩;have I:∀(i:Nat) (s:Sl),(env.map capt)[i]?=↑↑s->∃d',s=.sh d'/\env[i]?=↑↑(.sh d'):=λi s z=>by
  rw[bu] at z;cases q:env[i]? with
  |none=>rw[q] at z;cases z
  |some o =>
    rw[q] at z;have z:capt o=↑s:=ay z;unfold capt at z;split at z
    ·cases z;exact⟨_,rfl,rfl⟩
    ·cases z
 refine⟨Same.refl _,λa z=>.inr z,λl z=>z.elim,λi s e=>?_,λi j U s2 Y v2 a L _ _ _ o _=>by obtain⟨d',rfl,_⟩:=I i U L;exact o.elim,by rw[ac];exact ok.len⟩;obtain⟨d',rfl,e'⟩:=I i s e;obtain⟨v,L,r⟩:=ok.slot i _ e';exact⟨v,L,S r⟩
variable{v:V}{d:D}
def zwk{D:Addr->Prop}{H2:Hp}(ok:Ok X.K G H0 W env σ H)(r:Rep X.K H2 (Ow (gd λa=>Ow G W a\/H a=none) D) d v):Rep X.K H2 (Ow G W) d v:=r.mono (λ_ _ h=>h) λa us o h=>⟨by
 rcases o.1 with z |z
 ·exact z
 ·exact⟨ok.good a (ok.stay.free z),λw=>by obtain⟨_,us,q⟩:=ok.wl a w;rw[z] at q;cases q⟩,h⟩
variable{α:Type}{j:Nat}
def zwl{xs:List α}{k:Int}{y:α}(h:ixN xs.length k=↑j)(h2:xs[j]?=↑y):atI xs k=↑y:=by
 unfold atI;rw[h];exact h2
def zp6{dss:List em}{k:Int}(ok:Ok X.K G H0 W env σ H)(S:env[i]?=↑↑(.o2 dss))(U:σ[i]?=↑↑v)(Y:ixN dss.length k=↑j)(I:dss[j]?=↑ds) :
  ∃(l:Addr) (ls:cc) (a:Addr) (vs:el),v=.ref l/\H l=↑(.lst (ls.map V.ref))/\ls[j]?=↑a/\atI (ls.map V.ref) k=↑(.ref a)/\H a=↑(.lst vs)/\Reps X.K H (Ow G W) ds vs:=by
 obtain⟨b,L,l,ls,rfl,c,Z,d,hi⟩:=ok.slot i _ S;rw[U] at L;cases L;have z:j<ls.length:=by rw[hi.1];exact(aq.mp I).1
 obtain⟨_,vs,h,r⟩:=hi.2 j ds ls[j] I (by simp[z]);exact⟨l,ls,ls[j],vs,rfl,Z,by simp[z],zwl (j:=j) (by rw[ac,hi.1];exact Y) (by simp[z]),h,r⟩
@[simp] def app2(k d:D)(e:DE0)(i:Nat):Option (D×DE0):=match k,e[i]? with
 | .int k,↑↑(.o2 dss)=>(ixN dss.length k).bind λj=>(dss[j]?).bind λds=>if Few (ds.length+1) then ↑(.non,e.set i ↑(.o2 (dss.set j (ds++[d])))) else none
 |_,_=>none
@[simp] def vh(i:Nat)(g f:FE):FE:=λe=>match e[i]? with
 |some ↑(.o2 _)=>(g e).bind λr=>(f (r.2.map capt)).bind λq=>app2 r.1 q.1 r.2 i
 |_=>none
variable{g:FE}{p2:Pos}
theorem zml(y:DEx X G H0 b g)(A:∀G H0,DEx X G H0 a f)(an:Ats Nn Cn X)(c:tm b:=by intro _ _;rfl)(e:Nn[i]?=↑x:=by rfl)(L:attributeBase (.Subscript (.Name x p') b p2) "append" X.env (eval (.Subscript (.Name x p') b p2) X.env)=eval (.Subscript (.Name x p') b p2) X.env:=by rfl)(U:((backTo pos (starEach [a] X.env)).all (λx=>!x.1) && (backToKw pos (keywordEach [] X.env)).all (λx=>x.1.isSome)
   && decide ([a].length+([]:List Keyword).length+(if ([]:List Keyword).isEmpty then 0 else 1)<30))=true:=by rfl)(S:(p1.endLine==pos.line)=true:=by rfl)(s:starEach [a] X.env=(false,eval a X.env)::starEach [] X.env:=by rfl) :
  DEx X G H0 (.Call (.Attribute (.Subscript (.Name x p') b p2) "append" p1) [a] [] pos) (vh i g f) :=
 ⟨(qm dz rn rj zi8 (xy ym ((an.a e).pe) y.out c) (ln (el_x (X:=X) rfl A) mj s) L U S s rfl).imp λσ H Q B=>by
  obtain⟨W,env,d,env',ok,q,k⟩:=B;unfold vh at q;split at q;case h_2=>cases q
  rename_i C h;obtain⟨v,m,_⟩:=ok.slot i _ h;cases e1:g env with
  |none=>rw[e1] at q;cases q
  |some r =>
    obtain⟨O,I⟩:=r;rw[e1,ab] at q;dsimp only at q;cases e2:f (I.map capt) with
    |none=>rw[e2] at q;cases q
    |some n =>
      obtain⟨E,V⟩:=n;rw[e2,ab] at q;unfold app2 at q;split at q;case h_2=>cases q
      rename_i kk dss t;cases e3:ixN dss.length kk with
      |none=>rw[e3] at q;cases q
      |some j =>
        rw[e3,ab] at q;cases e4:dss[j]? with
        |none=>rw[e4] at q;cases q
        |some ds =>
          rw[e4,ab] at q;split at q;case isFalse=>cases q
          rename_i Y;cases q;refine⟨v,m,W,env,_,I,ok,e1,λW1 P H1 F z J=>?_⟩;obtain⟨l,ls,a,vs,rfl,u,o,p,w,r⟩:=zp6 z t m e3 e4;refine .inl ⟨l,_,kk,.ref a,rfl,J.int_,.inl (.inl u),p,.inl ⟨rfl,vs,.inl (.inl w)⟩,?_⟩;refine⟨_,_,NoW,_,E,V,zs9 z,e2,λR v2 H2 s2 D n=>?_⟩;have Z:=z.same D.stay;have K:=z.reps (Step.same D.stay) r;obtain⟨M,N⟩:=Z.turn2 t m (D.stay _ _ u) e4 o (K.append (.cons (zwk z n) .nil));exact⟨a,vs,v2,rfl,rfl,D.stay _ _ w,by rw[<-r.length];exact lt20 (k7 Y),k W1 _ _ ((F.trans (Step.same D.stay)).trans N) M .non⟩⟩
def zb2{env:Env}:∀ {names:List (Str×NameKind)} {x:Str},names.lookup x=some .globalImplicit ->
  (names.map λ(n,k)=>if (k==NameKind.free && env.scope.kind==.function && env.kindOf n==some .cell) then(n,NameKind.cell) else(n,k)).lookup x=some .globalImplicit
 | (n,k)::r,x,h=>by
   have z:=@zb2 env r x;show List.lookup x ((if (k==NameKind.free && env.scope.kind==.function && env.kindOf n==some .cell)=true then(n,NameKind.cell) else(n,k))::_)=_;cases hx:x==n with
   |true =>
     simp only[b6,hx] at h;cases h;simp[b6,hx]
   |false =>
     simp only[b6,hx] at h;by_cases D:(k==NameKind.free && env.scope.kind==.function && env.kindOf n==some .cell)=true
     ·rw[if_pos D];simp only[b6,hx];exact z h
     ·rw[if_neg D];simp only[b6,hx];exact z h
variable{s:Shared}{N':b2}{cl:List (Str×Addr)}{C:Addr}{fp:cc}
def gl_c(h:sc.names.lookup x=some .globalImplicit):Gl (ju X y N' sc cl C s H fp) x:=zb2 h
def zwm:Ty "int" "int":=⟨by decide +kernel,by decide +kernel,by decide +kernel,by decide +kernel⟩
def zta:Ty "bool" "bool":=⟨by decide +kernel,by decide +kernel,by decide +kernel,by decide +kernel⟩
def yp:Ty "str" "str":=⟨by decide +kernel,by decide +kernel,by decide +kernel,by decide +kernel⟩
def zn8:Ty "list" "list":=⟨by decide +kernel,by decide +kernel,by decide +kernel,by decide +kernel⟩
def zp7:Ty "tuple" "tuple":=⟨by decide +kernel,by decide +kernel,by decide +kernel,by decide +kernel⟩
def ztb(l:List α)(k:Nat)(y:α):(l.toArray.extract 0 k).push y++l.toArray.extract k=(l.take k++y::l.drop k).toArray:=by
 simp;exact ic (by simp)
def ztc:V->el->Hp->VK->Prop:=λx vs H Q=>∃(l:Addr) (xs:el) (i:Int) (y:V),x=.ref l/\vs=[.int i,y]/\H l=↑(.lst xs)/\0<=i/\i<=xs.length/\i<2 ^ 62/\xs.length<sizeLine/\Q .non (upd H l (.lst (xs.take i.toNat++y::xs.drop i.toNat)))
def Vals.ins{xs:el}{its:b4}{y:V}{u:Value}(r:Vals xs its)(z:Vals [y] [u])(k:Nat):Vals (xs.take k++y::xs.drop k) (its.take k++u::its.drop k):=by
 have:=(r.take k).append (z.append (r.drop k));simpa using this
theorem zn9:MtM X "list.insert" ztc:=by
 intro pins s σ H x vs v us Q I V Y h;obtain⟨l,xs,i,y,rfl,rfl,S,a,h1,h2,b,q⟩:=h;cases V;obtain⟨c,U,rfl,D,L⟩:=Y.two;obtain⟨t,rfl⟩:=D;obtain⟨z,its,n,r,d,e⟩:=I.lstM S;refine call_meets F.slot_list_insert ⟨_,e,rfl⟩ F.entry_list_insert (F.args_list_insert_3 _ _ _) (PySem.AutoSeq1.list_insert_list_int_val_1 l its.toArray n i t U (by rw[fitsIndex_both (k:=i) (by lia) (by lia)];decide) (by rw[a0];lia)) ⟨e,?_⟩;refine⟨.non,_,I.lset (its':=its.take i.toNat++U::its.drop i.toNat) S e ?_ (Vals.ins r (.cons L .nil) _) ?_,rfl,q⟩
 ·have Z:(if i<0 then(i+(its.toArray.size:Int)).toNat else min i.toNat its.toArray.size)=i.toNat:=by
   rw[if_neg (by lia),a0]
   lia
  rw[Z,ztb]
 ·rw[aj,am,dq,l8]
  lia
def xq(k d:D)(e:DE0)(i:Nat):Option (D×DE0):=match k,e[i]? with
 | .int k,↑↑(.ow ds)=>if 0<=k/\k<=ds.length/\Few (ds.length+1) then ↑(.non,e.set i ↑(.ow (ds.take k.toNat++d::ds.drop k.toNat))) else none
 |_,_=>none
def vc(i:Nat)(f g:FE):FE:=λe=>match e[i]? with
 |some ↑(.ow _)=>(bx f (bx g fNil) e).bind λr=>match r.1 with | [k,d]=>xq k d r.2 i |_=>none
 |_=>none
theorem zoa(p:DEx X G H0 a f)(s:DEx X G H0 b g)(an:Ats Nn Cn X)(V:Nn[i]?=↑x:=by rfl)(D:attributeBase (.Name x p') "insert" X.env (eval (.Name x p') X.env)=eval (.Name x p') X.env:=by rfl)(L:((backTo pos (starEach [a,b] X.env)).all (λx=>!x.1) && (backToKw pos (keywordEach [] X.env)).all (λx=>x.1.isSome)
   && decide ([a,b].length+([]:List Keyword).length+(if ([]:List Keyword).isEmpty then 0 else 1)<30))=true:=by rfl)(I:(p1.endLine==pos.line)=true:=by rfl)(j:starEach [a,b] X.env=(false,eval a X.env)::starEach [b] X.env:=by rfl)(Y:starEach [b] X.env=(false,eval b X.env)::starEach [] X.env:=by rfl)(Z:(backTo pos (starEach [b] X.env)).any (·.1)=false:=by rfl) :
  DEx X G H0 (.Call (.Attribute (.Name x p') "insert" p1) [a,b] [] pos) (vc i f g):=⟨(qm dz PySem.F.slot_list_insert PySem.F.type_list_insert zn9 ((an.a V).pe) (cz p (cz s eg Y) j).out D L I j Z).imp λσ H Q t=>by
 obtain⟨W,env,d,env',ok,q,k⟩:=t;unfold vc at q;split at q;case h_2=>cases q
 rename_i u c;obtain⟨v,e,l,w,rfl,y,h,_⟩:=ok.slot i _ c;cases e1:bx f (bx g fNil) env with
 |none=>rw[e1] at q;cases q
 |some r =>
   obtain⟨A,S⟩:=r;rw[e1,ab] at q;dsimp only at q;split at q;case h_2=>cases q
   unfold xq at q;split at q;case h_2=>cases q
   rename_i kk ds m;split at q;case isFalse=>cases q
   rename_i B;obtain⟨C,E,n⟩:=B;cases q;refine⟨_,e,.inl ⟨rfl,_,.inl (.inl h)⟩,W,env,_,S,ok,e1,λW1 J H1 K U M=>?_⟩;obtain⟨v',o,l',vs,N,hW,O,r⟩:=U.slot i _ m;rw[e] at o;cases o;cases N;cases M with
   |cons q1 r2 =>
   cases r2 with
   |cons q2 r3 =>
   cases r3;cases q1;obtain⟨P,R⟩:=U.turn m e ((r.take kk.toNat).append (.cons q2 (r.drop kk.toNat)));have z:=r.length;have T:ds.length<sizeLine:=lt20 (k7 n);have c4:ds.length+1<=2 ^ 20:=n;exact⟨l,vs,kk,_,rfl,rfl,O,C,by rw[<-z];exact E,by lia,by rw[<-z];exact T,k W1 _ _ (K.trans R) P .non⟩⟩
def oy:cd->em->DE0->DE0
 |i::ix,d::ds,e=>oy ix ds (e.set i ↑(.sh d))
 |_,_,e=>e
def gIs:cd->TGs
 | []=>gNil |i::ix=>zu0 (kc i) (gIs ix)
def sUnp(ix:cd)(f:FE):FS:=λe=>(f e).bind λr=>match r.1 with
 | .tup ds=>if ds.length=ix.length then ↑(.nx,oy ix ds r.2) else none
 |_=>none
def unp(ix:cd)(d:D)(e:DE0):Option DE0:=match d with
 | .tup ds=>if ds.length=ix.length then ↑(oy ix ds e) else none
 |_=>none
def forU(ix:cd)(g:FS):em->DE0->Option (Fl×DE0)
 | [],e=>↑(.nx,e) |d::r,e=>(unp ix d e).bind λz=>(g z).bind λq=>match q.1 with | .nx=>forU ix g r q.2 | .ct=>forU ix g r q.2 | .bk=>↑(.nx,q.2) | .rt d=>↑(.rt d,q.2) | .rf ds=>↑(.rf ds,q.2) | .r2 ds=>↑(.r2 ds,q.2) | .xc c=>↑(.xc c,q.2) | .ra k ps=>↑(.ra k ps,q.2)
@[simp] def ma(ix:cd)(fi:FI)(g:FS):FS:=λe=>(fi e).bind λr=>forU ix g r.1 r.2
def zrj{K:eb}{W:Addr->Prop}{H:Hp}:∀(ix:cd) (ds:em) (vs:el) (env:DE0) (σ:St) (Q:St->Hp->Prop),Ok K G H0 W env σ H->Reps K H (Ow G W) ds vs->ds.length=ix.length ->
  (∀z,Ok K G H0 W (oy ix ds env) z H->Q z H)->gIs ix vs σ H Q
 | [],ds,vs,env,σ,Q,ok,r,hl,k=>by
   cases r with
   |nil=>exact⟨rfl,k σ ok⟩ |cons _ _=>cases hl
 |i::ix,ds,vs,env,σ,Q,ok,r,hl,k=>by
   cases r with
   |nil=>cases hl
   | @cons d v ds vs r0 r =>
     refine⟨v,vs,rfl,?_⟩;exact zrj ix ds vs _ _ Q (ok.set r0) r (k5 hl) k
def u3  : PGs X [] (gIs []):=zr8
variable{es:da}
def mn(D:Tos Nn X)(h:PGs X es (gIs ix))(z:Nn[i]?=↑x:=by rfl)(I:(assignEach (.Name x pos::es) X.env).map (·.2)=assign (.Name x pos) X.env::(assignEach es X.env).map (·.2):=by rfl):PGs X (.Name x pos::es) (gIs (i::ix)):=zpk (y8 (D.t z).nd (D.t z).n (D.t z).l (D.t z).f) h I
def yy(hi:DJx X G H0 (.Tuple es k p1) a fi)(h:PGs X es (gIs ix))(S:DBx X G H0 body u)(U:PassesOwn (model X.prog X.w) X.A X.env X.xe:=by passes_own)(D:X.calm=true:=by rfl)(V:(assignEach es X.env).length=ix.length:=by rfl)(z:(assignEach es X.env).findIdx? (·.1)=none:=by rfl)(Y:∀x,foldedSetIterable a X.env x=pure x:=by intro _;rfl):DSx X G H0 (.For (.Tuple es k p1) a body [] pos) (ma ix fi u) :=
 zn5 (b:=unp ix) (L:=forU ix u) hi (zu1 (n:=ix.length) D h V z) S (λ{W env env' σ H d x Q} ok r e k=>by
  unfold unp at e;split at e;case h_2=>cases e
  split at e;case isFalse=>cases e
  rename_i I;cases e;cases r with
  | @tup a vs _ ht rr=>exact⟨a,vs,rfl,.inl (.inl ht),by rw[<-rr.length];exact I,zrj ix _ vs _ σ _ ok rr I k⟩) (λ_=>rfl) (λ_ _ _=>rfl) U D Y
def zob(hi:DIx X G H0 (.Tuple es k p1) a fi)(h:PGs X es (gIs ix))(D:DBx X G H0 body u)(I:PassesOwn (model X.prog X.w) X.A X.env X.xe:=by passes_own)(L:X.calm=true:=by rfl)(S:(assignEach es X.env).length=ix.length:=by rfl)(z:(assignEach es X.env).findIdx? (·.1)=none:=by rfl)(U:∀x,foldedSetIterable a X.env x=pure x:=by intro _;rfl):DSx X G H0 (.For (.Tuple es k p1) a body [] pos) (ma ix fi u):=yy hi.dj h D I L S z U
def fRep(F:FA)(g:FE):FA:=λe=>(F e).bind λr=>(g r.2).bind λq=>match q.1 with
 | .int k=>if Few (r.1.length*k.toNat)/\Bnd (-(2 ^ 62)) (2 ^ 62) k then ↑((List.replicate k.toNat r.1).flatten,q.2) else none
 |_=>none
def Reps.rep{K:eb}{H:Hp}{O:Addr->Prop}{ds:em}{vs:el}(r:Reps K H O ds vs):∀k:Nat,Reps K H O (List.replicate k ds).flatten (List.replicate k vs).flatten
 |0=>.nil |k+1=>by
   exact r.append (Reps.rep r k)
theorem zwn(i:DFx X G H0 a F)(j:DEx X G H0 b g):DFx X G H0 (.BinOp a .Mult b pos) (fRep F g):=⟨(x6 zvr i.out j.out).imp λσ H Q m=>by
 obtain⟨W,env,d,env',ok,q,k⟩:=m;unfold fRep at q;cases e1:F env with
 |none=>rw[e1] at q;cases q
 |some r =>
   obtain⟨ds,D⟩:=r;rw[e1,ab] at q;cases e2:g D with
   |none=>rw[e2] at q;cases q
   |some r2 =>
     obtain⟨J,Z⟩:=r2;rw[e2,ab] at q;dsimp only at q;split at q;case h_2=>cases q
     rename_i kk;split at q;case isFalse=>cases q
     rename_i p;obtain⟨s,t,u⟩:=p;cases q;refine⟨W,env,_,_,ok,e1,λW1 l vs H1 c I e v w f=>⟨W1,D,_,_,I,e2,λx v2 H2 s2 L p2=>?_⟩⟩;have S:Step W H W1 H1:=⟨c.keep,λa h=>c.ws a (.inl h)⟩;have U:Reps X.K H1 (Ow G W1) ds vs:=f.mono (λ_ _ h=>h) λa us o h=>⟨⟨o.1,λz=>o.2 (.inl z)⟩,h⟩;have V:=I.reps s2 U;have Y:H2 l=↑(.lst vs):=s2.keep l _ w v;cases p2;refine⟨l,kk,vs,rfl,rfl,Y,by lia,by lia,?_,λn y=>?_⟩
     ·rw[<-f.length];exact bi s (by rw[sizeLine_eq];decide)
     ·obtain⟨h1,h2,A,B,C,E⟩:=mz L (Reps.rep V kk.toNat) y
      exact k x n _ _ ((S.trans s2).trans h1) h2 A B C E⟩
variable{wr:cc}{pins:ed}{h2:Heap}
def Inv.tupled{tk:Nat}{T:Addr}{us:ei}(I:Inv X pins σ H s)(S:∀b∈wr,FpOk X pins H b)(hT:s.heap.objs.size<=T)(h:T∉wr)(k:∀b o,b∉wr->s.heap.get? b=↑o->h2.get? b=↑o)(Y:h2.IsTuple T us)(Z:Vals vs us.toList)(a:vs.length<=sizeLine) :
  Inv X pins σ (upd H T (.tup vs)) { s with heap:=h2,toks:=tk }:=by
 have U:H T=none:=I.hok.fresh hT;have V:∀b u,H b=↑u->b∉wr:=λb u e z=>by rw[(S b z).1] at e;cases e
 have neT:∀b o,s.heap.get? b=↑o->b≠T:=λb o e=>bz (ba (bo e) hT);refine I.step (g':=s.gens) (d':=s.drawn) (ch:=wr) (λb D=>⟨(S b D).2.2.2.1,(S b D).2.1,(S b D).2.2.2.2.1,(S b D).2.2.2.2.2⟩) (λb o _ _ L e _=>k b o L e) (λb o _ _ L e _=>⟨o.slots,k b o L e⟩)
  (λb o _ e n=>by rw[h9 (neT b o e)];exact n) (λb o L e=>⟨o,k b o L e⟩) (λb xs e=>by rw[h9 (lq e U)];exact e) (λb o u e=>by rw[h9 (lq e U)];exact e)
  (λb ps e=>⟨#[],by rw[h9 (lq e U),e];simp⟩) (λm d=>?_) (λb u e=>?_) I.bare
 ·obtain⟨o,es,f,g,r⟩:=d
  exact⟨o,es,f,k _ o (λz=>(S _ z).2.1 rfl) g,r⟩
 ·by_cases D:b=T
  ·subst D
   rw[ko] at e;cases e;exact⟨a,us.toList,Z,by rw[Array.toArray_toList];exact Y⟩
  ·rw[h9 D] at e
   refine(I.hok b u e).stay (λc v L q=>k c v ?_ q) (λc q=>by rw[h9 (lq q U)];exact q) λc xs q=>by rw[h9 (lq q U)];exact q
   rcases L with z |z
   ·rw[z];exact V b u e
   ·exact V c _ z
def Inv.turnedL{tk:Nat}(I:Inv X pins σ H s)(L:∀b∈wr,FpOk X pins H b)(k:∀b o,b∉wr->s.heap.get? b=↑o->h2.get? b=↑o) :
  Inv X pins σ H { s with heap:=h2,toks:=tk }:=by
 have S:∀b u,H b=↑u->b∉wr:=λb u e z=>by rw[(L b z).1] at e;cases e
 refine I.step (g':=s.gens) (d':=s.drawn) (ch:=wr) (λb U=>⟨(L b U).2.2.2.1,(L b U).2.1,(L b U).2.2.2.2.1,(L b U).2.2.2.2.2⟩) (λb o _ _ D e _=>k b o D e) (λb o _ _ D e _=>⟨o.slots,k b o D e⟩)
  (λ_ _ _ _ n=>n) (λb o D e=>⟨o,k b o D e⟩) (λ_ _ e=>e) (λ_ _ _ e=>e) (λb ps e=>⟨#[],by rw[e];simp⟩) (λm V=>?_) (λb u e=>?_) I.bare
 ·obtain⟨o,es,Y,Z,r⟩:=V
  exact⟨o,es,Y,k _ o (λz=>(L _ z).2.1 rfl) Z,r⟩
 ·refine(I.hok b u e).stay (λc v D q=>k c v ?_ q) (λ_ q=>q) λ_ _ q=>q
  rcases D with z |z
  ·rw[z];exact S b u e
  ·exact S c _ z
def Itp(go:Nat->Hp->Prop)(pr:Nat->Hp->el->Prop)(z:Nat->Hp->Prop):It :=
 ⟨go,λi H x H'=>∃t vs,H t=none/\x=.ref t/\H'=upd H t (.tup vs)/\pr i H vs,z⟩
variable{it:Addr}
def zwo{S:Nat->Heap->Prop}{go:Nat->Hp->Prop}{pr:Nat->Hp->el->Prop}{D:Nat->Hp->Prop}(mem:it∈fp)(obj:∀i h,S i h->∀b∈fp,∃o,h.get? b=↑o/\∀v,o.data≠.cell v)(keep:∀i h h',S i h->(∀b∈fp,∀o,h.get? b=↑o->h'.get? b=↑o)->S i h')(u:∀(X:Cx),X.prog=P->X.w=w->X.K=K->X.A.handled=none->∀(i:Nat) (pins:ed) (s:Shared) (σ:St) (H:Hp),Inv X pins σ H s->(∀b∈fp,FpOk X pins H b)->S i s.heap->(go i H\/D i H) ->
   ∃U wr n Pt St Y j,WalksT P w X.A it U wr n Pt St Y/\St j s.heap/\(∀b∈wr,b∈fp)/\(∀h,St (j+1) h->S (i+1) h)/\(go i H->j<n)/\(D i H->j=n) /\
    (go i H->∀z,Pt j z->∃vs,Vals vs z.toList/\vs.length<=sizeLine/\pr i H vs))(self:∀(A:Around) (i:Nat) (s:Shared) (Q:Value->Shared->Prop) (E:Value->Shared->Prop),S i s.heap->Q (.ref it) s->wpAny (model P w) A (pyIter (.ref it)) Q E s) :
  Turn P w K (.Tuple es k pos) (Itp go pr D) fp it S where
 mem:=mem
 obj:=obj
 keep:=keep
 item:=by
  intro X hP m p q i pins s σ H E I a st c;obtain⟨U,wr,n,Pt,St,Y,j,W,r,Z,d,lt,_,t⟩:=u X hP m p (I.ok.hd q) i pins s σ H I a st (.inl c);refine W.item j s _ _ (lt c) r λT z h1 tk x hT y f kk=>⟨_,rfl,?_⟩;obtain⟨vs,B,C,F⟩:=t c z x;have g:T∉wr:=W.apart j T h1 f;refine W.go es k pos j T _ _ _ f λh2 s2 l=>?_;refine⟨.ref T,upd H T (.tup vs),?_,rfl,⟨T,vs,I.hok.fresh hT,rfl,rfl,F⟩,d h2 s2,λb L=>?_⟩
  ·exact I.tupled (λb L=>a b (Z b L)) hT g (λb o L e=>l b o L (kk b o L e)) (y.at λo e=>l T o g e) B C
  ·obtain⟨o,G,_⟩:=obj i _ st b L
   rw[h9 (bz (ba (bo G) hT))];exact(a b L).1
 done:=by
  intro X hP m p q i pins s σ H E I a st c;obtain⟨U,wr,n,Pt,St,Y,j,W,r,Z,d,_,J,_⟩:=u X hP m p (I.ok.hd q) i pins s σ H I a st (.inr c);cases J c;exact W.done s _ _ r λh1 tk kk=>⟨rfl,I.turnedL (λb L=>a b (Z b L)) kk⟩
 self:=self
variable{A:Around}{l:Addr}
theorem zmm(D:A.handled=none)(I:l≠it)(c:Nat)(its:ei) :
  Draws P w A.in1 it [it,l] (c+its.size) (λj x=>∃i,j=c+i/\its[i]?=↑x) (λj h=>∃i,j=c+i/\i<=its.size/\h.IsListIter it l i/\h.IsList l its) where
 live:=λj h ⟨i,_,_,⟨o,e,_⟩,_⟩=>⟨o,e⟩
 frame:=λj h h' ⟨i,e,hi,a,b⟩ k=>⟨i,e,hi,a.at λo e=>k it (by simp) o e,b.at λo e=>k l (by simp) o e⟩
 item:=λj s Q E hj ⟨i,e,hi,a,b⟩ hQ=>by
  subst e;have hi:i<its.size:=by lia
  refine wpAny_nextOf_list_item a b (x:=its[i]) (by simp[hi]) λh' L z=>?_;exact hQ _ h' s.toks ⟨i,rfl,by simp[hi]⟩ ⟨i+1,by lia,hi,L,b.extBut z.extBut I⟩ z
 done:=λs Q E ⟨i,e,hi,a,b⟩ hE=>by
  have hi:i=its.size:=by lia
  subst hi;exact wpAny_nextOf_list_end D a b (by simp) hE
def Ite(K:eb)(a:Addr)(c:Nat):It :=
 Itp (λi H=>∃xs x,SqL K H a xs/\xs[i]?=↑x) (λi H vs=>∃y,vs=[.int (c+i:Nat),y]/\∀xs,SqL K H a xs->xs[i]?=↑y) (λi H=>∃xs,SqL K H a xs/\xs.length=i)
theorem zjm(a it e:Addr)(c:Nat)(O:e≠it) :
  Turn P w K (.Tuple es k pos) (Ite K a c) [e,it] e (λi h=>(∃L,IsEnum h e it (c+i:Nat) L)/\h.IsListIter it a i):=by
 refine zwo (by simp) (λi h st b C=>?_) (λi h h' st kk=>?_) ?_ λA i s Q E st W=>?_
 ·obtain⟨⟨L,S⟩,o,ho,_,hd⟩:=st
  rcases b8.mp C with z |z
  ·subst z
   exact⟨_,S,λv z=>by cases (show Data.fields _=Data.cell v from z)⟩
  ·cases df.mp z
   exact⟨o,ho,λv z=>by rw[hd] at z;cases z⟩
 ·exact⟨st.1.imp λL S=>kk e (by simp) _ S,st.2.at λo x=>kk it (by simp) o x⟩
 ·intro X hP hw hK hh i pins s σ H I hf st Y
  subst hP hw hK;obtain⟨⟨L,S⟩,Z⟩:=st;have F:∃xs,SqL X.K H a xs/\i<=xs.length:=by
   rcases Y with⟨xs,x,q,d⟩ | ⟨xs,q,d⟩
   ·exact⟨xs,q,k9 (aq.mp d).1⟩
   ·exact⟨xs,q,Nat.le_of_eq d.symm⟩
  obtain⟨xs,q,G⟩:=F;obtain⟨its,R,p,hz⟩:=I.list q;have hl:=R.length;obtain⟨ol,V,f,_⟩:=id p.isList;obtain⟨oi,g,j,_⟩:=id Z;have J:a≠it:=λz=>by
   subst z;rw[V] at g;cases g;rw[f] at j;exact absurd j (by decide)
  have M:e≠a:=λz=>by
   subst z;rw[S] at V;cases V;exact absurd (show Value.type "enumerate" = Value.type "list" from f) (by decide)
  have D:=zmm (P:=X.prog) (w:=X.w) hh J c its.toArray;refine⟨_,_,_,_,_,_,c+i,WalksT.enumerateD D e O (by simp[O,M]) (by simp),⟨⟨L,S⟩,i,rfl,by simpa[<-hl] using G,Z,p.isList⟩,λb C=>C,λh st=>?_,λY=>?_,λhs=>?_,λY T hv=>?_⟩
  ·obtain⟨⟨l,N⟩,m,e',_,n,_⟩:=st
   have:m=i+1:=by lia
   subst this;exact⟨⟨l,N⟩,n⟩
  ·obtain⟨ys,y,r,U⟩:=Y
   rw[I.list_inj r q] at U;have:=(aq.mp U).1;simp
   lia
  ·obtain⟨ys,r,U⟩:=hs
   rw[I.list_inj r q] at U;simp
   lia
  ·obtain⟨t,x,⟨m,e',d⟩,rfl⟩:=hv
   have:m=i:=by lia
   subst this;obtain⟨ys,y,r,U⟩:=Y;rw[I.list_inj r q] at U;obtain⟨u,hu,ru⟩:=R.get U;have:u=x:=by
    have B:its[m]?=↑x:=by simpa using d
    rw[hu] at B;cases B;rfl
   subst this;exact⟨[.int (c+m:Nat),y],.cons ⟨t,rfl⟩ (.cons ru .nil),by show 2<=sizeLine;rw[sizeLine_eq];decide,y,rfl,λzs F=>by rw[I.list_inj F q];exact U⟩
 ·obtain⟨⟨L,S⟩,_⟩:=st
  exact wpAny_pyIter_enum S W
structure ZNe (z ti to i1 i2:Addr):Prop where
 a1:ti≠z
 a2:to≠z
 a3:i1≠z
 a4:i2≠z
 a5:ti≠to
 a6:ti≠i1
 a7:ti≠i2
 a8:to≠i1
 a9:to≠i2
 aA:i1≠i2
abbrev enH(h:Heap)(l:Addr):Heap:=h.push { cls:=.type "list_iterator",data:=.fields #[.ref l,.int 0 0] }
abbrev enHs(h:Heap)(l:Addr):Heap:=(enH h l).push { cls:=.type "enumerate",data:=.fields #[.none,.bool false,.ref h.objs.size,rawInt 1,.none,.none] }
def zmn(v:Value)(t:Tok):checkTypeCall "enumerate" ⟨[v],[("start",.int 1 t)]⟩=pure ():=by kernel_rfl
def zoc(v:Value)(t:Tok):checkBuiltinCall "enumerate.__new__" ⟨[.type "enumerate",v],[("start",.int 1 t)]⟩=pure ():=by kernel_rfl
def zod(l:Addr)(z:ei)(n:Nat)(I:Option Addr)(U:Array b5)(t:Tok) :
  Meets (Builtin.«enumerate.__new__» ⟨[.type "enumerate",.ref l],[("start",.int 1 t)]⟩) (λ_ R s=>s.heap.get? l=↑⟨.type "list",I,.seq z n,U⟩/\R (.ok (.ret (.ref (enH s.heap l).objs.size))) { s with heap:=enHs s.heap l }) :=
 .of_wp λprog w A R s h=>by
  obtain⟨V,g,d,tk,os⟩:=s;obtain⟨D,h⟩:=h;have L:=sub_enumerate;have S:Heap.IsList (Shared.heap ⟨V,g,d,tk,os⟩) l z:=⟨_,D,rfl,n,rfl⟩
  wp_walk using AutoSeq1.wpAny_loadPart' D
  refine wpAny_stack_any λst=>wpAny_pure ?_;split
  ·rename_i c _ _ _ _ _
   cases (c==Value.type "enumerate") <;> (refine wpAny_bind (wpAny_of_eq (a:=(Value.ref l,↑(Value.int 1 t))) (by rfl) ?_);wp_walk using AutoSeq1.wpAny_loadPart' D,wpAny_pyIter_list S;exact⟨_,rfl,h⟩)
  ·refine wpAny_bind (wpAny_of_eq (a:=(Value.ref l,↑(Value.int 1 t))) (by rfl) ?_);wp_walk using AutoSeq1.wpAny_loadPart' D,wpAny_pyIter_list S;exact⟨_,rfl,h⟩
variable{t:Tok}
theorem zp8{v x:Value}:Meets (Builtin.«object.__init__» ⟨[v,x],[("start",.int 1 t)]⟩) (λ_ R s=>s.TypeIs v "enumerate"/\R (.ok (.ret .none)) s) :=
 .of_wp λprog w A R s z=>by
  obtain⟨hT,h⟩:=z;have D:=F.called_enumerate.made;have I:=F.called_enumerate.init.lookup;repeat (any_goals (first |assumption |wp_step))
  exact⟨_,rfl,h⟩
theorem zp9(a b:Value)(t:Tok):argsOk "object.__init__" ⟨[a,b],[("start",.int 1 t)]⟩:=by
 unfold argsOk;rw[signature?_of (id:="object.__init__") (n:=['_','_','t','i','n','i','_','_']) (o:=['t','c','e','j','b','o']) (by kernel_rfl) F.owner_object];kernel_rfl
variable{prog:Program}{E:Value->Shared->Prop}
theorem zqa{z:ei}{Q:Value->Shared->Prop}(Y:s.heap.IsList l z)(h:Q (.ref (enH s.heap l).objs.size) { s with heap:=enHs s.heap l }):wpAny (model prog w) A (call (.type "enumerate") [.ref l] [("start",.int 1 t)]) Q E s:=by
 obtain⟨⟨c,I,Z,a⟩,b,L,n,hd⟩:=Y;replace L:c=.type "list":=L;replace hd:Z=.seq z n:=hd;subst L hd;have S:=F.called_enumerate.made;have V:=F.called_enumerate.sub;have d:=zmn (.ref l) t;refine wpAny_call (codeAny_of_tree (show wpAny _ _ (callAny (.type "enumerate") _) _ _ _ from wpAny_pure ⟨Code.quiet_builtin _ (by decide +kernel),codeAny_builtin F.entry_type_call ?_⟩));repeat (any_goals (first |assumption |wp_step))
 refine codeAny_mono (codeAny_call_builtin (R:=λr D=>r=.ok (.ret (.ref (enH s.heap l).objs.size))/\D={ s with heap:=enHs s.heap l }) F.called_enumerate.plain F.entry_enumerate_new (wpAny_of_eq (zoc _ t) (zod l z n I a t prog w A.in1 (λr D=>r=.ok (.ret (.ref (enH s.heap l).objs.size))/\D={ s with heap:=enHs s.heap l }) s ⟨b,rfl,rfl⟩))) λr D e=>?_;obtain⟨rfl,rfl⟩:=e;have hT:Shared.TypeIs { s with heap:=enHs s.heap l } (.ref (enH s.heap l).objs.size) "enumerate":=⟨_,cf _ rfl,rfl⟩;have f:=F.called_enumerate.init.lookup;have g:=F.called_enumerate.init.bind (.ref (enH s.heap l).objs.size);repeat (any_goals (first |assumption |wp_step))
 refine codeAny_mono (codeAny_call_builtin (R:=λr s2=>r=.ok (.ret .none)/\s2={ s with heap:=enHs s.heap l }) F.called_enumerate.init.plain F.entry_object_init (F.called_enumerate.init.check _ _ _ _ _ _ _ _ hT (zp9 _ _ t) (zp8 prog w A.in1 (λr s2=>r=.ok (.ret .none)/\s2={ s with heap:=enHs s.heap l }) _ ⟨hT,rfl,rfl⟩))) λi s2 U=>?_;obtain⟨rfl,rfl⟩:=U;repeat (any_goals (first |assumption |wp_step))
variable{c:Nat}
theorem mem2(h:c∈[n+1,n]):n<=c:=by simp at h;lia
def zjn:bootBuiltins "enumerate" = ↑(.type "enumerate"):=by decide +kernel
def xp(K:eb)(c:Nat)(ta:TA):TI:=λσ H R=>ta σ H λvs H1=>∃l xs,vs=[.ref l]/\SqL K H1 l xs/\R (Ite K l c) H1
variable{p:Pos}{ta:TA}
def ztf(U:Bn X "enumerate")(Y:PA X [a] ta)(Z:starEach [a] X.env=[(false,eval a X.env)]:=by rfl) :
  PI X (.Tuple es k p1) (.Call (.Name "enumerate" p) [a] [] pos) (xp X.K 0 ta):=by
 intro pins s σ H R I h;refine Call_ (np I U.g U.m zjn (d5 (thn (Y pos pins s σ H _ I h) λus z b=>?_) Z rfl));obtain⟨vs,H1,D,d,f⟩:=b;obtain⟨l,xs,e,i,q⟩:=f;subst e;cases d with
 |cons r rr =>
   cases rr;cases r;obtain⟨its,o,pl,t⟩:=D.list i;refine call_enumerate_list pl.isList λh' V S j n=>wpAny_pyIter_enum V ?_;refine⟨z.heap.objs.size+1,[z.heap.objs.size+1,z.heap.objs.size],_,_,H1,rfl,D.kept (t':=z.toks) n,zjm l _ _ 0 (Nat.succ_ne_self _),⟨⟨.none,V⟩,S⟩,λc L=>?_,q⟩;have L:z.heap.objs.size<=c:=mem2 L;exact D.fpOk L (D.hok.fresh L)
variable{kp:Pos}
def zqb(V:Bn X "enumerate")(b:PA X [a] ta)(d:starEach [a] X.env=(false,eval a X.env)::starEach [] X.env:=by rfl)(S:(backTo pos (starEach [a] X.env)).any (·.1)=false:=by rfl) :
  PI X (.Tuple es k p1) (.Call (.Name "enumerate" p) [a] [⟨some "start",.Constant (.int 1) j p2,kp⟩] pos) (xp X.K 1 ta):=by
 intro pins s σ H R I h;refine wpAny_Call_Name_kw (np I V.g V.m zjn ?_);refine PySem.W.callWith_of (P:=λ_=>True) (by rw[S];rfl) (λ_ _=>⟨Keeper.machine,.inr (.inl rfl),PySem.W.Looks.of_pure rfl⟩) (evalArgs_kw2 rfl (thn (b pos pins s σ H _ I h) λus f U=>?_) d);obtain⟨vs,H1,n,u,v⟩:=U;refine thn (zsi (nm:=some "start") (kpos:=kp) (zq6 (i:=1) (j:=j) (pos:=p2)) zvj pos pins f σ H1 (λY H2=>H2=H1/\Y=[.int 1]) n ⟨rfl,rfl⟩) λY s2 U=>?_;obtain⟨B,H2,L,w,x,y⟩:=U;refine⟨trivial,?_⟩;subst x y;obtain⟨l,xs,e,A,q⟩:=v;subst e;cases u with
 |cons r rr =>
   cases rr;cases r;cases w with
   |cons r' rr' =>
   obtain⟨t,rfl⟩:=r';obtain⟨its,C,pl,E⟩:=L.list A;refine zqa (t:=t) pl.isList ?_;have Z:IsEnum (enHs s2.heap l) (enH s2.heap l).objs.size s2.heap.objs.size 1 .none:=cf _ rfl;have z:(enH s2.heap l).objs.size=s2.heap.objs.size+1:=Heap.size_push ..;refine wpAny_pyIter_enum Z ?_;refine⟨(enH s2.heap l).objs.size,[(enH s2.heap l).objs.size,s2.heap.objs.size],_,_,H2,rfl,L.kept (t':=s2.toks) (λc o e=>bc _ (bc _ e)),zjm l _ _ 1 (by rw[z];exact Nat.succ_ne_self _),⟨⟨.none,Z⟩,⟨_,bc _ (cf _ rfl),rfl,rfl⟩⟩,λc D=>?_,q⟩;have D:s2.heap.objs.size<=c:=by rw[z] at D;exact mem2 D
   exact L.fpOk D (L.hok.fresh D)
def lh:Nat->em->em
 |_,[]=>[] |c,d::r=>.tup [.int c,d]::lh (c+1) r
def zipD:em->em->em
 |d::r,d'::r'=>.tup [d,d']::zipD r r' |_,_=>[]
theorem zjo:∀(ds:em) (c i:Nat),(lh c ds)[i]?=ds[i]?.map λd=>.tup [.int (c+i:Nat),d]
 | [],c,i=>by simp[lh]
 |d::r,c,0=>by simp[lh] |d::r,c,i+1=>by
   simp only[lh,af];rw[zjo r (c+1) i];rw[show c+1+i=c+(i+1) by lia]
def zjp:∀(ds:em) (c:Nat),(lh c ds).length=ds.length
 | [],_=>rfl |d::r,c=>by simp[lh,zjp r]
@[simp] def iEn(c:Nat)(ds:em):Option em:=match ds with | [.lst ds]=>↑(lh c ds) |_=>none
@[simp] def iZp(ds:em):Option em:=match ds with | [.lst ds,.lst es]=>↑(zipD ds es) |_=>none
def ztg{t:Addr}(r:Reps K H' (Ow G W') ds vs)(z:H' t=none):Rep K (upd H' t (.tup vs)) (Ow G W') (.tup ds) (.ref t):=by
 refine .tup (ko ..) (r.mono (λa us e=>by rw[h9 (lq e z)];exact e) λa us o h=>⟨o,?_⟩);exact h.keep λo e=>by rw[h9 (lq e z)];exact e
def zoe(c:Nat)(ok:Ok X.K G H0 W env σ H)(h:LsOk X.K H (Ow G W) l vs)(r:Reps X.K H (Ow G W) ds vs):zwg X.K G (Ite X.K l c) W H (lh c ds) where
 go:=λW' H' i d st e=>by
  rw[zjo] at e;cases e0:ds[i]? with
  |none=>rw[e0] at e;cases e
  |some d0 =>
    rw[e0] at e;cases e;obtain⟨v,z,D⟩:=(ok.reps st r).get e0;have h':=(ok.lsstep st h).sq;refine⟨⟨vs,v,h',z⟩,λx H'' ⟨t,us,hn,ex,eH,y,eu,hy⟩=>?_⟩;subst ex eH eu;have:=hy vs h';rw[z] at this;cases this;exact⟨tu hn,ztg (.cons (.int _) (.cons D .nil)) hn⟩
 stop:=λW' H' st=>⟨vs,(ok.lsstep st h).sq,by rw[zjp,r.length]⟩
def zlg(L:PI X tg e (xp X.K c (tDA X.K G H0 F))):DJx X G H0 tg e (gy (iEn c) F):=⟨L.imp λσ H R S=>by
 obtain⟨W,env,ds,env',ok,q,k⟩:=S;cases e1:F env with
 |none=>simp[e1] at q |some z =>
   obtain⟨as,D⟩:=z;cases e2:iEn c as with
   |none=>rw[gy,e1] at q;simp only[ab,e2] at q;cases q
   |some d' =>
     have q:↑(d',D)=↑(ds,env'):=by rw[gy,e1] at q;simp only[ab,e2] at q;exact q
     cases q;refine⟨W,env,as,_,ok,e1,λW1 vs H1 U I p1=>?_⟩;unfold iEn at e2;split at e2
     ·rename_i xs
      cases e2;obtain⟨v,rfl,V⟩:=ni p1;obtain⟨l,us,rfl,h,r⟩:=V.lst_;exact⟨l,us,rfl,h.sq,k W1 _ H1 U I (zoe c I h r)⟩
     ·cases e2⟩
def zth(z:DAx X G H0 [a] F)(D:Bn X "enumerate":=by walk_at "b")(I:starEach [a] X.env=[(false,eval a X.env)]:=by rfl) :
  DJx X G H0 (.Tuple es k p1) (.Call (.Name "enumerate" p) [a] [] pos) (gy (iEn 0) F):=zlg (ztf D z.out I)
def zqc(D:DAx X G H0 [a] F)(I:Bn X "enumerate":=by walk_at "b")(L:starEach [a] X.env=(false,eval a X.env)::starEach [] X.env:=by rfl)(z:(backTo pos (starEach [a] X.env)).any (·.1)=false:=by rfl) :
  DJx X G H0 (.Tuple es k p1) (.Call (.Name "enumerate" p) [a] [⟨some "start",.Constant (.int 1) j p2,kp⟩] pos) (gy (iEn 1) F):=zlg (zqb I D.out L z)
def zqd{env0:DE0}{z:Int}(h:fVar i env=↑(.int z,env0)):env[i]?=↑↑(.sh (.int z))/\env0=env:=by
 unfold fVar at h;split at h
 ·rename_i d hd
  cases h;exact⟨hd,rfl⟩
 all_goals cases h
variable{op:D->D->ep}{o:Int->Int->Int}
def zx9(U:∀z D d,op z D=↑d->∃u v,z=.int u/\D=.int v/\d=.int (o u v)):∀Dn σ H,tDS X G H0 (sSet i (fBin op (fVar i) f)) Dn σ H->tAug i (tD X.K G H0 f) (ipI o) Dn σ H :=
 λDn σ H V=>by
 obtain⟨W,env,fl,env',ok,q,k⟩:=V;unfold sSet fBin at q;cases e0:fVar i env with
 |none=>rw[e0] at q;cases q
 |some r0 =>
   obtain⟨Y,env0⟩:=r0;rw[e0,ab] at q;cases e1:f env0 with
   |none=>rw[e1] at q;cases q
   |some I =>
     obtain⟨z,S⟩:=I;rw[e1,ab] at q;cases e2:op Y z with
     |none=>rw[e2] at q;cases q
     |some D =>
       rw[e2] at q;cases q;obtain⟨u,v,rfl,rfl,rfl⟩:=U _ _ _ e2;obtain⟨Z,rfl⟩:=zqd e0;obtain⟨y,a,b⟩:=ok.slot i _ Z;refine⟨y,a,W,env0,_,_,ok,e1,λW1 e H1 c L I=>⟨u,v,Rep.int_ b,I.int_,k W1 _ H1 c (L.set (.int _))⟩⟩
def yx(D:Tos Nn X)(I:DEx X G H0 e f)(z:Nn[i]?=↑x:=by rfl) :
  DSx X G H0 (.AugAssign (.Name x p') .Add e pos) (sSet i (fBin gq (fVar i) f)):=⟨(zu2 (D.t z).nd (D.t z).n (D.t z).l I.out zq8 (D.t z).f).imp (zx9 λL S d h=>by
 cases L <;> try (cases h;done)
 all_goals cases S <;> first | (cases h;done) |exact⟨_,_,rfl,rfl,(ay h).symm⟩)⟩
def zwp:V->V->Hp->VK->Prop:=λo i H Q=>∃l xs k v,o=.ref l/\i=.int k/\H l=↑(.lst xs)/\0<=k/\xs[k.toNat]?=↑v/\Q v H
theorem zlh:PGet X zwp:=by
 intro pins s σ H o i Y Z Q I ro L h;obtain⟨l,xs,k,v,rfl,rfl,S,U,D,q⟩:=h;cases ro;obtain⟨t,rfl⟩:=L;obtain⟨its,r,pl,a⟩:=I.list (.inl (.inl S));obtain⟨w,V,z⟩:=r.get D;have b:=(aq.mp D).1;have c:=qu;exact wpAny_getItem_list pl.isList U (by lia) (by simpa using V) ⟨v,H,I,z,q⟩
def uo(i:Nat)(op:D->D->ep)(k:Int)(d v:D)(e:DE0):Option (Fl×DE0):=match e[i]? with
 |some ↑(.ow ds)=>if k.toNat<ds.length then(op d v).map λr=>(.nx,e.set i ↑(.ow (ds.set k.toNat r))) else none
 |_=>none
def ox(i:Nat)(op:D->D->ep)(L S:FE):FS:=λe=>match e[i]? with
 |some ↑(.ow _)=>(L e).bind λz=>match z.1,z.2[i]? with
   | .int k,↑↑(.ow ds)=>if 0<=k then(ds[k.toNat]?).bind λd=>(S z.2).bind λI=>uo i op k d I.1 I.2 else none
   |_,_=>none
 |_=>none
theorem zrk(x:∀p r d,op p r=↑d->∃u v,p=.int u/\r=.int v/\d=.int (o u v)) :
  ∀Dn σ H,tDS X G H0 (ox i op g f) Dn σ H->zu3 (tVar i) (tD X.K G H0 g) (tD X.K G H0 f) zwp (ipI o) zvn Dn σ H:=λDn σ H y=>by
 obtain⟨W,env,fl,env',ok,q,k⟩:=y;unfold ox at q;split at q;case h_2=>cases q
 rename_i A a;obtain⟨v,Y,l,B,rfl,C,E,_⟩:=ok.slot i _ a;cases e1:g env with
 |none=>rw[e1] at q;cases q
 |some Z =>
 obtain⟨dk,D⟩:=Z;rw[e1,ab] at q;dsimp only at q;split at q;case h_2=>cases q
 rename_i kk ds F;split at q;case isFalse=>cases q
 rename_i I;cases e2:ds[kk.toNat]? with
 |none=>rw[e2] at q;cases q
 |some dd =>
 rw[e2,ab] at q;cases e3:f D with
 |none=>rw[e3] at q;cases q
 |some r3 =>
 obtain⟨J,s⟩:=r3;rw[e3,ab] at q;unfold uo at q;split at q;case h_2=>cases q
 rename_i M L;split at q;case isFalse=>cases q
 cases e4:op dd J with
 |none=>rw[e4] at q;cases q
 |some dr =>
 rw[e4] at q;cases q;obtain⟨u,w,rfl,rfl,rfl⟩:=x _ _ _ e4;refine⟨_,Y,W,env,_,_,ok,e1,λW1 v1 H1 N S Z=>?_⟩;obtain⟨O,z,P,b,Q,R,c,e⟩:=S.slot i _ F;rw[Y] at z;cases z;cases Q;obtain⟨T,h,j⟩:=e.get e2;refine⟨l,b,kk,T,rfl,Z.int_,c,I,h,W1,D,_,_,S,e3,λW2 v2 H2 s2 U r2=>?_⟩;refine⟨u,w,j.int_,r2.int_,?_⟩;obtain⟨O,z,P,m,e6,aa,n,V⟩:=U.slot i _ L;rw[Y] at z;cases z;cases e6;obtain⟨t1,t2⟩:=U.turn L Y (Reps.set (.int (o u w)) kk.toNat V);have t:=V.length;refine⟨l,m,kk,kk.toNat,rfl,Z.int_,n,?_,k W2 _ _ ((N.trans s2).trans t2) t1⟩;unfold ixN;rw[if_pos I,if_pos (by lia)]
def zqf(S:DEx X G H0 b g)(U:DEx X G H0 e f)(an:Ats Nn Cn X)(L:Nn[i]?=↑x:=by rfl)(V:∀D I z,augStore b D I z=(do holding [z,D,I] (setItem D I z);release [z,D,I] [];pure .next):=by intros;rfl) :
  DSx X G H0 (.AugAssign (.Subscript (.Name x p') b p1) .Add e pos) (ox i gq g f):=⟨(znc ((an.a L).pe) S.out zlh U.out zq8 zk7 V).imp (zrk λY Z d h=>by
 cases Y <;> try (cases h;done)
 all_goals cases Z <;> first | (cases h;done) |exact⟨_,_,rfl,rfl,(ay h).symm⟩)⟩
def zqg(S:DEx X G H0 b g)(U:DEx X G H0 e f)(an:Ats Nn Cn X)(L:Nn[i]?=↑x:=by rfl)(V:∀D I z,augStore b D I z=(do holding [z,D,I] (setItem D I z);release [z,D,I] [];pure .next):=by intros;rfl) :
  DSx X G H0 (.AugAssign (.Subscript (.Name x p') b p1) .Sub e pos) (ox i dSub g f):=⟨(znc ((an.a L).pe) S.out zlh U.out zu4 zk7 V).imp (zrk λY Z d h=>by
 cases Y <;> try (cases h;done)
 all_goals cases Z <;> first | (cases h;done) |exact⟨_,_,rfl,rfl,(ay h).symm⟩)⟩
def um(z:em)(e:DE0)(i:Nat):Option (D×DE0):=match e[i]? with
 |some ↑(.ow ds)=>if Few (ds.length+z.length) then ↑(.non,e.set i ↑(.ow (ds++z))) else none
 |_=>none
def q9(i:Nat)(F:FA):FE:=λe=>match e[i]? with
 |some ↑(.ow _)=>(F e).bind λr=>um r.1 r.2 i
 |_=>none
def zjq(h:DFx X G H0 a F)(an:Ats Nn Cn X)(V:Nn[i]?=↑x:=by rfl)(z:attributeBase (.Name x p') "extend" X.env (eval (.Name x p') X.env)=eval (.Name x p') X.env:=by rfl)(I:((backTo pos (starEach [a] X.env)).all (λx=>!x.1) && (backToKw pos (keywordEach [] X.env)).all (λx=>x.1.isSome)
   && decide ([a].length+([]:List Keyword).length+(if ([]:List Keyword).isEmpty then 0 else 1)<30))=true:=by rfl)(D:(p1.endLine==pos.line)=true:=by rfl)(c:starEach [a] X.env=(false,eval a X.env)::starEach [] X.env:=by rfl) :
  DEx X G H0 (.Call (.Attribute (.Name x p') "extend" p1) [a] [] pos) (q9 i F):=⟨(qm dz PySem.F.slot_list_extend PySem.F.type_list_extend znp ((an.a V).pe) (ln h.out mj c) z I D c rfl).imp λσ H Q j=>by
 obtain⟨W,env,d,env',ok,q,k⟩:=j;unfold q9 at q;split at q;case h_2=>cases q
 rename_i m Y;obtain⟨v,Z,l,o,rfl,p,b,_⟩:=ok.slot i _ Y;cases e1:F env with
 |none=>rw[e1] at q;cases q
 |some r =>
   obtain⟨s,L⟩:=r;rw[e1,ab] at q;unfold um at q;split at q;case h_2=>cases q
   rename_i ds e;split at q;case isFalse=>cases q
   rename_i S;cases q;refine⟨_,Z,.inl ⟨rfl,_,.inl (.inl b)⟩,W,env,s,L,ok,e1,λW1 n us H1 t u U E w f=>?_⟩;obtain⟨J,g,K,vs,y,M,A,r⟩:=U.slot i _ e;rw[Z] at g;cases g;cases y;obtain⟨B,C⟩:=U.turn e Z (r.append f);refine⟨l,n,vs,us,rfl,rfl,A,w,?_,k _ _ _ (t.trans C) B .non⟩;rw[<-r.length,<-f.length];exact bi S (by rw[sizeLine_eq];decide)⟩
def qg:D->Bool | .tup _=>false | .lst _=>false | .dct _ _=>false |_=>true
def Rep.atom{z:eb}{O':Addr->Prop}(r:Rep K H O d v)(h:qg d=true):Rep z H' O' d v:=by
 cases r with
 |non=>exact .non |bl b=>exact .bl b |int i=>exact .int i
 |str s=>exact .str s |tup _ _=>cases h
 |lst _ _ _=>cases h
 |klst _ _=>cases h
 |dct _ _=>cases h
 |exc a=>exact .exc a
structure zya (K:eb) (G:Gd) (J:It) (W:Addr->Prop) (H:Hp) (ds:em):Prop where
 go:∀H' (i:Nat) d,Same H H'->ds[i]?=↑d->J.go i H'/\∀x H'',J.yld i H' x H''->H''=H'/\Rep K H' (Ow G W) d x
 stop:∀H',Same H H'->J.stop ds.length H'
def tDC(K:eb)(G:Gd)(H0:Hp)(f:FI):TI:=λσ H R=>DP K G H0 f (λW env ds env' =>
 ∀W' J H',Step W H W' H'->Ok K G H0 W' env' σ H'->zya K G J W' H' ds->R J H') σ H
structure DCx (X:Cx) (G:Gd) (H0:Hp) (tg:Expr) (e:Expr) (f:FI):Prop where
 out:PI X tg e (tDC X.K G H0 f)
def fiV(i:Nat):FI:=λe=>match e[i]? with
 |some ↑(.ow ds)=>↑(ds,e) |some ↑(.sh (.lst ds))=>↑(ds,e) |_=>none
def lg:et->et |some (.sh d)=>↑(.sh d) |some (.ow ds)=>↑(.sh (.lst ds)) |_=>none
def pw(fi:FI)(ix:cd)(tt:FT)(te:FE):FA:=λe=>(fi e).bind λr=>if Few r.1.length then(j0 tt te (ix.map λj=>lg (r.2.getD j none)) r.1).bind λds=>if ds.all qg=true then ↑(ds,r.2) else none else none
def zyb(h:DIx X G H0 tg e fi):DCx X G H0 tg e fi:=⟨h.out.imp λσ H R ⟨W,env,ds,env',ok,q,k⟩ =>
 ⟨W,env,ds,env',ok,q,λW' J H' st z D=>k W' J H' st z ⟨λH2 i d sm e=>D.go W' H2 i d (Step.same sm) e,λH2 sm=>D.stop W' H2 (Step.same sm)⟩⟩⟩
variable{te:FE}{tt:FT}
theorem zyx:∀σ H Q,tDF X.K G H0 (iw fi ix tt te) σ H Q->ph (tDC X.K G H0 fi) ix (tDxT X.K tt) (tDx X.K te) σ H Q:=λσ H Q u=>by
 obtain⟨W,env,d,env',ok,q,k⟩:=u;cases e1:fi env with
 |none=>simp[iw,e1] at q |some z =>
   obtain⟨ds,V⟩:=z;by_cases c:Few ds.length
   ·simp only[iw,e1,ab,if_pos c] at q
    cases e2:j0 tt te (ix.map λj=>capt (V.getD j none)) ds with
    |none=>rw[e2] at q;cases q
    |some outs =>
      rw[e2] at q;cases q;refine⟨W,env,ds,_,ok,e1,λW1 J H1 A f s=>?_⟩;refine⟨λi m H' ys=>∃rest D,m=ds.length-i/\i<=ds.length/\Same H1 H'/\Reps X.K H' (Ow G W1) D ys/\D.length<=i/\j0 tt te (ix.map λj=>capt (env'.getD j none)) (ds.drop i)=↑rest/\d=D++rest,⟨ds.length,d,[],rfl,eo _,Same.refl _,.nil,bg _,e2,rfl⟩,?_⟩;rintro i m H' ys ⟨rest,D,rfl,hi,sm,rp,hd,ec,rfl⟩;have st:Step W1 H1 W1 H':=Step.same sm;have I:Ok X.K G H0 W1 env' σ H':=f.same sm;by_cases S:i<ds.length
      ·have B:ds.drop i=ds[i]::ds.drop (i+1):=ft S
       rw[B] at ec;obtain⟨C,E⟩:=s.go H' i ds[i] sm (by simp[S]);refine .inr ⟨C,λx g y=>?_⟩;obtain⟨rfl,F⟩:=E x g y;have n:=zg (ix:=ix) I F;unfold j0 at ec;cases e3:tt (↑(.sh ds[i])::ix.map λj=>capt (env'.getD j none)) with
       |none=>rw[e3] at ec;cases ec
       |some bb =>
         obtain⟨b,L⟩:=bb;rw[e3,ab] at ec;refine⟨_,_,NoW,_,b,L,n,e3,λM H2 s2 U=>?_⟩;have p:Same H1 H2:=sm.trans U.stay;have r:Reps X.K H2 (Ow G W1) D ys:=I.reps (Step.same U.stay) rp;cases b with
         |false =>
           exact⟨ds.length-(i+1),by lia,rest,D,rfl,S,p,r,by lia,ec,rfl⟩
         |true =>
           cases e4:te L with
           |none=>simp only[e4] at ec;cases ec
           |some vv =>
             obtain⟨t,Y⟩:=vv;simp only[e4,ab] at ec;cases e5:j0 tt te (ix.map λj=>capt (env'.getD j none)) (ds.drop (i+1)) with
             |none=>rw[e5] at ec;cases ec
             |some rest' =>
               rw[e5] at ec;cases ec;refine⟨_,_,M,L,t,Y,U,e4,λW3 v H3 s3 Z r3=>⟨?_,ds.length-(i+1),by lia,rest',D++[t],rfl,S,sm.trans Z.stay,?_,by rw[aj,cu];lia,by first |exact e5 |rfl,by simp⟩⟩
               ·have:ys.length<2 ^ 20:=by rw[<-rp.length];have:ds.length<=2 ^ 20:=c;lia
                exact ba this (by rw[sizeLine_eq];decide)
               ·refine(I.reps (Step.same Z.stay) rp).append (.cons (r3.mono (λ_ _ h=>h) λa us o h=>⟨?_,h⟩) .nil)
                rcases o.1 with z |z
                ·exact z
                ·exact⟨I.good a (I.stay.free z),λw=>by obtain⟨_,us,q⟩:=I.wl a w;rw[z] at q;cases q⟩
      ·have e:i=ds.length:=by lia
       subst e;rw[im] at ec;cases ec;refine .inl ⟨s.stop H' sm,by rw[<-rp.length];exact bi hd (bi c (by rw[sizeLine_eq];decide)),λl N=>?_⟩;obtain⟨h1,h2,O,P,R,T⟩:=mz I rp N;rw[ce] at k;exact k W1 l _ _ ((A.trans st).trans h1) h2 O P R T
   ·simp only[iw,e1,ab,if_neg c] at q;cases q
def zof(ok:Ok X.K G H0 W env σ H)(r:Rep X.K H (Ow G W) d v) :
  Ok X.K (gd λa=>G a\/H a=none) H NoW (↑(.sh d)::ix.map λj=>lg (env.getD j none)) (↑v::ix.map λj=>σ.getD j none) H:=by
 have up1:∀(a:Addr) (us:el),Ow G W a->Rd H a (.lst us)->Ow (gd λa=>G a\/H a=none) NoW a/\Rd H a (.lst us):=λa us o h=>⟨⟨.inl o.1,λz=>z⟩,h⟩;have U:∀ {d:D} {v:V},Rep X.K H (Ow G W) d v->Rep X.K H (Ow (gd λa=>G a\/H a=none) NoW) d v:=λr=>r.mono (λ_ _ h=>h) up1;have L:∀(i:Nat) (s:Sl),(↑(Sl.sh d)::ix.map λj=>lg (env.getD j none))[i]?=↑↑s->∃d',s=.sh d':=λi s z=>by
  cases i with
  |zero=>exact⟨d,by simpa using z.symm⟩ |succ i =>
    simp only[af,bu] at z;cases q:ix[i]? with
    |none=>rw[q] at z;cases z
    |some j =>
      rw[q] at z;have z:lg (env.getD j none)=↑s:=ay z;unfold lg at z;split at z
      ·cases z;exact⟨_,rfl⟩
      ·cases z;exact⟨_,rfl⟩
      ·cases z
 refine⟨Same.refl _,λa z=>.inr z,λl z=>z.elim,λi s e=>?_,λi j Y s2 c v2 a I _ _ _ o _=>by obtain⟨d',rfl⟩:=L i Y I;exact o.elim,by simp⟩;cases i with
 |zero =>
   cases e;exact⟨v,rfl,U r⟩
 |succ i =>
   simp only[af,bu] at e ⊢;cases q:ix[i]? with
   |none=>rw[q] at e;cases e
   |some j =>
     rw[q] at e;have e:lg (env.getD j none)=↑s:=ay e;rw[ae] at e;cases q2:env[j]? with
     |none=>rw[q2] at e;cases e
     |some o =>
       rw[q2] at e;have e:lg o=↑s:=e;unfold lg at e;split at e
       ·rename_i d'
        cases e;obtain⟨u,I,S⟩:=ok.slot j _ q2;exact⟨u,by simp only[av];rw[ae,I];rfl,U S⟩
       ·rename_i ds'
        cases e;obtain⟨u,I,l,vs,rfl,Z,b,S⟩:=ok.slot j _ q2;refine⟨_,by simp only[av];rw[ae,I];rfl,?_⟩;exact .lst ⟨.inl (ok.good l (ok.wl l Z).1),λz=>z⟩ (.inl b) (S.mono (λ_ _ h=>h) up1)
       ·cases e
theorem zwq:∀σ H Q,tDF X.K G H0 (pw fi ix tt te) σ H Q->ph (tDC X.K G H0 fi) ix (tDxT X.K tt) (tDx X.K te) σ H Q:=λσ H Q t=>by
 obtain⟨W,env,d,env',ok,q,k⟩:=t;cases e1:fi env with
 |none=>simp[pw,e1] at q |some z =>
   obtain⟨ds,V⟩:=z;by_cases a:Few ds.length
   ·simp only[pw,e1,ab,if_pos a] at q
    cases e2:j0 tt te (ix.map λj=>lg (V.getD j none)) ds with
    |none=>rw[e2] at q;cases q
    |some outs =>
      rw[e2,ab] at q;split at q;case isFalse=>cases q
      rename_i f;cases q;refine⟨W,env,ds,_,ok,e1,λW1 J H1 u g s=>?_⟩;refine⟨λi m H' ys=>∃rest D,m=ds.length-i/\i<=ds.length/\Same H1 H'/\Reps X.K H' (Ow G W1) D ys/\D.length<=i/\j0 tt te (ix.map λj=>lg (env'.getD j none)) (ds.drop i)=↑rest/\d=D++rest,⟨ds.length,d,[],rfl,eo _,Same.refl _,.nil,bg _,e2,rfl⟩,?_⟩;rintro i m H' ys ⟨rest,D,rfl,hi,sm,rp,hd,ec,rfl⟩;have st:Step W1 H1 W1 H':=Step.same sm;have L:Ok X.K G H0 W1 env' σ H':=g.same sm;by_cases S:i<ds.length
      ·have w:ds.drop i=ds[i]::ds.drop (i+1):=ft S
       rw[w] at ec;obtain⟨A,B⟩:=s.go H' i ds[i] sm (by simp[S]);refine .inr ⟨A,λx h y=>?_⟩;obtain⟨rfl,C⟩:=B x h y;have n:=zof (ix:=ix) L C;unfold j0 at ec;cases e3:tt (↑(.sh ds[i])::ix.map λj=>lg (env'.getD j none)) with
       |none=>rw[e3] at ec;cases ec
       |some bb =>
         obtain⟨b,I⟩:=bb;rw[e3,ab] at ec;refine⟨_,_,NoW,_,b,I,n,e3,λE H2 s2 U=>?_⟩;have o:Same H1 H2:=sm.trans U.stay;have p:Reps X.K H2 (Ow G W1) D ys:=L.reps (Step.same U.stay) rp;cases b with
         |false =>
           exact⟨ds.length-(i+1),by lia,rest,D,rfl,S,o,p,by lia,ec,rfl⟩
         |true =>
           cases e4:te I with
           |none=>simp only[e4] at ec;cases ec
           |some vv =>
             obtain⟨c,Y⟩:=vv;simp only[e4,ab] at ec;cases e5:j0 tt te (ix.map λj=>lg (env'.getD j none)) (ds.drop (i+1)) with
             |none=>rw[e5] at ec;cases ec
             |some rest' =>
               rw[e5] at ec;cases ec;have r:qg c=true:=fj.mp f c (by simp);refine⟨_,_,E,I,c,Y,U,e4,λR v T s3 Z r3=>⟨?_,ds.length-(i+1),by lia,rest',D++[c],rfl,S,sm.trans Z.stay,?_,by rw[aj,cu];lia,by first |exact e5 |rfl,by simp⟩⟩
               ·have:ys.length<2 ^ 20:=by rw[<-rp.length];have:ds.length<=2 ^ 20:=a;lia
                exact ba this (by rw[sizeLine_eq];decide)
               ·exact(L.reps (Step.same Z.stay) rp).append (.cons (r3.atom r) .nil)
      ·have e:i=ds.length:=by lia
       subst e;rw[im] at ec;cases ec;refine .inl ⟨s.stop H' sm,by rw[<-rp.length];exact bi hd (bi a (by rw[sizeLine_eq];decide)),λl F=>?_⟩;obtain⟨h1,h2,M,N,O,P⟩:=mz L rp F;rw[ce] at k;exact k W1 l _ _ ((u.trans st).trans h1) h2 M N O P
   ·simp only[pw,e1,ab,if_neg a] at q;cases q
def zqi(an:Ats Nn Cn X)(hi:DCx X G H0 (.Name x px) a fi)(D:∀cl C s₂ H₂ fp G H0,Ats (x::(subN Nn ix)) (subN Nn ix) (ju X x (subN Nn ix) sc cl C s₂ H₂ fp)->DEx (ju X x (subN Nn ix) sc cl C s₂ H₂ fp) G H0 e te)(z:om Nn Cn ix x sc=true:=by decide +kernel)(I:X.calm=true:=by rfl)(L:∀v,foldedSetIterable a X.env v=pure v:=by intro _;rfl) :
  DFx X G H0 (.ListComp e [⟨.Name x px,a,[],0⟩] sc pos) (pw fi ix fYes te) :=
 ⟨(znv (vf an z) (λ_ _ _ _ _ _ _ _ _=>I) hi.out (λcl C s₂ H₂ fp _=>uy (X:=X) rfl) (λcl C s₂ H₂ fp _=>el_x (X:=X) rfl (λG H0=>D cl C s₂ H₂ fp G H0 (vn z))) L).imp zwq⟩
def ul(i:Nat):FE:=λe=>match e[i]? with
 |some ↑(.ow ds)=>(ints? ds).map λns=>(.int ns.sum,e) |some ↑(.sh (.lst ds))=>(ints? ds).map λns=>(.int ns.sum,e) |_=>none
def zti(an:Ats Nn Cn X)(U:X.calm=true:=by rfl)(L:Bn X "sum":=by walk_at "b")(z:Nn[i]?=↑x:=by rfl)(S:starEach [.Name x p1] X.env=(false,eval (.Name x p1) X.env)::starEach [] X.env:=by rfl):DEx X G H0 (.Call (.Name "sum" p') [.Name x p1] [] pos) (ul i) :=
 ⟨(vo (zji U) L.g L.m boot_sum (ln ((an.a z).pe) mj S) (by decide) (by decide) S rfl).imp λσ H Q V=>by
  obtain⟨W,env,d,env',ok,q,k⟩:=V;unfold ul at q;split at q
  ·rename_i ds D
   cases e2:ints? ds with
   |none=>rw[e2] at q;cases q
   |some ns =>
   rw[e2] at q;cases q;cases qz e2;obtain⟨v,I,l,vs,rfl,Z,Y,r⟩:=ok.slot i _ D;cases re r;exact⟨_,I,l,ns,rfl,.inl (.inl Y),k W _ H Step.refl ok (.int _)⟩
  ·rename_i ds D
   cases e2:ints? ds with
   |none=>rw[e2] at q;cases q
   |some ns =>
   rw[e2] at q;cases q;cases qz e2;obtain⟨v,I,r⟩:=ok.slot i _ D;obtain⟨l,us,rfl,h,r⟩:=Rep.lst_ r;cases re r;exact⟨_,I,l,ns,rfl,h.sq,k W _ H Step.refl ok (.int _)⟩
  ·cases q⟩
def tDL(K:eb)(G:Gd)(H0:Hp)(f:FA):TA:=λσ H Q=>DP K G H0 f (λW env ds env' =>
 ∀W' vs H',Step W H W' H'->Ok K G H0 W' env' σ H'->Reps K H' G ds vs->Q vs H') σ H
structure DLx (X:Cx) (G:Gd) (H0:Hp) (es:da) (f:FA):Prop where
 out:PA X es (tDL X.K G H0 f)
def zyc(h:DAx X G H0 es F):DLx X G H0 es F:=⟨h.out.imp λσ H Q ⟨W,env,ds,env',ok,q,k⟩ =>
 ⟨W,env,ds,env',ok,q,λW' vs H' st z r=>k W' vs H' st z (r.mono (λ_ _ h=>h) λa us o h=>⟨o.1,h⟩)⟩⟩
def uk(i:Nat)(F:FA):FA:=λe=>match e[i]? with
 |some ↑(.ow _)=>(F e).bind λq=>match q.2[i]? with |some ↑(.ow ds)=>↑(.lst ds::q.1,q.2) |_=>none
 |_=>none
def ztj(Z:DLx X G H0 es F)(an:Ats Nn Cn X)(D:Nn[i]?=↑x:=by rfl)(b:starEach (.Name x p1::es) X.env=(false,eval (.Name x p1) X.env)::starEach es X.env:=by rfl):DLx X G H0 (.Name x p1::es) (uk i F) :=
 ⟨(ln ((an.a D).pe) Z.out b).imp λσ H Q c=>by
  obtain⟨W,env,ds,env',ok,q,k⟩:=c;unfold uk at q;split at q;case h_2=>cases q
  rename_i d I;obtain⟨v,U,l,e,rfl,f,g,_⟩:=ok.slot i _ I;cases e1:F env with
  |none=>rw[e1] at q;cases q
  |some r =>
    obtain⟨L,V⟩:=r;rw[e1,ab] at q;split at q;case h_2=>cases q
    rename_i j S;cases q;refine⟨_,U,W,env,L,_,ok,e1,λW1 vs H1 m z n=>?_⟩;obtain⟨y,Y,A,p,s,t,u,w⟩:=z.slot i _ S;rw[U] at Y;cases Y;cases s;exact k W1 _ H1 m z (.cons (.lst (z.good l (z.wl l t).1) (.inl u) (w.mono (λ_ _ h=>h) λa us o h=>⟨o.1,h⟩)) n)⟩
def sg(m:em->ep)(F:FA):FE:=λe=>(F e).bind λr=>(m r.1).bind λd=>if qg d=true then ↑(d,r.2) else none
variable{E:XK}
def zwr:∀σ H Q,tD X.K G H0 (sg m F) σ H Q->uv (dSp X.K m) [] E (tDL X.K G H0 F) σ H Q:=λσ H Q L=>by
 obtain⟨W,env,d,env',ok,q,k⟩:=L;unfold sg at q;cases e1:F env with
 |none=>rw[e1] at q;cases q
 |some r =>
   obtain⟨ds,I⟩:=r;rw[e1,ab] at q;cases e2:m ds with
   |none=>rw[e2] at q;cases q
   |some d' =>
     rw[e2,ab] at q;split at q;case isFalse=>cases q
     rename_i z;cases q;refine⟨W,env,ds,_,ok,e1,λW1 vs H1 S D p1=>?_⟩;show dSp X.K m (vs++[]) H1 Q E;rw[ce];exact⟨G,ds,_,p1,e2,λv H2 sm U=>k W1 v H2 (S.trans (Step.same sm)) (D.same sm) (U.atom z)⟩
def zql{jr:Nat}(c:Cal X.prog X.w X.K X.mg X.base CX0 x k (dSp X.K m))(I:Room jr X.A)(L:DLx X G H0 (e::es) F)(hkj:k<=jr:=by decide)(S:Gl X x:=by walk_at "g")(U:starEach (e::es) X.env=(false,eval e X.env)::starEach es X.env:=by rfl)(z:(backTo pos (starEach es X.env)).any (·.1)=false:=by rfl) :
  DEx X G H0 (.Call (.Name x p') (e::es) [] pos) (sg m F):=let ⟨_,_,_,V,Y,Z,a,D⟩:=c;⟨(y7 V (I.mono hkj) S Y Z a .nil xw L.out D U z).imp zwr⟩
theorem zog(c:X.calm=true):l9 X (.builtin "min") (λxs H Q=>∃p,∃ns:ci,∃M,xs=[.ref p]/\SqL X.K H p (ns.map V.int)/\M∈ns/\(∀a,a∈ns->M<=a)/\Q (.int M) H):=by
 intro pins s σ H xs us Q I r h;obtain⟨p,ns,M,rfl,d,U,L,q⟩:=h;obtain⟨u,rfl,f⟩:=qo r;cases f;obtain⟨its,g,pl,n⟩:=I.list d;have hi:IntsAre its ns:=zt g;have Z:=pl.isList;obtain⟨z,S⟩:=hi.allInts.items;rw[S] at Z;have D:ns=z.toList.map (·.1):=by rw[<-hi.numsOf,<-nums_intItems,<-S]
 have Y:0<z.size:=by
  have b:=List.length_pos_of_mem U;rw[D,ac,f7] at b;exact b
 refine min_intList (I.ok.hd c) Z Y λv h' tk k l=>?_;obtain⟨t,rfl⟩:=intItems_at k;obtain⟨h1,h2⟩:=argBest_lt (numAt z) (z.size-1);have e:numAt z (argBest (λi j=>decide (numAt z i<numAt z j)) (z.size-1))=M:=by
  apply Int.le_antisymm
  ·rw[D] at U
   obtain⟨j,m,rfl⟩:=mem_getD U;rw[ac,f7] at m;rw[<-numAt_eq];exact h2 j (by lia)
  ·apply L
   rw[D,numAt_eq];exact getD_mem (by rw[ac,f7];lia)
 exact⟨.int M,H,I.kept l,⟨t,by rw[<-e]⟩,q⟩
def minI:ci->dt
 | []=>none | [a]=>↑a |a::b::r=>(minI (b::r)).map λm=>if m<a then m else a
theorem yw:∀ {ns:ci} {M:Int},minI ns=↑M->M∈ns/\∀a,a∈ns->M<=a
 | [],M,h=>by cases h
 | [a],M,h=>by cases h;simp
 |a::b::r,M,h=>by
   unfold minI at h;cases e:minI (b::r) with
   |none=>rw[e] at h;cases h
   |some m =>
     rw[e] at h;obtain⟨h1,h2⟩:=yw e;cases h;show(if m<a then m else a)∈a::b::r/\∀z,z∈a::b::r->(if m<a then m else a)<=z;by_cases D:m<a
     ·rw[if_pos D]
      refine⟨ai _ h1,λz hz=>?_⟩;rcases b8.mp hz with rfl |hz
      ·lia
      ·exact h2 z hz
     ·rw[if_neg D]
      refine⟨au,λz hz=>?_⟩;rcases b8.mp hz with rfl |hz
      ·lia
      ·have:=h2 z hz;lia
def zjs:∀ {ns:ci},ns≠[]->∃M,minI ns=↑M
 | [],h=>absurd rfl h | [a],_=>⟨a,rfl⟩ |a::b::r,_=>by
   obtain⟨m,z⟩:=zjs (ns:=b::r) (by simp);exact⟨_,by unfold minI;rw[z];rfl⟩
def qf:em->ep | [.lst ds]=>(ints? ds).bind λns=>(minI ns).map D.int |_=>none
def ztk:qi X G H0 (λxs H Q=>∃p,∃ns:ci,∃M,xs=[.ref p]/\SqL X.K H p (ns.map V.int)/\M∈ns/\(∀a,a∈ns->M<=a)/\Q (.int M) H) qf:=by
 intro W env σ H vs ds d Q ok r e k;unfold qf at e;split at e
 ·rename_i z
  cases e1:ints? z with
  |none=>rw[e1] at e;cases e
  |some ns =>
    rw[e1,ab] at e;cases e2:minI ns with
    |none=>rw[e2] at e;cases e
    |some M =>
      rw[e2] at e;cases e;cases qz e1;obtain⟨v,rfl,D⟩:=ni r;obtain⟨l,us,rfl,h,I⟩:=D.lst_;cases re I;obtain⟨h1,h2⟩:=yw e2;exact⟨l,ns,M,rfl,h.sq,h1,h2,k _ H Step.refl ok (.int _)⟩
 ·cases e
def ztl(D:DAx X G H0 [e] F)(I:X.calm=true:=by rfl)(z:Bn X "min":=by walk_at "b")(L:starEach [e] X.env=(false,eval e X.env)::starEach [] X.env:=by rfl):DEx X G H0 (.Call (.Name "min" p') [e] [] pos) (e8 qf F) :=
 vm (zog I) ztk z.g z.m boot_min D (by decide) (by decide) L rfl
variable{xs:b2}
def gl_p(h:sc.names.lookup x=some .globalImplicit):Gl (k3 X xs N' sc cl C s H fp) x:=zb2 h
section
variable (P:Program) (w:World)
end
section
variable {X:Cx} {CX:CXT} {k:Nat} {f C:Addr} {fd:FuncData} {ps ks:b2} {sp:Sp} {E:XK} {x m:Str} {p pos apos kpos:Pos} {e o:Expr} {es:da} {kws:List Keyword} {te ta:TE} {t tk:TA} {nm:dc}
variable {g:b4->b4->b4} {gV:el->el->el}
end
section
variable {κ:Type} [DecidableEq κ]
def valV(kvs:List (κ×V))(k:κ):Option V:=(kvs.find? λz=>decide (z.1=k)).map (·.2)
def putK(kvs:List (κ×V))(k:κ)(v:V):List (κ×V) :=
 if (kvs.any λz=>decide (z.1=k))=true then kvs.map (λz=>if z.1=k then(z.1,v) else z) else kvs++[(k,v)]
def ze{p:κ×V}{r:List (κ×V)}{k:κ}(e:p.1=k):valV (p::r) k=↑p.2:=by simp[valV,gz,e]
def zd{p:κ×V}{r:List (κ×V)}{k:κ}(e:¬p.1=k):valV (p::r) k=valV r k:=by simp[valV,gz,e]
def zli(k:κ):∀kvs:List (κ×V),(kvs.any λz=>decide (z.1=k))=(valV kvs k).isSome
 | []=>rfl |p::r=>by
   rw[se];by_cases e:p.1=k
   ·simp only[ze e,decide_eq_true e,Bool.true_or,Option.isSome_some]
   ·rw[zd e,decide_eq_false e,Bool.false_or];exact zli k r
def RelO.isSome_eq{o:Option V}{u:b5}(r:RelO o u):o.isSome=u.isSome:=by
 cases o with
 |none=>cases u with
   |none=>rfl |some _=>exact(show False from r).elim
 |some _=>cases u with
   |none=>exact(show False from r).elim |some _=>rfl
def RelO.getD{o:Option V}{u:b5}{d:V}{d':Value}(r:RelO o u)(z:RelV d d'):RelV (o.getD d) (u.getD d'):=by
 cases o with
 |none=>cases u with
   |none=>exact z |some _=>exact(show False from r).elim
 |some _=>cases u with
   |none=>exact(show False from r).elim |some _=>exact r
def KV.val{kvs:List (κ×V)}{vs:List (κ×Value)}(r:KV kvs vs)(k:κ):RelO (valV kvs k) (valueAt vs k):=by
 unfold KV at r;induction r with
 |nil=>exact True.intro | @cons p q ps qs h t ih =>
   obtain⟨h1,h2⟩:=h;by_cases e:p.1=k
   ·have e':q.1=k:=h1.symm.trans e
    have b:valueAt (q::qs) k=↑q.2:=by simp[valueAt,gz,e']
    rw[ze e,b];exact h2
   ·have e':¬q.1=k:=λz=>e (h1.trans z)
    have b:valueAt (q::qs) k=valueAt qs k:=by simp[valueAt,gz,e']
    rw[zd e,b];exact ih
def KV.any{kvs:List (κ×V)}{vs:List (κ×Value)}(r:KV kvs vs)(k:κ):(kvs.any λz=>decide (z.1=k))=vs.any λz=>decide (z.1=k):=by
 unfold KV at r;induction r with
 |nil=>rfl |cons h t ih=>rw[se,se,ih,h.1]
def KV.repl{kvs:List (κ×V)}{vs:List (κ×Value)}(r:KV kvs vs)(k:κ){y:V}{u:Value}(I:RelV y u) :
  KV (kvs.map λD=>if D.1=k then(D.1,y) else D) (vs.map λD=>if D.1=k then(D.1,u) else D):=by
 unfold KV at r ⊢;induction r with
 |nil=>exact .nil | @cons p q ps qs h t ih =>
   rw[bh,bh];refine .cons ?_ ih;obtain⟨h1,h2⟩:=h;by_cases e:p.1=k
   ·rw[if_pos e,if_pos (h1.symm.trans e)];exact⟨h1,I⟩
   ·rw[if_neg e,if_neg (λz=>e (h1.trans z))];exact⟨h1,h2⟩
def KV.put{kvs:List (κ×V)}{vs:List (κ×Value)}(r:KV kvs vs)(k:κ){y:V}{u:Value}(z:RelV y u):KV (putK kvs k y) (stored vs k u):=by
 unfold putK stored;rw[r.any k];by_cases e:(vs.any λD=>decide (D.1=k))=true
 ·rw[if_pos e,if_pos e];exact r.repl k z
 ·rw[if_neg e,if_neg e];exact Paired.snoc r ⟨rfl,z⟩
def KV.length{kvs:List (κ×V)}{vs:List (κ×Value)}(r:KV kvs vs):kvs.length=vs.length:=Paired.length r
end
abbrev KT(H:Hp):List (List Key×V)->List (List Key×Addr×Value)->Prop:=Paired λp q=>p.1=q.1/\H q.2.1=↑(.tup (p.1.map kV))/\RelV p.2 q.2.2
variable{xs:List (List Key×Addr×Value)}{kvs:List (List Key×V)}
def KT.val(r:KT H kvs xs)(k:List Key):RelO (valV kvs k) ((atKey xs k).map (·.2)):=by
 induction r with
 |nil=>exact True.intro | @cons p q ps qs h t ih =>
   obtain⟨h1,_,h2⟩:=h;by_cases e:p.1=k
   ·have e':q.1=k:=h1.symm.trans e
    have b:atKey (q::qs) k=↑q.2:=by simp[atKey,gz,e']
    rw[ze e,b];exact h2
   ·have e':¬q.1=k:=λz=>e (h1.trans z)
    have b:atKey (q::qs) k=atKey qs k:=by simp[atKey,gz,e']
    rw[zd e,b];exact ih
variable{u:Value}{y:V}
def KT.repl(r:KT H kvs xs)(k:List Key)(I:RelV y u) :
  KT H (kvs.map λD=>if D.1=k then(D.1,y) else D) (xs.map (putAt k u)):=by
 induction r with
 |nil=>exact .nil | @cons p q ps qs h t ih =>
   rw[bh,bh];refine .cons ?_ ih;obtain⟨h1,h2,L⟩:=h;unfold putAt;by_cases e:p.1=k
   ·rw[if_pos e,if_pos (h1.symm.trans e)];exact⟨h1,h2,I⟩
   ·rw[if_neg e,if_neg (λz=>e (h1.trans z))];exact⟨h1,h2,L⟩
def KT.put(r:KT H kvs xs)(k:List Key){b:Addr}(D:H b=↑(.tup (k.map kV)))(z:RelV y u) :
  KT H (putK kvs k y) (storedH xs k b u):=by
 have e:(kvs.any λI=>decide (I.1=k))=(atKey xs k).isSome:=by
  rw[zli,(r.val k).isSome_eq,Option.isSome_map]
 unfold putK storedH;rw[e];by_cases q:(atKey xs k).isSome=true
 ·rw[if_pos q,if_pos q];exact r.repl k z
 ·rw[if_neg q,if_neg q];exact Paired.snoc r ⟨rfl,D,z⟩
structure M1 (X:Cx) (o:Expr) (m:Str) (apos:Pos) (e:Expr) (cpos:Pos):Prop where
 base:attributeBase o m X.env (eval o X.env)=eval o X.env
 few:((backTo cpos (starEach [e] X.env)).all (λx=>!x.1) && (backToKw cpos (keywordEach [] X.env)).all (λx=>x.1.isSome)
  && decide (([e]:da).length+([]:List Keyword).length+(if ([]:List Keyword).isEmpty then 0 else 1)<30))=true
 line:(apos.endLine==cpos.line)=true
 trees:backTo cpos (starEach [e] X.env)=[(false,eval e X.env)]
structure M2 (X:Cx) (o:Expr) (m:Str) (apos:Pos) (e f:Expr) (cpos:Pos):Prop where
 base:attributeBase o m X.env (eval o X.env)=eval o X.env
 few:((backTo cpos (starEach [e,f] X.env)).all (λx=>!x.1) && (backToKw cpos (keywordEach [] X.env)).all (λx=>x.1.isSome)
  && decide (([e,f]:da).length+([]:List Keyword).length+(if ([]:List Keyword).isEmpty then 0 else 1)<30))=true
 line:(apos.endLine==cpos.line)=true
 trees:backTo cpos (starEach [e,f] X.env)=[(false,eval e X.env),(false,eval f X.env)]
end L2
namespace Att
open PySem PySem.W PySem.Calls PyProof.Rows
end Att
namespace L2
open PySem PySem.Spec PyProof.Rows
section
variable {κ:Type} [DecidableEq κ]
end
variable{X:Cx}{x:Str}
def zqm:MtM X "list.count" (λx xs H Q=>∃p,∃ns:ci,∃k:Int,x=.ref p/\xs=[.int k]/\SqL X.K H p (ns.map V.int)/\Q (.int (ns.count k:Nat)) H):=by
 intro pins s σ H x xs v us Q I z D h;obtain⟨p,ns,k,rfl,rfl,L,q⟩:=h;cases z;obtain⟨u,rfl,S⟩:=D.one;obtain⟨t,rfl⟩:=S;obtain⟨its,U,pl,Y⟩:=I.list L;exact count_list_ints pl.isList (zt U) ⟨.int (ns.count k:Nat),H,I.tok _,⟨_,rfl⟩,q⟩
def zyy:D->D->ep | .lst ds,.int k=>(ints? ds).bind λns=>if k∈ns then ↑(.int (ns.idxOf k:Nat)) else none |_,_=>none
def pv:D->D->ep | .lst ds,.int k=>(ints? ds).map λns=>.int (ns.count k:Nat) |_,_=>none
variable{G:Gd}{H0:Hp}{f g:FE}
def zyd{r:V->el->Hp->VK->Prop}{op:D->D->ep}(Z:∀U a d,op U a=↑d->∃ds,U=.lst ds)(b:OpD X G H0 (λx y H Q=>r x [y] H Q) op) :
  ∀σ H Q,tD X.K G H0 (fBin op f g) σ H Q->tBM X.K "list" r (tD X.K G H0 f) (xz (tD X.K G H0 g) tNil) σ H Q:=by
 rintro σ H Q ⟨W,env,d,env',ok,e,k⟩;cases e1:f env with
 |none=>simp[fBin,e1] at e |some r1 =>
   cases e2:g r1.2 with
   |none=>simp[fBin,e1,e2] at e |some r2 =>
     have e:(op r1.1 r2.1).map (λd=>(d,r2.2))=↑(d,env'):=by simpa[fBin,e1,e2] using e
     cases e3:op r1.1 r2.1 with
     |none=>rw[e3] at e;cases e
     |some d' =>
       rw[e3] at e;have c:(d',r2.2)=(d,env'):=ay e;cases c;obtain⟨ds,I⟩:=Z _ _ _ e3;refine⟨W,env,r1.1,r1.2,ok,e1,λW1 i H1 j z p1=>⟨?_,W1,r1.2,r2.1,r2.2,z,e2,λY v2 H2 s2 L p2=>?_⟩⟩
       ·rw[I] at p1
        obtain⟨l,us,rfl,h,p⟩:=p1.lst_;exact .inl ⟨rfl,_,h.sq⟩
       ·exact b Y _ σ H2 i v2 _ _ _ Q L (z.rep s2 p1) p2 e3 λv m n S o=>k Y v m ((j.trans s2).trans n) S o
def zqn:OpD X G H0 (λx y H Q=>∃p,∃ns:ci,∃k:Int,x=.ref p/\[y]=[V.int k]/\SqL X.K H p (ns.map V.int)/\Q (.int (ns.count k:Nat)) H) pv:=by
 intro W env σ H x y L S d Q ok z D e k;unfold pv at e;split at e;case h_2=>cases e
 rename_i ds i;cases e1:ints? ds with
 |none=>rw[e1] at e;cases e
 |some ns =>
   rw[e1] at e;cases e;cases qz e1;obtain⟨l,us,rfl,h,I⟩:=z.lst_;cases re I;exact⟨l,ns,i,rfl,by rw[D.int_],h.sq,k _ H Step.refl ok (.int _)⟩
variable{a b:Expr}{pos p1:Pos}
def zqo(S:DEx X G H0 b g)(U:DEx X G H0 a f)(z:attributeBase b "count" X.env (eval b X.env)=eval b X.env:=by rfl)(I:((backTo pos (starEach [a] X.env)).all (λx=>!x.1) && (backToKw pos (keywordEach [] X.env)).all (λx=>x.1.isSome)
   && decide ([a].length+([]:List Keyword).length+(if ([]:List Keyword).isEmpty then 0 else 1)<30))=true:=by rfl)(D:(p1.endLine==pos.line)=true:=by rfl)(L:starEach [a] X.env=(false,eval a X.env)::starEach [] X.env:=by rfl) :
  DEx X G H0 (.Call (.Attribute b "count" p1) [a] [] pos) (fBin pv g f):=⟨(qm dz PySem.F.slot_list_count PySem.F.type_list_count zqm S.out (ln U.out mj L) z I D L rfl).imp
 (zyd (λV Y d h=>by unfold pv at h;split at h;exact⟨_,rfl⟩;cases h) zqn)⟩
end L2
namespace L2
open PySem
theorem zlj{i:Nat}{g:FS}(P:Nat->DE0->Prop):∀(ds:em) (e:DE0) (n:Nat),P n e->(∀(k:Nat) (d:D) (e:DE0),ds[k]?=↑d->P (n+k) e->∃e',g (e.set i ↑(.sh d))=↑(.nx,e')/\P (n+k+1) e') ->
  ∃e',forL i g ds e=↑(.nx,e')/\P (n+ds.length) e'
 | [],e,n,h,_=>⟨e,rfl,h⟩ |d::r,e,n,h,hs=>by
   obtain⟨z,h1,p1⟩:=hs 0 d e rfl h;obtain⟨I,h2,p2⟩:=zlj P r z (n+1) p1 λk d' e' L S=>by
    have:=hs (k+1) d' e' (by simpa using L) (by rw[<-Nat.add_assoc,Nat.add_right_comm];exact S);rw[show n+(k+1)+1=n+1+k+1 by lia] at this;exact this
   refine⟨I,?_,by rw[am,show n+(r.length+1)=n+1+r.length by lia];exact p2⟩;simp[forL,h1,h2]
variable{i:Int}{g:FS}
def ny{i:Nat}(P:Nat->DE0->Prop)(ds:em)(e:DE0)(h:P 0 e)(z:∀(k:Nat) (d:D) (e:DE0),ds[k]?=↑d->P k e->∃e',g (e.set i ↑(.sh d))=↑(.nx,e')/\P (k+1) e') :
  ∃e',forL i g ds e=↑(.nx,e')/\P ds.length e':=by
 obtain⟨e',h1,h2⟩:=zlj P ds e 0 h λk d e I L=>by
  obtain⟨e',S,U⟩:=z k d e I (by simpa using L);exact⟨e',S,by simpa using U⟩
 exact⟨e',h1,by simpa using h2⟩
variable{lo:Int}{n:Nat}{d:D}
def nr{k:Nat}(h:(rngD lo n)[k]?=↑d):d=.int (lo+k)/\k<n:=by
 unfold rngD at h;rw[bu] at h;by_cases z:k<n
 ·rw[iy z] at h
  exact⟨(ay h).symm,z⟩
 ·rw[ca (by simpa using z)] at h;cases h
def n4:(rngD lo n).length=n:=by simp[rngD]
theorem kz(h:-1000000000000<i/\i<1000000000000):jt i:=⟨by lia,by lia⟩
variable{α:Type}
theorem zrl{xs:List α}(D:0<=i)(h1:i<xs.length):∃x,atI xs i=↑x/\xs[i.toNat]?=↑x:=by
 have z:i.toNat<xs.length:=by lia
 exact⟨xs[i.toNat],by unfold atI ixN;rw[if_pos D,if_pos h1];simp[z],by simp[z]⟩
def zmq(a b c:FS):sSeq (sSeq a b) c=sSeq a (sSeq b c):=by
 funext e;simp;cases a e with
 |none=>rfl |some r=>obtain⟨fl,z⟩:=r;cases fl <;> rfl
def jv{ar:Nat}{ds:em}{e':DE0}(h:ds.length=ar)(z:g (jf n ds)=↑(.rt d,e')):runD n ar g ds=↑d:=by
 unfold runD;rw[if_pos h,z]
def few(h:n<=1000000):Few n:=bi h (by decide)
theorem md(n:Nat)(z:n<=1000000):iR1 [.int n]=↑(rngD 0 n):=by
 unfold iR1;dsimp only;rw[if_pos (show Bnd _ _ _ from⟨by lia,by lia⟩),fz]
variable{j:Int}
def yg(h:jt j):dMul (.int i) (.int j)=↑(.int (i*j)):=by
 unfold dMul;dsimp only;rw[if_pos (.inr h)]
def ot(h:jt i):dMul (.int i) (.int j)=↑(.int (i*j)):=by
 unfold dMul;dsimp only;rw[if_pos (.inl h)]
def ztm(h:0<j):dMod (.int i) (.int j)=↑(.int (i % j)):=by
 unfold dMod;dsimp only;rw[if_pos h]
theorem ztn(h:0<j)(h2:j<1073741824):dDiv (.int i) (.int j)=↑(.int (i / j)):=by
 unfold dDiv;dsimp only;rw[if_pos (show Bnd _ _ _ from⟨by lia,h2⟩)]
def ku{α:Type}{te:FE}{base:DE0}(φ ψ:α->D):∀(xs:List α),(∀x∈xs,∃e',te (↑(.sh (φ x))::base)=↑(ψ x,e'))->j0 fYes te base (xs.map φ)=↑(xs.map ψ)
 | [],_=>rfl |x::xs,h=>by
   obtain⟨e',z⟩:=h x au;have I:=ku φ ψ xs λy L=>h y (ai _ L);simp[j0,z,I]
def zh3{α:Type}{te:FA}{base:DE0}(φ:α->D)(ψ:α->em):∀(xs:List α),(∀x∈xs,∃e',te (↑(.sh (φ x))::base)=↑(ψ x,e'))->qx te base (xs.map φ)=↑(xs.map ψ)
 | [],_=>rfl |x::xs,h=>by
   obtain⟨e',z⟩:=h x au;have I:=zh3 φ ψ xs λy L=>h y (ai _ L);simp[qx,z,I]
def zh4{α:Type}:∀ {l:List α} {n:Nat} {z:α},l[n]?=↑z->l.Perm (z::l.eraseIdx n)
 |a::l,0,z,h=>by simp at h;subst h;exact .refl _
 |a::l,n+1,z,h=>by
   have D:=zh4 (l:=l) (n:=n) (z:=z) (by simpa using h);exact(D.cons a).trans (List.Perm.swap z a _)
def zlk{α:Type}:∀ {l:List (List α)} {j:Nat} {s:List α} {x:α},l[j]?=↑s->(l.set j (s++[x])).flatten.Perm (x::l.flatten)
 |a::l,0,s,x,h=>by
   simp at h;subst h;simp only[aw,bw,cb,du];exact l4
 |a::l,j+1,s,x,h=>by
   have z:=zlk (l:=l) (j:=j) (s:=s) (x:=x) (by simpa using h);exact(z.append_left a).trans l4
def xo(a b c:D):atI [a,b,c] 0=↑a:=rfl
def o9(a b c:D):atI [a,b,c] 1=↑b:=rfl
def qe(a b c:D):atI [a,b,c] 2=↑c:=rfl
def zye(a b c d:D):atI [a,b,c,d] 0=↑a:=rfl
def zyf(a b c d:D):atI [a,b,c,d] 1=↑b:=rfl
def zyg(a b c d:D):atI [a,b,c,d] 2=↑c:=rfl
def zyh(a b c d:D):atI [a,b,c,d] 3=↑d:=rfl
def zjt{α:Type}{i:Nat}{g:FS}(φ:α->D)(P:List α->DE0->Prop)(all:List α)(I:∀(p:List α) (x:α) (q:List α) (e:DE0),all=p++x::q->P p e->∃e',g (e.set i ↑(.sh (φ x)))=↑(.nx,e')/\P (p++[x]) e') :
  ∀(xs z:List α) (e:DE0),all=z++xs->P z e->∃e',forL i g (xs.map φ) e=↑(.nx,e')/\P all e'
 | [],z,e,h,hp=>⟨e,rfl,by rw[h,ce];exact hp⟩ |x::xs,z,e,h,hp=>by
   obtain⟨L,h1,p1⟩:=I z x xs e h hp;obtain⟨S,h2,p2⟩:=zjt φ P all I xs (z++[x]) L (by rw[h];simp) p1;exact⟨S,by simp[forL,h1,h2],p2⟩
def p8{i:Nat}(φ:α->D)(P:List α->DE0->Prop)(all:List α)(e:DE0)(z:P [] e)(I:∀(p:List α) (x:α) (q:List α) (e:DE0),all=p++x::q->P p e->∃e',g (e.set i ↑(.sh (φ x)))=↑(.nx,e')/\P (p++[x]) e') :
  ∃e',forL i g (all.map φ) e=↑(.nx,e')/\P all e':=zjt φ P all I all [] e rfl z
end L2
namespace L2
open PySem PySem.Spec PyProof.Rows PySem.W
abbrev Ag:=AK×er
abbrev ew:=List Ag
abbrev XF:=DE0->Option (Str×DE0)
def XEnd(X:Cx)(G:Gd)(H0:Hp)(W:Addr->Prop)(H:Hp)(σ:St)(c:Str)(env':DE0):Prop:=∀W' H' C,Cl X.K c C->Step W H W' H'->Ok X.K G H0 W' env' σ H'->∀pins e s',XS X pins σ H' C e s'->X.xe (.ref e) s'
def tDX(X:Cx)(G:Gd)(H0:Hp)(x:XF)(σ:St)(H:Hp):Prop:=DP X.K G H0 x (λW env c env'=> XEnd X G H0 W H σ c env') σ H
structure JX (X:Cx) (G:Gd) (H0:Hp) (e:Expr) (x:XF):Prop where
 out:PE X e (λσ H _=>tDX X G H0 x σ H)
structure JXA (X:Cx) (G:Gd) (H0:Hp) (es:da) (x:XF):Prop where
 out:PA X es (λσ H _=>tDX X G H0 x σ H)
structure JXS (X:Cx) (G:Gd) (H0:Hp) (s:Stmt) (x:XF):Prop where
 out:PS X s (λ_ σ H=>tDX X G H0 x σ H)
variable{K:eb}
def Cl.inj{c:Str}{C z:Addr}(h:Cl K c C)(h':Cl K c z):C=z:=by
 unfold Cl at h h';rw[h] at h';cases h';rfl
variable{H:Hp}{O:Addr->Prop}
def q0{O':Addr->Prop}(h:∀a,O a->O' a):(∀(d:D) (v:V),Rep K H O d v->Rep K H O' d v)/\∀(d:em) (v:el),Reps K H O d v->Reps K H O' d v :=
 ⟨λd v r=>r.mono (λ_ _ h=>h) λa us o q=>⟨h a o,q⟩,λd v r=>r.mono (λ_ _ h=>h) λa us o q=>⟨h a o,q⟩⟩
def aggs(env:DE0)(is:cd):Prop:=∀i∈is,∃s,env[i]?=↑↑s
instance (env:DE0) (is:cd):Decidable (aggs env is):=Classical.propDecidable _
variable{G:Gd}{W:Addr->Prop}{ps:er}{as:cc}{us:el}
def PtsOk.ro(h:PtsOk K G W H ps as us):PtsRo K (gd (Ow G W)) NoW H ps us:=by
 induction h with
 |nil=>exact .nil |d q _ ih=>exact .d ((q0 λa z=>⟨z,λz=>z⟩).1 _ _ q) ih |o hW hl q _ ih=>exact .o (λz=>z) hl ((q0 λa z=>⟨z,λz=>z⟩).2 _ _ q) ih
def PtsRo.ro(h:PtsRo K G W H ps us):PtsRo K (gd (Ow G W)) NoW H ps us :=
 h.step (λa vs _ z=>⟨λz=>z,z⟩) (λd v q=>(q0 λa z=>⟨z,λz=>z⟩).1 d v q) λd v q=>(q0 λa z=>⟨z,λz=>z⟩).2 d v q
def tLA(X:Cx)(G:Gd)(H0:Hp)(is:cd)(F:FA):TA:=λσ H Q=>∃W env ds env',Ok X.K G H0 W env σ H/\aggs env is/\F env=↑(ds,env') /\
 ∀W' us z H',Step W H W' H'->Ok X.K G H0 W' env' σ H'->us.length=is.length->(∀(j i:Nat),is[j]?=↑i->∃u,us[j]?=↑u/\σ[i]?=↑↑u)->Reps X.K H' (Ow G W') ds z->Q (us++z) H'
structure JLA (X:Cx) (G:Gd) (H0:Hp) (is:cd) (es:da) (F:FA):Prop where
 out:PA X es (tLA X G H0 is F)
instance (a b:List AK):Decidable (a=b):=Classical.propDecidable _
def isK(κ:AK)(e:DE0)(i:Nat):Prop:=(∃l ps,e[i]?=↑↑(.ag κ l ps))\/∃ps,e[i]?=↑↑(.ro κ ps)
instance (κ:AK) (e:DE0) (i:Nat):Decidable (isK κ e i):=Classical.propDecidable _
variable{H0:Hp}{i:Nat}
def isK.at{K:eb}{W:Addr->Prop}{H:Hp}{env:DE0}{σ:St}{c:Str}{fs:b2}{C:Addr}(ok:Ok K G H0 W env σ H)(h:isK (.ins false c fs) env i)(S:Cl K c C):∃p dx us,σ[i]?=↑↑(.ref p)/\H p=↑(.ins C dx (fs.zip us))/\fs.length=us.length:=by
 rcases h with⟨l,ps,e⟩ | ⟨ps,e⟩
 ·obtain⟨v,D,p,as,us,rfl,_,_,_,⟨U,dx,I,z,L⟩,_⟩:=ok.slot i _ e
  rw[Cl.inj I S] at z;exact⟨p,dx,us,D,z,L⟩
 ·obtain⟨v,D,p,us,rfl,_,⟨U,dx,I,z,L⟩,_⟩:=ok.slot i _ e
  rw[Cl.inj I S] at z;exact⟨p,dx,us,D,z,L⟩
section
variable {X:Cx} {G:Gd} {H0:Hp} {a b e:Expr} {es:da} {f:FE} {F:FA} {x m cn:Str} {fs:b2} {is:cd} {pos p' p1 p2 apos:Pos} {i:Nat} {k:Nat} {fa C:Addr} {fd:FuncData} {ps:b2} {pl:Sem Bool}
variable {mm:ew->em->ep} {xx:ew->em->dc}
variable {mm:ew->em->Option (D×ew)} {xx:ew->em->Option (Str×ew)}
def zqp{z:Int}(D:∃t,X.mg x=↑(.int z t))(I:Gl X x:=by walk_at "g")(hd:(x==("__debug__" : Str))=false:=by decide +kernel):DEx X G H0 (.Name x pos) (fC (.int z)):=by
 obtain⟨t,D⟩:=D;exact de_c (zr2 I D (v:=.int z) ⟨t,rfl⟩ hd) λ_ _=>.int _
abbrev FV:=DE0->Option DE0
def tV(X:Cx)(G:Gd)(H0:Hp)(v:FV):TE:=λσ H Q=>∃W env env',Ok X.K G H0 W env σ H/\v env=↑env'/\∀W' z H',Step W H W' H'->Ok X.K G H0 W' env' σ H'->Q (.str z) H'
structure JV (X:Cx) (G:Gd) (H0:Hp) (e:Expr) (v:FV):Prop where
 out:PE X e (tV X G H0 v)
structure JVP (X:Cx) (G:Gd) (H0:Hp) (e:Expr) (v:FV):Prop where
 out:∀(pins:ed) (s:Shared) (σ:St) (H:Hp) (Q:Nat->Hp->Prop),Inv X pins σ H s->(∃W env env',Ok X.K G H0 W env σ H/\v env=↑env'/\∀n W' H',n<=1000->Step W H W' H'->Ok X.K G H0 W' env' σ H'->Q n H') ->
  wpAny (model X.prog X.w) X.A (eval e X.env) (λu s'=>∃z t H',u=.str z t/\Inv X pins σ H' s'/\Q z.length H') X.xe s
structure JVs (X:Cx) (G:Gd) (H0:Hp) (es:da) (v:FV):Prop where
 out:∀(acc:Str) (pins:ed) (s:Shared) (σ:St) (H:Hp) (Q:VK),acc.length+1000*es.length<=100000->Inv X pins σ H s->tV X G H0 v σ H Q ->
  wpAny (model X.prog X.w) X.A (joinParts acc (evalEach es X.env)) (EP X pins σ Q) X.xe s
abbrev VEs:b4:=[.type "ValueError",.type "Exception",.type "BaseException",.type "object"]
def XC(K:eb)(C:Addr):Prop:=PySem.W.excIn K C VEs "ValueError.__new__" = true
def Exc(K:eb)(mg:Str->b5)(c:Str):Prop:=∃C,Cl K c C/\XC K C/\mg c=↑(.ref C)/\(c==("__debug__" : Str))=false
end
def agAt(e:DE0)(i:Nat):Option Ag:=match e[i]? with |some ↑(.ag k _ ps)=>↑(k,ps) |some ↑(.ro k ps)=>↑(k,ps) |_=>none
def xn:er->Nat->Nat
 | .o _::r,j+1=>xn r j+1 | .d _::r,j+1=>xn r j |_,_=>0
inductive Acc where
 |at (κ:AK) |al (x:Nat)
def Acc.ok:Acc->DE0->Nat->Nat->Prop
 | .at κ,e,i,_=>isK κ e i
 | .al x,e,i,j=>∃k r ps,e[i]?=↑↑(.ag k ↑r ps)/\e[x]?=↑↑(.al r (xn ps j))
instance (A:Acc) (e:DE0) (i j:Nat):Decidable (A.ok e i j):=Classical.propDecidable _
def zyi(A:Acc)(i j:Nat)(e:DE0):Option em:=if A.ok e i j then(agAt e i).bind λx=>match x.2[j]? with |some (.o ds)=>↑ds |_=>none else none
def PartAt(K:eb)(H:Hp)(env:DE0)(σ:St)(i j:Nat)(a:Addr):Prop:=∃k ps p us,agAt env i=↑(k,ps)/\σ[i]?=↑↑(.ref p)/\AkOk K H k p us/\us[j]?=↑(.ref a)
def tPt(X:Cx)(G:Gd)(H0:Hp)(A:Acc)(i j:Nat):TE:=λσ H Q=>∃W env ds,Ok X.K G H0 W env σ H/\zyi A i j env=↑ds /\
 ∀a vs,PartAt X.K H env σ i j a->H a=↑(.lst vs)->Reps X.K H (Ow G W) ds vs->Q (.ref a) H
structure JPt (X:Cx) (G:Gd) (H0:Hp) (e:Expr) (A:Acc) (i j:Nat):Prop where
 out:PE X e (tPt X G H0 A i j)
variable{j:Nat}{ds:em}{env:DE0}{σ:St}
def Ok.part(ok:Ok K G H0 W env σ H){k:AK}(e:agAt env i=↑(k,ps))(U:ps[j]?=↑(.o ds)):∃p us a vs,σ[i]?=↑↑(.ref p)/\AkOk K H k p us/\us[j]?=↑(.ref a)/\H a=↑(.lst vs)/\Reps K H (Ow G W) ds vs:=by
 unfold agAt at e;split at e
 ·rename_i V l z q
  cases e;obtain⟨v,D,p,as,us,rfl,_,_,_,I,L⟩:=ok.slot i _ q;obtain⟨a,vs,h1,_,_,h2,S⟩:=L.get U;exact⟨p,us,a,vs,D,I,h1,h2,S⟩
 ·rename_i V z q
  cases e;obtain⟨v,D,p,us,rfl,_,I,L⟩:=ok.slot i _ q;obtain⟨a,vs,h1,_,h2,S⟩:=L.get U;exact⟨p,us,a,vs,D,I,h1,h2,S⟩
 ·cases e
variable{a:Addr}
def PartAt.inj{b:Addr}(h:PartAt K H env σ i j a)(h':PartAt K H env σ i j b):a=b:=by
 obtain⟨k,ps,p,us,h1,h2,S,U⟩:=h;obtain⟨Z,V,p',Y,D,I,L,z⟩:=h';rw[h1] at D;cases D;rw[h2] at I;cases I;rw[yj S L.o] at z;rw[U] at z;cases z;rfl
structure JK (X:Cx) (e:Expr) (z:Int):Prop where
 out:PE X e (tC (.int z))
variable{fs:b2}
def labO(k:AK)(l:Option Nat):Prop:=l.isSome=true/\∀c fs,k≠.ins true c fs
instance (k:AK) (l:Option Nat):Decidable (labO k l):=Classical.propDecidable _
instance (k k':AK):Decidable (k=k'):=Classical.propDecidable _
abbrev FG:=DE0->Option (Ag×DE0)
def zyj(env:DE0)(σ:St)(H:Hp)(s:Sl)(v:V):Prop:=∀(j:Nat) (s':Sl) (z:V) (a:Addr),env[j]?=↑↑s'->σ[j]?=↑↑z->Owns H s v a->¬Owns H s' z a
def tAG(X:Cx)(G:Gd)(H0:Hp)(f:FG):TE:=λσ H Q=>DP X.K G H0 f (λW env x env' =>
 ∀W' p H',Step W H W' H'->Ok X.K G H0 W' env' σ H'->SlOk X.K G W' H' (.ag x.1 none x.2) (.ref p)->zyj env' σ H' (.ag x.1 none x.2) (.ref p)->Q (.ref p) H') σ H
structure JAg (X:Cx) (G:Gd) (H0:Hp) (e:Expr) (f:FG):Prop where
 out:PE X e (tAG X G H0 f)
mutual
def noL:D->Bool
 | .lst _=>false | .dct _ _=>false | .tup ds=>noLs ds |_=>true
def noLs:em->Bool
 | []=>true |d::r=>noL d && noLs r
end
def ptD:Pt->D | .d d=>d | .o ds=>.lst ds
def xm(r:Nat):DE0->Option er
 | []=>none |some (.ag .ls ↑r' ps)::e=>if r'=r then ↑ps else xm r e
 |_::e=>xm r e
def xl:er->Nat->Option em
 | .o ds::_,0=>↑ds | .o _::r,j+1=>xl r j | .d _::r,j=>xl r j | [],_=>none
def zws(b:Bool)(ps:er):er:=if b=true then ps.map λp=>.d (ptD p) else ps
def frz1(b:Bool)(env:DE0):et->et
 |some (.sh d)=>↑(.sh d) |some (.ow ds)=>↑(.sh (.lst ds)) |some (.o2 dss)=>↑(.sh (.lst (dss.map D.lst))) |some (.ag .ls _ ps)=>↑(.sh (.lst (ps.map ptD))) |some (.ag k _ ps)=>↑(.ro k (zws b ps)) |some (.ro .ls ps)=>↑(.sh (.lst (ps.map ptD))) |some (.ro k ps)=>↑(.ro k (zws b ps)) |some (.al r j)=>(xm r env).bind λps=>(xl ps j).map λds=>.sh (.lst ds) |none=>none
def frz(b:Bool)(env:DE0):DE0:=env.map (frz1 b env)
def PtsRo.all(h:PtsRo K G W H ps us)(z:∀a,O a):Reps K H O (ps.map ptD) us:=by
 induction h with
 |nil=>exact .nil |d r _ ih=>exact .cons ((q0 λa _=>z a).1 _ _ r) ih |o _ hl r _ ih=>exact .cons (.lst (z _) (.inl hl) ((q0 λa _=>z a).2 _ _ r)) ih
def fFrz(b:Bool)(f:FE):FE:=λe=>(f (frz b e)).bind λr=>if noL r.1=true then ↑(r.1,e) else none
def zwt(b:Bool)(f:FA):FA:=λe=>(f (frz b e)).bind λr=>if noLs r.1=true then ↑(r.1,e) else none
def frs1:et->et
 |some (.sh d)=>↑(.sh d) |some (.ag k _ ps)=>↑(.ro k ps) |some (.ro k ps)=>↑(.ro k ps) |_=>none
def frsE(env:DE0):DE0:=env.map frs1
def OwG(G:Gd)(W:Addr->Prop)(H:Hp):Gd:=⟨λa=>Ow G W a\/H a=none,G.r⟩
def PtsOk.length(h:PtsOk K G W H ps as us):ps.length=us.length:=by
 induction h with
 |nil=>rfl |d _ _ ih=>rw[am,am,ih] |o _ _ _ _ ih=>rw[am,am,ih]
abbrev FP:=DE0->Option er
def tPs(X:Cx)(G:Gd)(H0:Hp)(f:FP):TA:=λσ H Q=>∃W env ps,Ok X.K G H0 W env σ H/\f env=↑ps /\
 ∀as us H',Same H H'->as.Nodup->(∀a∈as,H a=none)->PtsOk X.K (OwG G W H) (λa=>a∈as) H' ps as us->Q us H'
structure JPs (X:Cx) (G:Gd) (H0:Hp) (es:da) (f:FP):Prop where
 out:PA X es (tPs X G H0 f)
def Rd.some{u:HO}(h:Rd H a u):H a≠none:=λz=>by rcases h with h | ⟨_,h⟩ <;> rw[z] at h <;> cases h
def PtsOk.snoc{vs:el}{l:Addr}(h:PtsOk K G W H ps as us)(z:W l)(D:H l=↑(.lst vs))(r:Reps K H (Ow G W) ds vs):PtsOk K G W H (ps++[.o ds]) (as++[l]) (us++[.ref l]):=by
 induction h with
 |nil=>exact .o z D r .nil |d q _ ih=>exact .d q ih |o a b c _ ih=>exact .o a b c ih
end L2
namespace L2
open PySem
abbrev zqq:b2:=["kept", "states"]
end L2
namespace L2
open PySem PySem.Spec PyProof.Rows
def zwu(i:Nat)(g:FE)(F:FA):FS:=λe=>(F e).bind λr=>match r.2[i]? with
 |some ↑(.o2 dss)=>(g (frsE r.2)).bind λq=>(match q.1 with | .int k=>(ixN dss.length k).map λj=>(.nx,r.2.set i ↑(.o2 (dss.set j r.1))) |_=>none)
 |_=>none
def zwv(i:Nat)(g h f:FE):FS:=λe=>(f e).bind λr=>match r.2[i]? with
 |some ↑(.o2 dss)=>(g (frsE r.2)).bind λq=>(h (frsE r.2)).bind λp=>(match q.1,p.1 with
   | .int k,.int m=>(ixN dss.length k).bind λj=>(dss[j]?).bind λds=>(ixN ds.length m).map λn=>(.nx,r.2.set i ↑(.o2 (dss.set j (ds.set n r.1))))
   |_,_=>none)
 |_=>none
end L2
namespace L2
open PySem PySem.Spec PyProof.Rows PySem.F
end L2
namespace L2
open PySem PySem.Spec PyProof.Rows
def celN(N:b2)(sc:Scope):b2:=N.filter λu=>sc.names.lookup u==some .cell
def scB(N ps:b2)(sc:Scope):Bool:=decide (sc.kind=.function) && !sc.isCoroutine && !sc.isGenerator && decide N.Nodup && decide (N.take ps.length=ps) && decide (∀y∈sc.names,y.2≠.free) && N.all λx=>okN x && (sc.names.lookup x==some .local || sc.names.lookup x==some .cell)
variable{N ps:b2}{sc:Scope}
def qd(h:scB N ps sc=true):o0 N ps sc/\∀x∈N,Loc sc x/\(x==("__debug__" : Str))=false/\(x==("__classdict__" : Str))=false:=by
 unfold scB at h;simp only[fm,decide_eq_true_eq,lc,fj] at h;obtain⟨⟨⟨⟨⟨⟨h1,h2⟩,L⟩,S⟩,D⟩,U⟩,V⟩:=h;have I:∀x∈N,Loc sc x/\(x==("__debug__" : Str))=false/\(x==("__classdict__" : Str))=false:=λx z=>by
  obtain⟨a,b⟩:=V x z;have a:=qt a;rcases Bool.or_eq_true _ _ ▸ b with b |b
  ·exact⟨.inl (oq b),a⟩
  ·exact⟨.inr (oq b),a⟩
 exact⟨⟨h1,h2,L,S,D,λx z=>(I x (by rw[<-D] at z;exact j8 z)).1,U⟩,I⟩
variable{P:Program}{w:World}{K:eb}{mg:Str->b5}{base:Heap}{CX:CXT}{qual:Str}{f:Addr}{cdv:Value}{A:Around}{outer:cm}{s:Shared}{H:Hp}{E:XK}
def yf(h:scB N ps sc=true):Ats N (celN N sc) (cxOf CX P w K mg base N qual sc f cdv A outer s H E) :=
 ⟨rfl,λi x e=>let z:=(qd h).2 x (bn e);⟨e,z.1.elim .inl λq=>.inr (.inl q),z.2.1,z.2.2⟩,λu D=>by
  obtain⟨_,h2⟩:=gc.mp D;exact .inl (oq h2)⟩
def ye(h:scB N ps sc=true):Tos N (cxOf CX P w K mg base N qual sc f cdv A outer s H E) :=
 ⟨λi x e=>⟨(qd h).1.nd,e,((qd h).2 x (bn e)).1,.inl rfl⟩⟩
variable{X:Cx}{i:Nat}{x:Str}{pos:Pos}
def Tos.pg(t:Tos N X)(h:N[i]?=↑x:=by rfl):PG X (.Name x pos) (kc i):=y8 (t.t h).nd (t.t h).n (t.t h).l (t.t h).f
variable{G:Gd}{H0:Hp}{e:Expr}{p':Pos}{F:FA}
def Tos.psF(t:Tos N X)(z:DFx X G H0 e F)(h:N[i]?=↑x:=by rfl)(D:swapsWith e ↑(.Name x p') pos.line X.env=pure false:=by rfl):PS X (.Assign [.Name x p'] e pos) (tAsg (tDF X.K G H0 F) (kc i)):=zq7 (t.t h).nd (t.t h).n (t.t h).l z.out D (t.t h).f
variable{P:b4->Prop}
def us0(h:P [])(us:b4)(e:us.length=0):P us:=mv e ▸ h
variable{n:Nat}
def usn(h:∀a,∀us:b4,us.length=n->P (a::us))(us:b4)(e:us.length=n+1):P us:=by
 cases us with
 |nil=>cases e
 |cons a us=>exact h a us (k5 e)
def us1(h:∀a,P [a]):∀us,us.length=1->P us:=usn λa=>us0 (h a)
def us2(h:∀a b,P [a,b]):∀us,us.length=2->P us:=usn λa=>us1 (P:=λus=>P (a::us)) (h a)
def us3(h:∀a b c,P [a,b,c]):∀us,us.length=3->P us:=usn λa=>us2 (P:=λus=>P (a::us)) (h a)
def us4(h:∀a b c d,P [a,b,c,d]):∀us,us.length=4->P us:=usn λa=>us3 (P:=λus=>P (a::us)) (h a)
def us5(h:∀a b c d e,P [a,b,c,d,e]):∀us,us.length=5->P us:=usn λa=>us4 (P:=λus=>P (a::us)) (h a)
def Def(K:eb)(mg:Str->b5)(st:Stmt)(x:Str)(ps:b2):Prop:=∃f fd,Fun K x x st f fd/\Binds K fd ps []/\mg x=↑(.ref f)
def Mef(K:eb)(C:Addr)(st:Stmt)(x qual:Str)(ps:b2):Prop:=∃f fd,Fun K x qual st f fd/\Binds K fd ps []/\Meth K C x f
variable{P:Program}{st:Stmt}{k ar:Nat}{g:FS}
theorem i3(T:Def K mg st x ps)(N:b2)(z:∀ {f:Addr} {cdv:Value} {A:Around} {outer:cm} {s:Shared} {H:Hp} {E:XK} {G:Gd} {H0:Hp},Room k (A.deeper (envOfC x (gn st) s.heap.objs.size f cdv)) ->
   Ats N (celN N (gn st)) (cxOf CX0 P w K mg base N x (gn st) f cdv A outer s H E).nox->Tos N (cxOf CX0 P w K mg base N x (gn st) f cdv A outer s H E).nox->DBx (cxOf CX0 P w K mg base N x (gn st) f cdv A outer s H E).nox G H0 (kb st) g)(h:scB N ps (gn st)=true:=by decide +kernel)(D:okN x=true:=by decide +kernel)(I:n=N.length:=by rfl)(L:ar=ps.length:=by rfl):Cal P w K mg base CX0 x (k+1) (dSp K (runD n ar g)):=by
 obtain⟨f,fd,F,b,m⟩:=T;exact⟨f,fd,ps,fn_D F (qd h).1 I L λcdv A outer s H E G H0 S=>z S (yf h).nox (ye h).nox,m,F.kp,b,(qt D).1⟩
theorem zww(T:Def K mg st x ps)(N:b2)(z:∀ {f:Addr} {cdv:Value} {A:Around} {outer:cm} {s:Shared} {H:Hp} {E:XK} {G:Gd} {H0:Hp},Room k (A.deeper (envOfC x (gn st) s.heap.objs.size f cdv)) ->
   Ats N (celN N (gn st)) (cxOf CX0 P w K mg base N x (gn st) f cdv A outer s H E).nox->Tos N (cxOf CX0 P w K mg base N x (gn st) f cdv A outer s H E).nox->DBx (cxOf CX0 P w K mg base N x (gn st) f cdv A outer s H E).nox G H0 (kb st) g)(h:scB N ps (gn st)=true:=by decide +kernel)(D:okN x=true:=by decide +kernel)(I:n=N.length:=by rfl)(L:ar=ps.length:=by rfl):Cal P w K mg base CX0 x (k+1) (fSp K (runF n ar g)):=by
 obtain⟨f,fd,F,b,m⟩:=T;exact⟨f,fd,ps,fn_F F (qd h).1 I L λcdv A outer s H E G H0 S=>z S (yf h).nox (ye h).nox,m,F.kp,b,(qt D).1⟩
def zyk(N:b2)(z:∀ {f:Addr} {cdv:Value} {A:Around} {outer:cm} {s:Shared} {H:Hp} {E:XK} {G:Gd} {H0:Hp},Room k (A.deeper (envOfC x (gn st) s.heap.objs.size f cdv)) ->
   Ats N (celN N (gn st)) (cxOf CX0 P w K mg base N x (gn st) f cdv A outer s H E).nox->Tos N (cxOf CX0 P w K mg base N x (gn st) f cdv A outer s H E).nox->DBx (cxOf CX0 P w K mg base N x (gn st) f cdv A outer s H E).nox G H0 (kb st) g)(h:scB N ps (gn st)=true:=by decide +kernel)(D:n=N.length:=by rfl)(I:ar=ps.length:=by rfl):∀f fd,Fun K x x st f fd->FnOk P w K mg base CX0 (k+1) f fd ps (dSp K (runD n ar g)) :=
 λf fd F=>fn_D F (qd h).1 D I λcdv A outer s H E G H0 L=>z L (yf h).nox (ye h).nox
variable{s:Str}{h:Heap}{oc:Value}{od an:Option Addr}{osl:Array b5}
def law_mk{fa:Addr}{m:em->ep}{kV z L cdv ct:Value}(X:K.In h)(G:h.Ns mainGlobals mg)(I:mg x=↑(.ref fa))(a:PySem.W.nsIn K mainGlobals x=↑↑(.ref f))(l:K.lookup f=↑⟨oc,od,.func (PySem.W.fnOf x x (nt st) (kb st) (gn st) .none kV z L an cdv ct),osl⟩)(c:PySem.W.codeIn K cdv x=true)(S:PySem.W.keepIn K (.ref f)=true)(U:∀v:Value,bindArgs (PySem.W.fnOf x x (nt st) (kb st) (gn st) .none kV z L an cdv ct) ⟨[v],[]⟩=pure [(s,v)])(F:∀base f fd,Fun K x x st f fd->FnOk P w K mg base CX0 k f fd [s] (dSp K m))(good:∀ns:ci,ns.length<=63->m [.lst (ns.map D.int)]=↑(.bl true)) :
  ∃fd:FuncData,(∀(t:Shared) (v:Value),BindsTo t fd ⟨[v],[]⟩ [(s,v)])/\∀base:Heap,K.In base->base.Ns mainGlobals mg->FnOk P w K mg base CX0 k fa fd [s] (u4 K):=by
 have e:=I.symm.trans (kj X G a);cases e;exact⟨_,λt v=>.of_eq (U v),λbase _ _=>zx7 (F base _ _ (yl l c S)) good⟩
def walkD{l:PySem.W.OpenLaw}{q:Program}{D:b2}{S:(Str->b5)->Heap->Prop}{L:World->Heap->Prop}{d:DefRec}{K:Params->eb}(U:Room k callerA)(V:l.most=↑63)(I:d.params.defaults=[])(Y:∀(w:World) (h:Heap),L w h->(K w.params).In h)(F:∀(w:World) (mg:Str->b5) (fa:Addr) (h:Heap),(K w.params).In h->h.Ns mainGlobals mg->mg d.name=↑(.ref fa) ->
   ∃fd:FuncData,(∀(t:Shared) (u:Value),BindsTo t fd ⟨[u],[]⟩ [(s,u)])/\∀base:Heap,(K w.params).In base->base.Ns mainGlobals mg->FnOk l.prog w (K w.params) mg base CX0 k fa fd [s] (u4 (K w.params))) :
  PySem.W.WalkO q D S L l.row.toRowW d [] (λf vs=>PySem.call f vs) :=
 zss (n:=63) (k:=k) (x:=s) (CX:=λ_=>CX0) (sp:=λw=>u4 (K w.params)) V (by decide) I U Y F (λ_ _ a ns Z _ b=>⟨a,ns,rfl,b,Z,λ_=>rfl⟩) λ_ _ _ _ _ z=>z
def def_mk{kV z D cdv ct:Value}(X:K.In h)(G:h.Ns mainGlobals mg)(a:PySem.W.nsIn K mainGlobals x=↑↑(.ref f))(l:K.lookup f=↑⟨oc,od,.func (PySem.W.fnOf x x (nt st) (kb st) (gn st) .none kV z D an cdv ct),osl⟩)(c:PySem.W.codeIn K cdv x=true)(k:PySem.W.keepIn K (.ref f)=true)(I:∀us:b4,us.length=ps.length->bindArgs (PySem.W.fnOf x x (nt st) (kb st) (gn st) .none kV z D an cdv ct) ⟨us,[]⟩=pure (ps.zip us)):Def K mg st x ps :=
 ⟨f,_,yl l c k,.all I,kj X G a⟩
variable{C:Addr}
def zyz{c:Str}(X:K.In h)(G:h.Ns mainGlobals mg)(a:PySem.W.nsIn K mainGlobals c=↑↑(.ref C))(b:PySem.W.excIn K C VEs "ValueError.__new__" = true)(d:okN c=true):Exc K mg c:=⟨C,a,b,kj X G a,(qt d).1⟩
def con_mk{z:Int}{t:Tok}(X:K.In h)(G:h.Ns mainGlobals mg)(a:PySem.W.nsIn K mainGlobals x=↑↑(.int z t)):∃t,mg x=↑(.int z t):=⟨t,kj X G a⟩
def zy0{kV z D cdv ct:Value}(a:PySem.W.findIn K (.ref C) x=↑↑(.ref f))(l:K.lookup f=↑⟨oc,od,.func (PySem.W.fnOf x qual (nt st) (kb st) (gn st) .none kV z D an cdv ct),osl⟩)(c:PySem.W.codeIn K cdv qual=true)(k:PySem.W.keepIn K (.ref f)=true)(i:PySem.W.isFn K (.ref f)=true)(I:∀us:b4,us.length=ps.length->bindArgs (PySem.W.fnOf x qual (nt st) (kb st) (gn st) .none kV z D an cdv ct) ⟨us,[]⟩=pure (ps.zip us)):Mef K C st x qual ps :=
 ⟨f,_,yl l c k,.all I,a,i,k⟩
def recD(n ar:Nat)(g:(em->ep)->FS):Nat->em->ep
 |0=>λ_=>none |i+1=>runD n ar (g (recD n ar g i))
def zqr{b:List Stmt}:DBx X G H0 b (λ_=>none):=⟨λpins s σ H D I q=>by
 obtain⟨W,env,fl,env',ok,q,k⟩:=q;cases q⟩
def zwx{P:Program}{w:World}{K:eb}{mg:Str->b5}{base:Heap}{ps:b2}{x:Str}{st:Stmt}{n ar:Nat}{g:(em->ep)->FS}(T:Def K mg st x ps)(N:b2)(S:∀(j:Nat) (m:em->ep) {f:Addr} {cdv:Value} {A:Around} {outer:cm} {s:Shared} {H:Hp} {E:XK} {G:Gd} {H0:Hp},Cal P w K mg base CX0 x j (dSp K m)->Room j (A.deeper (envOfC x (gn st) s.heap.objs.size f cdv)) ->
   Ats N (celN N (gn st)) (cxOf CX0 P w K mg base N x (gn st) f cdv A outer s H E).nox->Tos N (cxOf CX0 P w K mg base N x (gn st) f cdv A outer s H E).nox->DBx (cxOf CX0 P w K mg base N x (gn st) f cdv A outer s H E).nox G H0 (kb st) (g m))(h:scB N ps (gn st)=true:=by decide +kernel)(z:okN x=true:=by decide +kernel)(I:n=N.length:=by rfl)(L:ar=ps.length:=by rfl):∀i,Cal P w K mg base CX0 x (i+1) (dSp K (recD n ar g i))
 |0=>by
   have c:=i3 (k:=0) (g:=λ_=>none) (n:=n) (ar:=ar) (base:=base) (w:=w) (P:=P) T N (λ_ _ _=>zqr) h z I L;have e:runD n ar (λ_=>none)=recD n ar g 0:=by
    funext ds;unfold runD recD;split <;> rfl
   rw[<-e];exact c
 |i+1=>i3 (k:=i+1) (g:=g (recD n ar g i)) T N (λr a t=>S (i+1) (recD n ar g i) (zwx T N S h z I L i) r a t) h z I L
def zyl{g:(em->ep)->FS}(i:Nat)(T:Def K mg st x ps)(N:b2)(z:∀(j:Nat) (m:em->ep) {f:Addr} {cdv:Value} {A:Around} {outer:cm} {s:Shared} {H:Hp} {E:XK} {G:Gd} {H0:Hp},Cal P w K mg base CX0 x j (dSp K m)->Room j (A.deeper (envOfC x (gn st) s.heap.objs.size f cdv)) ->
   Ats N (celN N (gn st)) (cxOf CX0 P w K mg base N x (gn st) f cdv A outer s H E).nox->Tos N (cxOf CX0 P w K mg base N x (gn st) f cdv A outer s H E).nox->DBx (cxOf CX0 P w K mg base N x (gn st) f cdv A outer s H E).nox G H0 (kb st) (g m))(h:scB N ps (gn st)=true:=by decide +kernel)(I:okN x=true:=by decide +kernel)(L:n=N.length:=by rfl)(S:ar=ps.length:=by rfl):Cal P w K mg base CX0 x (i+1) (dSp K (recD n ar g i)):=zwx T N z h I L S i
def ExcO(o:Obj)(C:Addr):Prop:=∃vs,o.cls=.ref C/\o.data=.fields vs/\vs[2]?=some .none
end L2
namespace L2
open PySem PySem.Spec PyProof.Rows PySem.W
structure ECls (K:eb) (C:Addr):Prop where
 ga:PySem.W.findIn K (.ref C) "__getattribute__" = ↑↑(.builtin "BaseException.__getattribute__")
 hk:PySem.W.findIn K (.ref C) "__getattr__" = ↑none
 fd:PySem.W.findObj K C none "__class__" = ↑(.bind (.builtin "getset_descriptor.__get__") (.builtin "object.__class__"))
 ob:PySem.W.mroIn K C (.type "object")=↑true
 be:PySem.W.mroIn K C (.type "BaseException")=↑true
def Exo(o:Obj)(C:Addr):Prop:=ExcO o C/\o.dict=none
structure Hd (ea C:Addr) (X:Cx):Prop where
 hh:X.A.handled=↑(.ref ea)
 ob:∃o,X.s₀.heap.get? ea=↑o/\Exo o C
 h0:X.H₀ ea=none
 nf:ea∉X.fs
 nx:ea∉X.ex
variable{X:Cx}{pins:ed}{σ:St}{H:Hp}{s:Shared}{ea C:Addr}
def Hd.at(h:Hd ea C X)(I:Inv X pins σ H s):∃o,s.heap.get? ea=↑o/\Exo o C/\H ea=none :=
 let ⟨o,e,c⟩:=h.ob;⟨o,I.base.keep ea o e h.h0 h.nf h.nx,c,I.base.free ea o e h.h0 h.nx⟩
structure KOk (P:Program) (w:World) (K:eb) (mg:Str->b5) (base:Heap) (k:Nat) (f:Addr) (fd:FuncData) (ps:b2) (kd:Str->ep):Prop where
 len:ps.length=1
 run:∀(A:Around) (outer:cm) (s:Shared) (H:Hp) (ea C:Addr) (c:Str) (o:Obj) (d:D) (O:Addr->Prop) (Q:VK) (args:Args),Room k { A with handled:=none }->A.handled=↑(.ref ea)->Env0 P w K mg base A outer s H->BindsTo s fd args (ps.zip [.ref ea]) ->
  s.heap.get? ea=↑o->Exo o C->Cl K c C->H ea=none->ea∉frs outer->kd c=↑d->(∀v H',Same H H'->Rep K H' (λa=>O a\/H a=none) d v->Q v H')->codeAny (model P w) A (.call (.ref f) args) (CR CX0 outer P w H s Q E0) s
def qc:b2:=["UnknownStack", "EmptyStack", "UnknownPlace", "BadHours", "BadLoss", "BadCount", "HouseFull", "DeedsFull", "NothingWaits", "NothingDone", "ShortOrder", "TooManyOrders", "NotGone"]
def zym:b2:=["unknown stack", "empty stack", "unknown place", "bad hours", "bad loss", "bad count", "house full", "deeds full", "nothing waits", "nothing done", "short order", "too many orders", "not gone"]
def zwy(c:Str):dc:=(qc.zip zym).lookup c
def kdT(c:Str):ep:=(zwy c).map λw=>.tup [.str "refused",.str w]
def xk(K:eb)(C:Addr):Bool:=findIn K (.ref C) "__getattribute__"==↑↑(.builtin "BaseException.__getattribute__") && findIn K (.ref C) "__getattr__"==↑none && (match findObj K C none "__class__" with |some (.bind (.builtin g) (.builtin a))=>g=="getset_descriptor.__get__" && a=="object.__class__" |_=>false) && mroIn K C (.type "object")==↑true && mroIn K C (.type "BaseException")==↑true
def refB(K:eb)(n:Str)(p:Addr->Bool):Bool:=match nsIn K mainGlobals n with |some ↑(.ref R)=>p R |_=>false
def zwz(K:eb):Bool:=qc.all λc=>refB K c λC=>xk K C && kitOne K (.ref C) (.type "ValueError")==↑true && refB K "RotError" (λR=>exmOne K (.ref C) (.ref R)==↑true) && qc.all λn=>refB K n λR=>kitOne K (.ref C) (.ref R)==↑(c==n)
variable{K:eb}
def yv{n:Str}{p:Addr->Bool}(h:refB K n p=true):∃R,nsIn K mainGlobals n=↑↑(.ref R)/\p R=true:=by
 unfold refB at h;split at h
 ·exact⟨_,by assumption,h⟩
 ·cases h
def zqs(h:xk K C=true):ECls K C:=by
 unfold xk at h;simp only[fm,beq_iff_eq] at h;obtain⟨⟨⟨⟨h1,h2⟩,z⟩,D⟩,I⟩:=h;refine⟨h1,h2,?_,D,I⟩;split at z
 ·rename_i g a e
  rw[fm,beq_iff_eq,beq_iff_eq] at z;rw[e,z.1,z.2]
 ·cases z
variable{c:Str}
def zmu(h:(kdT c).isSome=true):c∈qc:=by
 unfold kdT at h;rw[Option.isSome_map] at h;obtain⟨w,e⟩:=rq.mp h;exact(ir (dh e)).1
structure KFacts (K:eb) (mg:Str->b5):Prop where
 b:zwz K=true
 m:∀n∈("RotError" : Str)::qc,∀R,nsIn K mainGlobals n=↑↑(.ref R)->mg n=↑(.ref R)
variable{mg:Str->b5}
def zy1{h:Heap}(X:K.In h)(G:h.Ns mainGlobals mg)(b:zwz K=true):KFacts K mg:=⟨b,λ_ _ _ e=>mg_of X G e⟩
def KFacts.all(k:KFacts K mg)(L:(kdT c).isSome=true)(cl:Cl K c C):ECls K C/\kitOne K (.ref C) (.type "ValueError")=↑true/\(∃R,mg "RotError" = ↑(.ref R)/\exmOne K (.ref C) (.ref R)=↑true)/\∀n∈qc,∃R,mg n=↑(.ref R)/\kitOne K (.ref C) (.ref R)=↑(c==n):=by
 have h:=fj.mp k.b c (zmu L);obtain⟨V,e,h⟩:=yv h;cases e.symm.trans cl;simp only[fm,beq_iff_eq] at h;obtain⟨⟨⟨h1,h2⟩,z⟩,D⟩:=h;obtain⟨R,S,z⟩:=yv z;refine⟨zqs h1,h2,⟨R,k.m _ au R S,beq_iff_eq.mp z⟩,λn I=>?_⟩;obtain⟨R,U,D⟩:=yv (fj.mp D n I);exact⟨R,k.m _ (ai _ I) R U,beq_iff_eq.mp D⟩
end L2
namespace LB
open PySem L2
def zg6:FS:=sRet (fBin dSub (fBin dMul (fIxV 0 (fC (.int 1))) (fIxV 1 (fC (.int 0)))) (fBin dMul (fIxV 1 (fC (.int 1))) (fIxV 0 (fC (.int 0)))))
def wd:em->ep:=runD 2 2 zg6
def vw:FS:=sSeq (sSet 2 (e8 wd (bx (fVar 0) (bx (fVar 1) (fNil))))) (sSeq (sIf (fTst (fBin dGt (fVar 2) (fC (.int 0)))) (sRet (fC (.int 1))) (sNil)) (sSeq (sIf (fTst (fBin dLt (fVar 2) (fC (.int 0)))) (sRet (fUn dNeg (fC (.int 1)))) (sNil)) (sRet (fC (.int 0)))))
def oa:em->ep:=runD 3 2 vw
def zgh:FS:=sRet (ql (fIsi "int" (fVar 0)) (xv (fIsi "bool" (fVar 0))))
def ud:em->ep:=runD 1 1 zgh
def zr:FS:=sSeq (sIf (fTst (fBin dLt (fVar 1) (g5 0))) (sRet (fIxV 0 (fVar 1))) (sNil)) (sRet (fC (.int 0)))
def tw:List D->Option D:=runD 2 2 zr
def wn:FS:=sSeq (sSet 5 (e8 tw (bx (fVar 0) (bx (fVar 4) (fNil))))) (sSeq (sIf (fTst (fBin dEq (fBin dMod (g5 0) (fC (.int 2))) (fC (.int 1)))) (sSeq (sSet 3 (fBin dMod (fBin gq (fBin gq (fBin gq (fBin dMul (fVar 3) (fC (.int 48271))) (fVar 5)) (fVar 4)) (fC (.int 1))) (fC (.int 2147483647)))) (sSet 5 (fBin dMod (fBin dMul (fBin gq (fVar 3) (fVar 4)) (fC (.int 69621))) (fC (.int 2147483647))))) (sNil)) (jm (ky 2 (fVar 5))))
def zgi:FS:=sSeq (sOwn 2 (gm (fNil))) (sSeq (sSet 3 (fC (.int 7))) (sSeq (sFor 4 (gy iR1 (bx (fVar 1) (fNil))) (wn)) (sRet (fVar 2))))
def uc:em->ep:=runD 6 2 zgi
def zju:FS:=sRet (fIxV 0 (fC (.int 1)))
def ub:em->ep:=runD 1 1 zju
def zkn:FS:=sRet (fIxV 0 (fC (.int 2)))
def wc:em->ep:=runD 1 1 zkn
def zho:FS:=sRet (fTup (bx (fC (.int 1)) (bx (e8 ub (bx (fVar 0) (fNil))) (bx (e8 wc (bx (fVar 0) (fNil))) (fNil)))))
def wj:em->ep:=runD 1 1 zho
def zfd:FS:=sRet (fTup (bx (fBin gq (fIxV 0 (fC (.int 0))) (fIxV 1 (fC (.int 0)))) (bx (fBin gq (fIxV 0 (fC (.int 1))) (fIxV 1 (fC (.int 1)))) (bx (fBin gq (fIxV 0 (fC (.int 2))) (fIxV 1 (fC (.int 2)))) (fNil)))))
def wg:em->ep:=runD 2 2 zfd
def zfv:FS:=sRet (fTup (bx (fIxV 0 (fC (.int 1))) (bx (fIxV 0 (fC (.int 2))) (fNil))))
def t9:em->ep:=runD 1 1 zfv
def wz:FS:=sRet (fBin dGt (e8 oa (bx (e8 t9 (bx (fVar 0) (fNil))) (bx (e8 t9 (bx (fVar 1) (fNil))) (fNil)))) (fC (.int 0)))
def n9:em->ep:=runD 2 2 wz
def wx:FS:=sSet 3 (e8 wg (bx (fPop 1) (bx (fVar 3) (fNil))))
def ww:FS:=sSeq (sSet 3 (e8 wj (bx (fVar 2) (fNil)))) (sSeq (ke (fAnd (fTst (fBin dGt (g5 1) (fC (.int 0)))) (fNot (fTst (e8 n9 (bx (fIxV 1 (fUn dNeg (fC (.int 1)))) (bx (fVar 3) (fNil))))))) (wx) 10000) (jm (ky 1 (fVar 3))))
def zdq:FS:=sSeq (sOwn 1 (gm (fNil))) (sSeq (sFor 2 (fiS (fVar 0)) (ww)) (sRet (fVar 1)))
def zdr:em->ep:=runD 4 1 zdq
def zct:FS:=sSeq (sIf (fTst (fBin dEq (g5 0) (fC (.int 0)))) (sRet (fLst (gm (fNil)))) (sNil)) (sSeq (sSet 1 (fIxV 0 (fBin dSub (g5 0) (fC (.int 1))))) (sRet (fLst (fCat (fLst (fSl (fVar 0) (fO0) (fO1 (fBin dSub (g5 0) (fC (.int 1)))))) (fLst (gm (bx (fTup (bx (fIxV 1 (fC (.int 0))) (bx (fIxV 1 (fC (.int 1))) (bx (fBin gq (fIxV 1 (fC (.int 2))) (fC (.int 1))) (fNil))))) (fNil))))))))
def qb:em->ep:=runD 2 1 zct
def wu:FS:=sSeq (sSet 9 (fIxV 0 (fBin gq (fC (.int 1)) (fVar 8)))) (sSeq (sSet 10 (fBin gq (fC (.int 1)) (fBin dMod (fVar 9) (fC (.int 60))))) (sSeq (sSet 11 (fBin dMod (fBin dDiv (fVar 9) (fC (.int 60))) (fC (.int 101)))) (sSeq (sIf (fTst (fBin dEq (fVar 4) (fC (.int 1)))) (sSeq (sSet 10 (fBin gq (fC (.int 1)) (fBin dMod (fVar 9) (fBin dSub (fC (.int 4)) (fBin dMul (fC (.int 2)) (fVar 5)))))) (sSet 11 (fBin dMod (fBin dDiv (fVar 9) (fC (.int 60))) (fBin dSub (fC (.int 4)) (fBin dMul (fC (.int 2)) (fVar 5)))))) (sNil)) (sSeq (sIf (fTst (fBin dEq (fVar 4) (fC (.int 2)))) (sSeq (sSet 10 (fBin dIx (fLst (gm (bx (fC (.int 1)) (bx (fC (.int 60)) (bx (fC (.int 2)) (bx (fC (.int 59)) (fNil))))))) (fBin dMod (fVar 9) (fC (.int 4))))) (sSet 11 (fBin dIx (fLst (gm (bx (fC (.int 0)) (bx (fC (.int 100)) (bx (fC (.int 1)) (bx (fC (.int 99)) (fNil))))))) (fBin dMod (fBin dDiv (fVar 9) (fC (.int 60))) (fC (.int 4)))))) (sNil)) (sSeq (sIf (fTst (fBin dEq (fVar 4) (fC (.int 3)))) (sSeq (sSet 10 (fBin dIx (fLst (gm (bx (fVar 10) (bx (fBin gq (fC (.int 58)) (fBin dMod (fVar 9) (fC (.int 3)))) (fNil))))) (fVar 5))) (sSet 11 (fVar 10))) (sNil)) (sSeq (sSet 12 (fBin dMod (fBin dIx (fLst (gm (bx (fBin dDiv (fVar 9) (fC (.int 6060))) (bx (fVar 8) (fNil))))) (fBin dMul (fBin dDiv (fVar 4) (fC (.int 3))) (fVar 5))) (fVar 2))) (sSeq (sSet 13 (si 7 (fBin dMod (fBin dDiv (fVar 9) (fC (.int 30300))) (g5 7)))) (jm (vh 6 (fVar 12) (fTup (bx (fVar 13) (bx (fVar 10) (bx (fVar 11) (fNil))))))))))))))
def qa:FS:=sSeq (sSet 2 (fBin dIx (fLst (gm (bx (fC (.int 5)) (bx (fC (.int 3)) (bx (fC (.int 2)) (bx (fC (.int 4)) (bx (fC (.int 1)) (bx (fC (.int 5)) (bx (fC (.int 0)) (bx (fC (.int 4)) (bx (fC (.int 3)) (bx (fC (.int 5)) (bx (fC (.int 2)) (bx (fC (.int 4)) (fNil))))))))))))))) (fBin dMod (fIxV 0 (fC (.int 0))) (fC (.int 12))))) (sSeq (sSet 3 (fBin dSub (fVar 1) (fBin dMod (fBin dDiv (fIxV 0 (fC (.int 0))) (fC (.int 12))) (fBin gq (fVar 1) (fC (.int 1)))))) (sSeq (sSet 4 (fBin dMod (fBin dDiv (fIxV 0 (fC (.int 0))) (fC (.int 180))) (fC (.int 4)))) (sSeq (sSet 5 (fBin dMod (fBin dDiv (fIxV 0 (fC (.int 0))) (fC (.int 720))) (fC (.int 2)))) (sSeq (uw 6 (pz (gy iR1 (bx (fVar 2) (fNil))) [] (gm (fNil)))) (sSeq (sOwn 7 (gy qh (bx (fC (.int 1)) (bx (fC (.int 61)) (fNil))))) (sSeq (sFor 8 (gy iR1 (bx (fBin dMul (fVar 3) (e8 bMin (bx (fVar 2) (bx (fC (.int 1)) (fNil))))) (fNil))) (wu)) (sSeq (sIf (fAnd (fTst (fBin dEq (fVar 4) (fC (.int 3)))) (fTst (fBin dEq (fVar 5) (fC (.int 1))))) (sSet 6 (fLst (iw (fiS (fVar 6)) [] fYes (e8 qb (bx (fVar 0) (fNil)))))) (sNil)) (sRet (fVar 6)))))))))
def vz:em->ep:=runD 14 2 qa
def wy:FS:=sSeq (sIf (fAnd (fTst (fIsi "str" (fIxV 1 (fVar 2)))) (fNot (fTst (fIsi "str" (fIxV 0 (fVar 2)))))) (sRet (fC (.bl false))) (sNil)) (sSeq (sIf (fAnd (fNot (fTst (fIsi "str" (fIxV 1 (fVar 2))))) (fNot (fTst (e8 ud (bx (fIxV 0 (fVar 2)) (fNil)))))) (sRet (fC (.bl false))) (sNil)) (sIf (fTst (fBin dNe (fIxV 0 (fVar 2)) (fIxV 1 (fVar 2)))) (sRet (fC (.bl false))) (sNil)))
def zdf:FS:=sSeq (sIf (fOr (fNot (fTst (fIsi "tuple" (fVar 0)))) (fTst (fBin dNe (g5 0) (g5 1)))) (sRet (fC (.bl false))) (sNil)) (sSeq (sFor 2 (gy iR1 (bx (g5 1) (fNil))) (wy)) (sRet (fC (.bl true))))
def ug:em->ep:=runD 3 2 zdf
def zce:FS:=sIf (fNot (fTst (e8 ug (bx (fIxV 0 (fVar 2)) (bx (fIxV 1 (fVar 2)) (fNil)))))) (sRet (fC (.bl false))) (sNil)
def zc9:FS:=sSeq (sIf (fOr (fNot (fTst (fIsi "list" (fVar 0)))) (fTst (fBin dNe (g5 0) (g5 1)))) (sRet (fC (.bl false))) (sNil)) (sSeq (sFor 2 (gy iR1 (bx (g5 1) (fNil))) (zce)) (sRet (fC (.bl true))))
def xb:em->ep:=runD 3 2 zc9
def zgj:FS:=sRet (fTup (bx (fIxV 0 (fC (.int 2))) (bx (fIxV 0 (fC (.int 3))) (fNil))))
def p9:em->ep:=runD 1 1 zgj
def uh:FS:=sSet 2 (fBin gq (fVar 2) (fC (.int 1)))
def zdg:FS:=sSeq (sSet 2 (fC (.int 0))) (sSeq (ke (fAnd (fTst (fBin dLt (fVar 2) (g5 0))) (fTst (fBin dGe (e8 oa (bx (e8 p9 (bx (fIxV 0 (fVar 2)) (fNil))) (bx (e8 p9 (bx (fVar 1) (fNil))) (fNil)))) (fC (.int 0))))) (uh) 10000) (sRet (fVar 2)))
def zdh:em->ep:=runD 3 2 zdg
def uf:FS:=sSeq (sSet 7 (fTup (bx (fVar 2) (bx (fVar 4) (bx (fVar 5) (bx (fVar 6) (fNil))))))) (jm (vc 1 (sg zdh (uk 1 (bx (fVar 7) (fNil)))) (fVar 7)))
def wt:FS:=ma [4,5,6] (fiS (e8 zdr (bx (fVar 3) (fNil)))) (uf)
def zd8:FS:=sSeq (sOwn 1 (gm (fNil))) (sSeq (ma [2,3] (gy (iEn 1) (bx (fVar 0) (fNil))) (wt)) (sRet (fVar 1)))
def t6:em->ep:=runD 8 1 zd8
def zbv:FS:=sIf (fNot (fTst (e8 xb (bx (fIxV 0 (fVar 2)) (bx (fIxV 1 (fVar 2)) (fNil)))))) (sRet (fC (.bl false))) (sNil)
def zch:FS:=sSeq (sIf (fOr (fNot (fTst (fIsi "list" (fVar 0)))) (fTst (fBin dNe (g5 0) (g5 1)))) (sRet (fC (.bl false))) (sNil)) (sSeq (sFor 2 (gy iR1 (bx (g5 1) (fNil))) (zbv)) (sRet (fC (.bl true))))
def zci:em->ep:=runD 3 2 zch
def zz:FS:=x9 (iw (fiS (fVar 0)) [] fYes (fLst (gy oh (bx (fVar 0) (fNil)))))
def zy:em->Option em:=runF 1 1 zz
def wf:FS:=jm (q9 1 (fRep (gm (bx (fVar 2) (fNil))) (fVar 3)))
def zeu:FS:=sSeq (sOwn 1 (gm (fNil))) (sSeq (ma [2,3,4,5] (fiS (e8 t6 (bx (fVar 0) (fNil)))) (wf)) (ux 1))
def zev:em->Option em:=runF 6 1 zeu
def t5:FS:=sSeq (sSet 2 (fBin gq (fVar 2) (fBin dIx (fIxV 0 (fVar 4)) (fC (.int 1))))) (sSeq (sSet 3 (fBin gq (fVar 3) (fBin dIx (fIxV 0 (fVar 4)) (fC (.int 2))))) (sIf (fTst (fBin dGe (fBin dMul (fVar 3) (fIxV 1 (fC (.int 1)))) (fBin dMul (fIxV 1 (fC (.int 2))) (fVar 2)))) (sSet 1 (fLst (gm (bx (fBin gq (fVar 4) (fC (.int 1))) (bx (fVar 2) (bx (fVar 3) (fNil))))))) (sNil)))
def wb:FS:=sSeq (sSet 1 (fLst (gm (bx (fC (.int 0)) (bx (fC (.int 1)) (bx (fUn dNeg (fC (.int 1))) (fNil))))))) (sSeq (sSet 2 (fC (.int 0))) (sSeq (sSet 3 (fC (.int 0))) (sSeq (sFor 4 (gy iR1 (bx (g5 0) (fNil))) (t5)) (sRet (fVar 1)))))
def vq:em->ep:=runD 5 1 wb
def rg:FS:=sIf (fTst (fBin dGt (fBin dMul (fBin dIx (fIxV 3 (fVar 5)) (fC (.int 2))) (fBin dIx (fIxV 3 (fVar 4)) (fC (.int 1)))) (fBin dMul (fBin dIx (fIxV 3 (fVar 4)) (fC (.int 2))) (fBin dIx (fIxV 3 (fVar 5)) (fC (.int 1)))))) (sSet 4 (fVar 5)) (sNil)
def we:FS:=sSeq (sSet 3 (fLst (iw (fiV 1) [] fYes (e8 vq (bx (fVar 0) (fNil)))))) (sSeq (sSet 4 (fC (.int 0))) (sSeq (sFor 5 (gy iR1 (bx (g5 3) (fNil))) (rg)) (sSeq (jm (ky 2 (fTup (bx (fBin gq (fVar 4) (fC (.int 1))) (bx (fBin dIx (fIxV 3 (fVar 4)) (fC (.int 0))) (bx (fBin dIx (fIxV 3 (fVar 4)) (fC (.int 1))) (bx (fBin dIx (fIxV 3 (fVar 4)) (fC (.int 2))) (fNil)))))))) (zri 1 (fVar 4) (fLst (fSl (fIxV 1 (fVar 4)) (fO1 (fBin dIx (fIxV 3 (fVar 4)) (fC (.int 0)))) (fO0)))))))
def zew:FS:=sSeq (sOwn 1 (iw (fiS (fVar 0)) [] fYes (fLst (gy oh (bx (fVar 0) (fNil)))))) (sSeq (sOwn 2 (gm (fNil))) (sSeq (ke (fTst (fBin dGt (e8 bSum (bx (fLst (iw (fiV 1) [] fYes (g5 0))) (fNil))) (fC (.int 0)))) (we) 10000) (sRet (fVar 2))))
def zex:em->ep:=runD 6 1 zew
def zeb:FS:=sOwn 1 (fCat (fVar 1) (fLst (fRep (gm (bx (fIxV 2 (fC (.int 0))) (fNil))) (fIxV 2 (fC (.int 1))))))
def zx:FS:=sSeq (sOwn 1 (gm (fNil))) (sSeq (sFor 2 (fiS (e8 zex (bx (fVar 0) (fNil)))) (zeb)) (ux 1))
def zko:em->Option em:=runF 3 1 zx
def zil:FS:=sRet (fIxV 0 (fC (.int 0)))
def zfw:em->ep:=runD 1 1 zil
def zec:FS:=sIf (fOr (fTst (fBin dLt (fVar 1) (fC (.int 1)))) (fTst (fBin dGt (fVar 1) (g5 0)))) (sj) (sNil)
def zed:em->ep:=runD 2 2 zec
def wq:FS:=sSeq (sIf (fTst (fBin dEq (fIxV 2 (fBin dSub (fVar 3) (fC (.int 1)))) (fC (.int 0)))) (sj) (sNil)) (ox 2 dSub (fBin dSub (fVar 3) (fC (.int 1))) (fC (.int 1)))
def zee:FS:=sSeq (sOwn 2 (iw (fiS (fVar 0)) [] fYes (g5 0))) (sSeq (sFor 3 (fiS (fVar 1)) (wq)) (sIf (fTst (fBin dGt (ul 2) (fC (.int 0)))) (sj) (sNil)))
def zef:em->ep:=runD 4 2 zee
def wp:FS:=jm (e8 zed (bx (fVar 0) (bx (fVar 2) (fNil))))
def zeg:FS:=sSeq (sFor 2 (fiS (fVar 1)) (wp)) (jm (e8 zef (bx (fVar 0) (bx (fVar 1) (fNil)))))
def zeh:em->ep:=runD 3 2 zeg
def wo:FS:=sSeq (jm (ky 3 (fBin dIx (fIxV 0 (fBin dSub (fVar 4) (fC (.int 1)))) (fIxV 2 (fBin dSub (fVar 4) (fC (.int 1))))))) (ox 2 gq (fBin dSub (fVar 4) (fC (.int 1))) (fC (.int 1)))
def zei:FS:=sSeq (jm (e8 zeh (bx (fVar 0) (bx (fVar 1) (fNil))))) (sSeq (sOwn 2 (iw (fiS (fVar 0)) [] fYes (fC (.int 0)))) (sSeq (sOwn 3 (gm (fNil))) (sSeq (sFor 4 (fiS (fVar 1)) (wo)) (sRet (fVar 3)))))
def vy:em->ep:=runD 5 2 zei
def zds:FS:=sSeq (sSet 6 (fBin gq (fVar 3) (e8 ub (bx (fVar 5) (fNil))))) (sSeq (jm (ky 2 (fTup (bx (e8 zfw (bx (fVar 5) (fNil))) (bx (fVar 4) (bx (fVar 3) (bx (fVar 6) (fNil)))))))) (sSet 3 (fVar 6)))
def zey:FS:=sSeq (sOwn 2 (gm (fNil))) (sSeq (sSet 3 (fC (.int 0))) (sSeq (ma [4,5] (gy iZp (bx (fVar 1) (bx (e8 vy (bx (fVar 0) (bx (fVar 1) (fNil)))) (fNil)))) (zds)) (sRet (fVar 2))))
def zjv:em->ep:=runD 7 2 zey
def zdt:FS:=sSeq (sSet 3 (fBin gq (fVar 3) (e8 ub (bx (fVar 4) (fNil))))) (sSet 2 (fBin gq (fVar 2) (fBin dMul (e8 wc (bx (fVar 4) (fNil))) (fVar 3))))
def zez:FS:=sSeq (sSet 2 (fC (.int 0))) (sSeq (sSet 3 (fC (.int 0))) (sSeq (sFor 4 (fiS (e8 vy (bx (fVar 0) (bx (fVar 1) (fNil))))) (zdt)) (sRet (fVar 2))))
def ua:em->ep:=runD 5 2 zez
def ze0:FS:=sRet (e8 ua (bx (fVar 0) (bx (fLst (gy zev (bx (fVar 0) (fNil)))) (fNil))))
def ze1:em->ep:=runD 1 1 ze0
def zdu:FS:=sRet (e8 bSum (bx (fLst (iw (fiS (fVar 0)) [] fYes (g5 0))) (fNil)))
def wv:em->ep:=runD 1 1 zdu
theorem zyn(ns:ci)(k:Nat):∃c,tw [.lst (ns.map D.int),.int k]=↑(.int c):=by
 by_cases h:(k:Int)<ns.length
 ·obtain⟨x,h1,h2⟩:=zrl (xs:=ns.map D.int) (i:=(k:Int)) (by lia) (by simpa using h)
  rw[bu] at h2;cases q:ns[(k:Int).toNat]? with
  |none=>rw[q] at h2;cases h2
  |some c =>
    rw[q] at h2;cases h2;simp[tw,runD,zr,jf,h,h1]
 ·refine⟨0,?_⟩
  simp[tw,runD,zr,jf,h]
theorem zqt(ns:ci)(n:Nat)(a:n<=1000):∃cs:ci,cs.length=n/\uc [.lst (ns.map D.int),.int n]=↑(.lst (cs.map D.int)):=by
 have loop:=ny (i:=4) (g:=wn)
  (λk e=>∃(cs:ci) (st:Int) (L S:et),cs.length=k/\e=[↑(.sh (.lst (ns.map D.int))),↑(.sh (.int n)),↑(.ow (cs.map D.int)),↑(.sh (.int st)),L,S])
  (rngD 0 n) [↑(.sh (.lst (ns.map D.int))),↑(.sh (.int n)),↑(.ow []),↑(.sh (.int 7)),none,none] ⟨[],7,none,none,rfl,rfl⟩ ?_
 ·obtain⟨e',h1,cs,st,L,S,I,rfl⟩:=loop
  refine⟨cs,by rw[I,n4],?_⟩;have Y:=md n (by lia);simp[uc,runD,zgi,jf,Y,h1]
 ·rintro k d e hd ⟨cs,st,L,S,I,rfl⟩
  obtain⟨rfl,b⟩:=nr hd;obtain⟨c,U⟩:=zyn ns k;have z:Few (cs.length+1):=few (by lia);by_cases V:(ns.length:Int) % 2=1
  ·refine⟨_,?_,cs++[((st*48271+c+k+1) % 2147483647+k)*69621 % 2147483647],(st*48271+c+k+1) % 2147483647,↑(.sh (.int (0+k))),↑(.sh (.int (((st*48271+c+k+1) % 2147483647+k)*69621 % 2147483647))),by simp[I],rfl⟩
   have Z:jt 48271:=kz (by decide);have s2:jt 69621:=kz (by decide);simp[wn,U,V,dMod,dMul,Z,s2,z]
  ·refine⟨_,?_,cs++[c],st,↑(.sh (.int (0+k))),↑(.sh (.int c)),by simp[I],rfl⟩
   simp[wn,U,V,dMod,z]
def zw0(a b c d:Int)(z:jt b)(hd:jt d) :
  wd [.tup [.int a,.int b],.tup [.int c,.int d]]=↑(.int (b*c-d*a)):=by
 simp[wd,runD,zg6,jf,dMul,z,hd,atI,ixN]
theorem zll(a b c d:Int)(L:jt b)(hd:jt d) :
  oa [.tup [.int a,.int b],.tup [.int c,.int d]]=↑(.int (if d*a<b*c then 1 else if b*c<d*a then -1 else 0)):=by
 have D:=zw0 a b c d L hd;by_cases h1:d*a<b*c
 ·have z:0<b*c-d*a:=by lia
  simp[oa,runD,vw,jf,D,h1,z]
 ·have z:¬0<b*c-d*a:=by lia
  by_cases h2:b*c<d*a
  ·have I:b*c-d*a<0:=by lia
   simp[oa,runD,vw,jf,D,h1,h2,z,I]
  ·have I:¬b*c-d*a<0:=by lia
   simp[oa,runD,vw,jf,D,h1,h2,z,I]
def zlm(i:Int):ud [.int i]=↑(.bl true):=by
 simp[ud,runD,zgh,jf]
abbrev Sk:=Int×Int×Int
abbrev ez:=List Sk
abbrev fh:=List (List Sk)
def sD(s:Sk):D:=.tup [.int s.1,.int s.2.1,.int s.2.2]
def f9(s:Sk):Prop:=1<=s.1/\s.1<=60/\1<=s.2.1/\s.2.1<=60/\0<=s.2.2/\s.2.2<=100
def b60:Bnd 1 1073741824 60:=⟨by decide,by decide⟩
def b3:Bnd 1 1073741824 3:=⟨by decide,by decide⟩
def b12:Bnd 1 1073741824 12:=⟨by decide,by decide⟩
def b180:Bnd 1 1073741824 180:=⟨by decide,by decide⟩
def b720:Bnd 1 1073741824 720:=⟨by decide,by decide⟩
def zyo:Bnd 1 1073741824 6060:=⟨by decide,by decide⟩
def zw1:Bnd 1 1073741824 30300:=⟨by decide,by decide⟩
variable{n i:Nat}
def p6{i:Int}(z:0<=i)(h1:i<n):ixN n i=↑i.toNat:=by unfold ixN;rw[if_pos z,if_pos h1]
def zg8{α β:Type}(f:α->β):∀(l:List α) (n:Nat),(l.eraseIdx n).map f=(l.map f).eraseIdx n
 | [],n=>by simp |a::l,0=>rfl
 |a::l,n+1=>by simp[uj,zg8 f l n]
theorem at4(a b c d i:Int)(z:0<=i)(h1:i<4):∃x,atI [D.int a,D.int b,D.int c,D.int d] i=↑(.int x)/\(x=a\/x=b\/x=c\/x=d):=by
 have:i=0\/i=1\/i=2\/i=3:=by lia
 rcases this with rfl |rfl |rfl |rfl
 ·exact⟨a,rfl,by simp⟩
 ·exact⟨b,rfl,by simp⟩
 ·exact⟨c,rfl,by simp⟩
 ·exact⟨d,rfl,by simp⟩
theorem at12(i:Int)(z:0<=i)(h1:i<12):∃x:Int,atI [D.int 5,.int 3,.int 2,.int 4,.int 1,.int 5,.int 0,.int 4,.int 3,.int 5,.int 2,.int 4] i=↑(.int x)/\0<=x/\x<=5:=by
 have:i=0\/i=1\/i=2\/i=3\/i=4\/i=5\/i=6\/i=7\/i=8\/i=9\/i=10\/i=11:=by lia
 rcases this with rfl |rfl |rfl |rfl |rfl |rfl |rfl |rfl |rfl |rfl |rfl |rfl <;> exact⟨_,rfl,by decide,by decide⟩
noncomputable def hl:FS:=sSeq (sSet 10 (fBin gq (fC (.int 1)) (fBin dMod (fVar 9) (fC (.int 60))))) (sSeq (sSet 11 (fBin dMod (fBin dDiv (fVar 9) (fC (.int 60))) (fC (.int 101)))) (sSeq (sIf (fTst (fBin dEq (fVar 4) (fC (.int 1)))) (sSeq (sSet 10 (fBin gq (fC (.int 1)) (fBin dMod (fVar 9) (fBin dSub (fC (.int 4)) (fBin dMul (fC (.int 2)) (fVar 5)))))) (sSet 11 (fBin dMod (fBin dDiv (fVar 9) (fC (.int 60))) (fBin dSub (fC (.int 4)) (fBin dMul (fC (.int 2)) (fVar 5)))))) (sNil)) (sSeq (sIf (fTst (fBin dEq (fVar 4) (fC (.int 2)))) (sSeq (sSet 10 (fBin dIx (fLst (gm (bx (fC (.int 1)) (bx (fC (.int 60)) (bx (fC (.int 2)) (bx (fC (.int 59)) (fNil))))))) (fBin dMod (fVar 9) (fC (.int 4))))) (sSet 11 (fBin dIx (fLst (gm (bx (fC (.int 0)) (bx (fC (.int 100)) (bx (fC (.int 1)) (bx (fC (.int 99)) (fNil))))))) (fBin dMod (fBin dDiv (fVar 9) (fC (.int 60))) (fC (.int 4)))))) (sNil)) (sIf (fTst (fBin dEq (fVar 4) (fC (.int 3)))) (sSeq (sSet 10 (fBin dIx (fLst (gm (bx (fVar 10) (bx (fBin gq (fC (.int 58)) (fBin dMod (fVar 9) (fC (.int 3)))) (fNil))))) (fVar 5))) (sSet 11 (fVar 10))) (sNil)))))
noncomputable def pl:FS:=sSeq (sSet 12 (fBin dMod (fBin dIx (fLst (gm (bx (fBin dDiv (fVar 9) (fC (.int 6060))) (bx (fVar 8) (fNil))))) (fBin dMul (fBin dDiv (fVar 4) (fC (.int 3))) (fVar 5))) (fVar 2))) (sSeq (sSet 13 (si 7 (fBin dMod (fBin dDiv (fVar 9) (fC (.int 30300))) (g5 7)))) (jm (vh 6 (fVar 12) (fTup (bx (fVar 13) (bx (fVar 10) (bx (fVar 11) (fNil))))))))
def zkp:wu=sSeq (sSet 9 (fIxV 0 (fBin gq (fC (.int 1)) (fVar 8)))) (sSeq hl pl):=by
 unfold hl;simp only[zmq];rfl
theorem zyp(V Y v2 Z a b d L S z D:et)(menu turn c:Int)(g:0<=menu/\menu<4)(i:0<=turn/\turn<2) :
  ∃h l:Int,(1<=h/\h<=60/\0<=l/\l<=100/\(menu=3->l<=60))/\hl [V,Y,v2,Z,↑(.sh (.int menu)),↑(.sh (.int turn)),a,b,d,↑(.sh (.int c)),L,S,z,D] =
   ↑(.nx,[V,Y,v2,Z,↑(.sh (.int menu)),↑(.sh (.int turn)),a,b,d,↑(.sh (.int c)),↑(.sh (.int h)),↑(.sh (.int l)),z,D]):=by
 have U:menu=0\/menu=1\/menu=2\/menu=3:=by lia
 have I:turn=0\/turn=1:=by lia
 have s2:jt 2:=kz (by decide);rcases U with rfl |rfl |rfl |rfl
 ·refine⟨1+c % 60,c / 60 % 101,by lia,?_⟩
  simp[hl,dMod,dDiv,b60]
 ·rcases I with rfl |rfl
  ·refine⟨1+c % 4,c / 60 % 4,by lia,?_⟩
   simp[hl,dMod,dDiv,dMul,b60,s2]
  ·refine⟨1+c % 2,c / 60 % 2,by lia,?_⟩
   simp[hl,dMod,dDiv,dMul,b60,s2]
 ·obtain⟨x,e,ex⟩:=at4 1 60 2 59 (c % 4) (by lia) (by lia)
  obtain⟨y,f,j⟩:=at4 0 100 1 99 (c / 60 % 4) (by lia) (by lia);refine⟨x,y,by lia,?_⟩;simp[hl,dMod,dDiv,b60,e,f]
 ·rcases I with rfl |rfl
  ·refine⟨1+c % 60,1+c % 60,by lia,?_⟩
   simp[hl,dMod,dDiv,b60,atI,ixN]
  ·refine⟨58+c % 3,58+c % 3,by lia,?_⟩
   simp[hl,dMod,dDiv,b60,atI,ixN]
theorem zyq(d f g U V:et)(many menu turn k c h l:Int)(dss:List em)(pool:ci)(y:0<=menu/\menu<4)(A:0<=turn/\turn<2)(I:0<many)(hd:(dss.length:Int)=many)(m:0<pool.length)(o:pool.length<=60)(Y:∀ds∈dss,ds.length<=1000) :
  ∃(j n:Nat) (z:Int) (ds:em) (p:Int),dss[j]?=↑ds/\pool[n]?=↑z/\pl [d,f,↑(.sh (.int many)),g,↑(.sh (.int menu)),↑(.sh (.int turn)),↑(.o2 dss),↑(.ow (pool.map D.int)),↑(.sh (.int k)),↑(.sh (.int c)),↑(.sh (.int h)),↑(.sh (.int l)),U,V] =
   ↑(.nx,[d,f,↑(.sh (.int many)),g,↑(.sh (.int menu)),↑(.sh (.int turn)),↑(.o2 (dss.set j (ds++[sD (z,h,l)]))),↑(.ow ((pool.eraseIdx n).map D.int)),↑(.sh (.int k)),↑(.sh (.int c)),↑(.sh (.int h)),↑(.sh (.int l)),↑(.sh (.int p)),↑(.sh (.int z))]):=by
 obtain⟨q,hq⟩:∃q:Int,atI [D.int (c / 6060),D.int k] (menu / 3*turn)=↑(.int q):=by
  have:menu / 3*turn=0\/menu / 3*turn=1:=by
   have h1:menu / 3=0\/menu / 3=1:=by lia
   have h2:turn=0\/turn=1:=by lia
   rcases h1 with h1 |h1 <;> rcases h2 with h2 |h2 <;> rw[h1,h2] <;> decide
  rcases this with e |e <;> rw[e]
  ·exact⟨_,rfl⟩
  ·exact⟨_,rfl⟩
 have r:0<=q % many:=nh _ (by lia);have s:q % many<many:=kr _ I;have t:ixN dss.length (q % many)=↑(q % many).toNat:=p6 r (by rw[hd];exact s);have S:(q % many).toNat<dss.length:=by lia
 have L:dss[(q % many).toNat]?=↑dss[(q % many).toNat]:=by simp[S]
 have Z:Few (dss[(q % many).toNat].length+1):=few (by have:=Y _ (il S);lia);have u:0<=c / 30300 % (pool.length:Int):=nh _ (by lia);have v:c / 30300 % (pool.length:Int)<(pool.length:Int):=kr _ (by lia);have w:ixN pool.length (c / 30300 % (pool.length:Int))=↑(c / 30300 % (pool.length:Int)).toNat:=p6 u v;have a:(c / 30300 % (pool.length:Int)).toNat<pool.length:=by lia
 have i:pool[(c / 30300 % (pool.length:Int)).toNat]?=↑pool[(c / 30300 % (pool.length:Int)).toNat]:=by simp[a]
 have b:Few pool.length:=few (by lia);have sm:jt (menu / 3):=kz (by lia);refine⟨(q % many).toNat,(c / 30300 % (pool.length:Int)).toNat,pool[(c / 30300 % (pool.length:Int)).toNat],dss[(q % many).toNat],q % many,L,i,?_⟩;have x:(pool.eraseIdx (c / 30300 % (pool.length:Int)).toNat).map D.int=(pool.map D.int).eraseIdx (c / 30300 % (pool.length:Int)).toNat:=zg8 _ _ _;simp[pl,dMod,dDiv,dMul,b3,zyo,zw1,sm,hq,I,t,L,w,i,Z,b,m,si,x8,capt,sD,x]
def lv(s:ez):ez:=match s.getLast? with
 |none=>[] |some x=>s.dropLast++[(x.1,x.2.1,x.2.2+1)]
def z8(s:ez)(x:Sk):lv (s++[x])=s++[(x.1,x.2.1,x.2.2+1)]:=by simp[lv]
def zqu(s:em)(x:D):cutD (s++[x]) none ↑((s.length:Int))=s:=by
 unfold cutD;rw[HT.sIx_none,HT.sIx_nat];simp
theorem zim(s:ez)(L:s.length<=1000):qb [.lst (s.map sD)]=↑(.lst ((lv s).map sD)):=by
 rcases jx s with rfl | ⟨t,x,rfl⟩
 ·simp[qb,runD,zct,jf,lv]
 ·rw[jz] at L ⊢
  rw[z8];obtain⟨n,h,l⟩:=x;have z:(t++[((n,h,l):Sk)]).length=t.length+1:=by simp
  have S:¬((t.length:Int)+1=0):=by lia
  have U:atI (t.map sD++[D.tup [.int n,.int h,.int l]]) ((t.length:Int))=↑(.tup [.int n,.int h,.int l]):=by
   unfold atI;rw[p6 (by lia) (by rw[aj,ac,cu];lia)];simp
  have I:=zqu (t.map sD) (D.tup [.int n,.int h,.int l]);rw[ac] at I;have V:Few (t.length+1):=few (by lia);have Y:(t.length:Int)+1-1=t.length:=by lia
  simp[qb,runD,zct,jf,S,U,I,V,Y,sD,xo,o9,qe]
structure SInv (menu:Int) (many k:Nat) (sss:fh) (pool:ci):Prop where
 len:sss.length=many
 tot:sss.flatten.length=k
 good:∀x∈sss.flatten,f9 x/\(menu=3->x.2.2<=60)
 perm:(pool++sss.flatten.map (·.1)).Perm (rngL 1 61)
variable{menu:Int}{many k:Nat}{sss:fh}{pool:ci}
protected def SInv.pool(h:SInv menu many k sss pool):pool.length+k=60:=by
 have:=h.perm.length_eq;rw[aj,ac,h.tot,z4] at this;exact this
variable{j:Nat}{s:ez}{l:ci}
theorem SInv.step{z D l:Int}(h:SInv menu many k sss pool)(U:sss[j]?=↑s)(L:pool[n]?=↑z)(I:1<=D/\D<=60/\0<=l/\l<=100/\(menu=3->l<=60)) :
  SInv menu many (k+1) (sss.set j (s++[(z,D,l)])) (pool.eraseIdx n):=by
 have p1:=zlk (x:=((z,D,l):Sk)) U;have p2:=zh4 L;have V:((pool.eraseIdx n)++(sss.set j (s++[(z,D,l)])).flatten.map (·.1)).Perm (rngL 1 61):=by
  refine .trans (List.Perm.append_left _ (p1.map (·.1))) ?_;refine .trans ?_ h.perm;refine .trans ?_ (List.Perm.append_right _ p2.symm);exact l4
 refine⟨by rw[dy];exact h.len,by rw[p1.length_eq,am,h.tot],λx Y=>?_,V⟩;have hx':=p1.mem_iff.mp Y;rcases b8.mp hx' with rfl |hx'
 ·have Z:z∈rngL 1 61:=h.perm.mem_iff.mp (de _ (bn L))
  obtain⟨m,S,rfl⟩:=bj.mp Z;have S:=cy.mp S;refine⟨⟨?_,?_,I.1,I.2.1,I.2.2.1,I.2.2.2.1⟩,I.2.2.2.2⟩
  ·show 1<=1+(m:Int);lia
  ·show 1+(m:Int)<=60;lia
 ·exact h.good x hx'
def ssD(sss:fh):List em:=sss.map λs=>s.map sD
def ztt(sss:fh)(j:Nat)(s:ez)(x:Sk):(ssD sss).set j (s.map sD++[sD x])=ssD (sss.set j (s++[x])):=by
 unfold ssD;simp
variable{ds:em}
def ztu(h:(ssD sss)[j]?=↑ds):∃s,sss[j]?=↑s/\ds=s.map sD:=by
 unfold ssD at h;rw[bu] at h;cases q:sss[j]? with
 |none=>rw[q] at h;cases h
 |some s=>rw[q] at h;cases h;exact⟨s,rfl,rfl⟩
theorem zkq(cs:ci)(Z a G w V Y S U:et)(many:Nat)(menu turn:Int)(k:Nat)(sss:fh)(pool:ci)(r:0<=menu/\menu<4)(t:0<=turn/\turn<2)(H:k<14)(J:k+1<cs.length)(b:0<many)(h:SInv menu many k sss pool) :
  ∃L I y d e f g,SInv menu many (k+1) L I /\
   wu [↑(.sh (.lst (cs.map D.int))),Z,↑(.sh (.int many)),a,↑(.sh (.int menu)),↑(.sh (.int turn)),↑(.o2 (ssD sss)),↑(.ow (pool.map D.int)),↑(.sh (.int (0+k))),w,V,Y,S,U] =
   ↑(.nx,[↑(.sh (.lst (cs.map D.int))),Z,↑(.sh (.int many)),a,↑(.sh (.int menu)),↑(.sh (.int turn)),↑(.o2 (ssD L)),↑(.ow (I.map D.int)),↑(.sh (.int (0+k))),y,d,e,f,g]):=by
 have A:=h.pool;obtain⟨c,hat⟩:∃c:Int,atI (cs.map D.int) (1+(0+(k:Int)))=↑(.int c):=by
  obtain⟨x,h1,h2⟩:=zrl (xs:=cs.map D.int) (i:=1+(0+(k:Int))) (by lia) (by rw[ac];lia);rw[bu] at h2;cases q:cs[(1+(0+(k:Int))).toNat]? with
  |none=>rw[q] at h2;cases h2
  |some c=>rw[q] at h2;cases h2;exact⟨c,h1⟩
 obtain⟨u,l,B,C⟩:=zyp ↑(.sh (.lst (cs.map D.int))) Z ↑(.sh (.int many)) a ↑(.o2 (ssD sss)) ↑(.ow (pool.map D.int)) ↑(.sh (.int (0+k))) V Y S U menu turn c r t;have m:∀ds∈ssD sss,ds.length<=1000:=λds hd=>by
  obtain⟨s,o,rfl⟩:=bj.mp hd;rw[ac];have:s.length<=sss.flatten.length:=(cg o).length_le;rw[h.tot] at this
  lia
 obtain⟨j,n,z,ds,p,E,F,v⟩:=zyq ↑(.sh (.lst (cs.map D.int))) Z a S U many menu turn (0+k) c u l (ssD sss) pool r t (by lia) (by rw[ssD,ac,h.len]) (by lia) (by lia) m;obtain⟨s,o,rfl⟩:=ztu E;rw[ztt] at v;refine⟨_,_,↑(.sh (.int c)),↑(.sh (.int u)),↑(.sh (.int l)),↑(.sh (.int p)),↑(.sh (.int z)),h.step o F B,?_⟩;rw[zkp];simp only[sSeq,sSet,fIxV,fBin,fC,fVar,gq,ah,af,ab,av,ixSl,hat,aw,az,C,v]
structure Stk (most:Nat) (ss:fh):Prop where
 many:ss.length<=5
 tot:ss.flatten.length<=most
 good:∀x∈ss.flatten,f9 x
 nd:(ss.flatten.map (·.1)).Nodup
theorem zmv(i j:Int):(rngL i j).Nodup:=by
 exact List.Pairwise.map _ (λa b h z=>h (by lia)) List.nodup_range
variable{most:Nat}
def SInv.stk(h:SInv menu many k sss pool)(z:many<=5)(D:k<=most):Stk most sss :=
 ⟨by rw[h.len];exact z,by rw[h.tot];exact D,λx I=>(h.good x I).1,(List.nodup_append.mp (h.perm.nodup_iff.mpr (zmv 1 61))).2.1⟩
def zok(s:ez):(lv s).map (·.1)=s.map (·.1):=by
 rcases jx s with rfl | ⟨t,x,rfl⟩
 ·rfl
 ·rw[jz,z8];simp
theorem zmw(s:ez)(h:∀x∈s,f9 x/\x.2.2<=60):∀x∈lv s,f9 x:=by
 rcases jx s with rfl | ⟨t,y,rfl⟩
 ·intro x hx;exact absurd hx (by simp[lv])
 ·rw[jz] at h ⊢
  rw[z8];intro x hx;rcases cw.mp hx with hx |hx
  ·exact(h x (de _ hx)).1
  ·rw[df.mp hx]
   obtain⟨⟨a,b,c,d,e,f⟩,g⟩:=h y (by simp);exact⟨a,b,c,d,by show 0<=y.2.2+1;lia,by show y.2.2+1<=100;lia⟩
def zc:∀(sss:fh),(sss.map lv).flatten.map (·.1)=sss.flatten.map (·.1)
 | []=>rfl |s::r=>by simp[zok,zc r]
def SInv.stkB(h:SInv 3 many k sss pool)(I:many<=5)(L:k<=most):Stk most (sss.map lv):=by
 have z:=h.stk I L;refine⟨by rw[ac];exact z.many,?_,λx D=>?_,by rw[zc];exact z.nd⟩
 ·have:=congrArg List.length (zc sss)
  simp only[ac] at this;rw[this];exact z.tot
 ·obtain⟨t,S,D⟩:=cj.mp D
  obtain⟨s,U,rfl⟩:=bj.mp S;exact zmw s (λy V=>by
   obtain⟨a,b⟩:=h.good y (cj.mpr ⟨s,U,V⟩);exact⟨a,b rfl⟩) x D
def z7:qh [.int 1,.int 61]=↑((rngL 1 61).map D.int):=by
 unfold qh;dsimp only;rw[if_pos ⟨⟨by decide,by decide⟩,⟨by decide,by decide⟩,⟨by decide,by decide⟩⟩]
def z6(ds:em):qx (gm fNil) [] ds=↑(ds.map λ_=>[]):=by
 have:=zh3 (te:=gm fNil) (base:=[]) (λd:D=>d) (λ_=>([]:em)) ds λx _=>⟨_,rfl⟩;simpa using this
theorem zol(cs:ci)(most:Nat)(hm:most<=14)(W:most+1<=cs.length):∃ss,Stk most ss/\vz [.lst (cs.map D.int),.int most]=↑(.lst ((ssD ss).map D.lst)):=by
 obtain⟨L,r,rfl⟩:∃L r,cs=L::r:=by
  cases cs with
  |nil=>simp at W |cons a r=>exact⟨a,r,rfl⟩
 have Y:atI (D.int L::r.map D.int) 0=↑(.int L):=by
  unfold atI;rw[p6 (by lia) (by simp only[am];lia)];rfl
 obtain⟨Q,o,X,aa⟩:=at12 (L % 12) (by lia) (by lia);obtain⟨many,rfl⟩:∃n:Nat,Q=n:=⟨Q.toNat,by lia⟩;have S:(0:Int)<(most:Int)+1:=by lia
 have ag:0<=L / 12 % ((most:Int)+1):=nh _ (by lia);have al:L / 12 % ((most:Int)+1)<(most:Int)+1:=kr _ S;obtain⟨I,hcount⟩:∃n:Nat,(most:Int)-L / 12 % ((most:Int)+1)=n:=⟨((most:Int)-L / 12 % ((most:Int)+1)).toNat,by lia⟩;have y:I<=most:=by lia
 have Z:0<=L / 180 % 4/\L / 180 % 4<4:=by lia
 have b:0<=L / 720 % 2/\L / 720 % 2<2:=by lia
 generalize U:L / 180 % 4=menu at Z;generalize V:L / 720 % 2=turn at b;have p:=md many (by lia);have c:(rngD 0 many).map (λ_=>([]:em))=ssD (List.replicate many []):=by
  unfold ssD rngD;simp[List.eq_replicate_iff]
 have f:Few (rngD 0 many).length:=few (by rw[n4];lia);obtain⟨N,hN,hNle,hN0⟩:∃N:Nat,(I:Int)*(if (1:Int)<many then 1 else(many:Int))=N/\N<=most/\(many=0->N=0):=by
  by_cases h1:(1:Int)<many
  ·exact⟨I,by rw[if_pos h1];lia,y,λz=>by lia⟩
  ·rw[if_neg h1]
   have:many=0\/many=1:=by lia
   rcases this with rfl |rfl
   ·exact⟨0,by simp,by lia,λ_=>rfl⟩
   ·exact⟨I,by simp,y,λz=>by lia⟩
 have q:=md N (by lia);have s0:SInv menu many 0 (List.replicate many []) (rngL 1 61):=⟨by simp,by simp,λx hx=>by simp at hx,by simp⟩;have loop:=ny (i:=8) (g:=wu)
  (λk e=>∃(sss:fh) (pool:ci) (B C h j l m:et),SInv menu many k sss pool /\
    e=[↑(.sh (.lst (D.int L::r.map D.int))),↑(.sh (.int most)),↑(.sh (.int many)),↑(.sh (.int I)),↑(.sh (.int menu)),↑(.sh (.int turn)),↑(.o2 (ssD sss)),↑(.ow (pool.map D.int)),B,C,h,j,l,m])
  (rngD 0 N) _ ⟨List.replicate many [],rngL 1 61,none,none,none,none,none,none,s0,rfl⟩ ?_
 ·obtain⟨e',h1,sss,pool,B,C,h,j,l,m,t,rfl⟩:=loop
  rw[n4] at t;have u:jt (I:Int):=kz (by lia);by_cases R:menu=3/\turn=1
  ·obtain⟨rfl,rfl⟩:=R
   refine⟨sss.map lv,t.stkB (by lia) hNle,?_⟩;have hc:=ku (te:=e8 qb (bx (fVar 0) fNil)) (base:=[]) (λs:ez=>D.lst (s.map sD)) (λs:ez=>D.lst ((lv s).map sD)) sss λs v=>by
    have E:s.length<=1000:=by
     have:s.length<=sss.flatten.length:=(cg v).length_le;rw[t.tot] at this
     lia
    exact⟨_,by simp[zim s E];rfl⟩
   have F:Few sss.length:=few (by rw[t.len];lia);have G:j0 fYes (e8 qb (bx (fVar 0) fNil)) [] ((ssD sss).map D.lst)=↑((ssD (sss.map lv)).map D.lst):=by
    unfold ssD;rw[dn,dn,dn];exact hc
   have H:Few (ssD sss).length:=by unfold ssD;rw[ac];exact F
   refine jv (e':=?_) rfl ?_;rotate_left
   ·show qa [↑(.sh (.lst (D.int L::r.map D.int))),↑(.sh (.int most)),none,none,none,none,none,none,none,none,none,none,none,none]=_
    simp[qa,Y,dMod,dDiv,dMul,b12,b180,b720,o,S,U,V,hcount,p,pz,f,z6,c,z7,u,hN,q,h1,iw,H,G];rfl
  ·refine⟨sss,t.stk (by lia) hNle,?_⟩
   by_cases T:menu=3
   ·have h4:¬turn=1:=λz=>R ⟨T,z⟩
    refine jv (e':=?_) rfl ?_;rotate_left
    ·show qa [↑(.sh (.lst (D.int L::r.map D.int))),↑(.sh (.int most)),none,none,none,none,none,none,none,none,none,none,none,none]=_
     simp[qa,Y,dMod,dDiv,dMul,b12,b180,b720,o,S,U,V,hcount,p,pz,f,z6,c,z7,u,hN,q,h1,h4];rfl
   ·refine jv (e':=?_) rfl ?_
    rotate_left
    ·show qa [↑(.sh (.lst (D.int L::r.map D.int))),↑(.sh (.int most)),none,none,none,none,none,none,none,none,none,none,none,none]=_
     simp[qa,Y,dMod,dDiv,dMul,b12,b180,b720,o,S,U,V,hcount,p,pz,f,z6,c,z7,u,hN,q,h1,T];rfl
 ·rintro k d e hd ⟨sss,pool,B,C,h,j,l,m,t,rfl⟩
  obtain⟨rfl,hk⟩:=nr hd;have J:0<many:=by
   rcases Nat.eq_zero_or_pos many with z |z
   ·have:=hN0 z;lia
   ·exact z
  obtain⟨A,w,w9,K,M,O,P,v,he⟩:=zkq (L::r) ↑(.sh (.int most)) ↑(.sh (.int I)) B C h j l m many menu turn k sss pool Z b (by lia) (by lia) J t;exact⟨_,he,A,w,_,w9,K,M,O,P,v,rfl⟩
def iT(xs:ci):D:=.tup (xs.map D.int)
variable{α:Type}
theorem j1(f:α->D){xs:List α}{x:α}(h:xs[k]?=↑x):atI (xs.map f) (k:Int)=↑(f x):=by
 have z:=(aq.mp h).1;unfold atI;rw[p6 (by lia) (by rw[ac];lia)];simp[h]
theorem zg9(xs:ci)(S:xs.length<=1000):ug [iT xs,iT xs]=↑(.bl true):=by
 obtain⟨e',h1,v2,rfl⟩:=ny (i:=2) (g:=wy) (λk e=>∃v2,e=[↑(.sh (iT xs)),↑(.sh (iT xs)),v2]) (rngD 0 xs.length) [↑(.sh (iT xs)),↑(.sh (iT xs)),none] ⟨none,rfl⟩ (by
  rintro k d e hd ⟨v2,rfl⟩;obtain⟨rfl,I⟩:=nr hd;have L:atI (xs.map D.int) (k:Int)=↑(.int xs[k]):=j1 D.int (by simp[I]);exact⟨[↑(.sh (iT xs)),↑(.sh (iT xs)),↑(.sh (.int (0+k)))],by simp[wy,iT,L,zlm],_,rfl⟩)
 have hi:=md xs.length (by lia);refine jv (e':=?w) rfl ?h;show zdf [↑(.sh (iT xs)),↑(.sh (iT xs)),none]=_;have z:forL 2 wy (rngD 0 xs.length) [↑(.sh (.tup (xs.map D.int))),↑(.sh (.tup (xs.map D.int))),none]=↑(.nx,[↑(.sh (.tup (xs.map D.int))),↑(.sh (.tup (xs.map D.int))),v2]):=h1;simp[zdf,iT,hi,z];rfl
theorem zjw(f:α->ci)(xs:List α)(S:xs.length<=1000)(D:∀x∈xs,(f x).length<=1000):xb [.lst (xs.map λx=>iT (f x)),.lst (xs.map λx=>iT (f x))]=↑(.bl true):=by
 obtain⟨e',h1,v2,rfl⟩:=ny (i:=2) (g:=zce) (λk e=>∃v2,e=[↑(.sh (.lst (xs.map λx=>iT (f x)))),↑(.sh (.lst (xs.map λx=>iT (f x)))),v2]) (rngD 0 xs.length) [↑(.sh (.lst (xs.map λx=>iT (f x)))),↑(.sh (.lst (xs.map λx=>iT (f x)))),none] ⟨none,rfl⟩ (by
  rintro k d e hd ⟨v2,rfl⟩;obtain⟨rfl,z⟩:=nr hd;have I:atI (xs.map λx=>iT (f x)) (k:Int)=↑(iT (f xs[k])):=j1 _ (by simp[z]);have L:=zg9 (f xs[k]) (D _ (il z));exact⟨[↑(.sh (.lst (xs.map λx=>iT (f x)))),↑(.sh (.lst (xs.map λx=>iT (f x)))),↑(.sh (.int (0+k)))],by simp[zce,I,L],_,rfl⟩)
 have hi:=md xs.length (by lia);refine jv (e':=?w) rfl ?h;show zc9 [↑(.sh (.lst (xs.map λx=>iT (f x)))),↑(.sh (.lst (xs.map λx=>iT (f x)))),none]=_;simp[zc9,hi,h1];rfl
abbrev Bk:=Int×Int×Int
def hrs(r:ez):Int:=(r.map (·.2.1)).sum
def lss(r:ez):Int:=(r.map (·.2.2)).sum
def blk(r:ez):Bk:=(r.length,hrs r,lss r)
def jn(u b:Bk):Bk:=(u.1+b.1,u.2.1+b.2.1,u.2.2+b.2.2)
def gt(u b:Bk):Prop:=b.2.2*u.2.1<u.2.2*b.2.1
instance (u b:Bk):Decidable (gt u b):=inferInstanceAs (Decidable (_<_))
def SmB(b:Bk):Prop:=jt b.2.1/\jt b.2.2
def zom(s:Sk):wj [sD s]=↑(sD (1,s.2.1,s.2.2)):=by
 rfl
def zon(u b:Bk):wg [sD u,sD b]=↑(sD (jn u b)):=by
 simp[wg,runD,zfd,jf,sD,xo,o9,qe,jn]
def zmx(u b:Bk)(V:SmB u)(Y:SmB b):n9 [sD u,sD b]=↑(.bl (decide (gt u b))):=by
 obtain⟨Z,I,L⟩:=u;obtain⟨a,S,b3⟩:=b;have U:∀x y z:Int,t9 [sD (x,y,z)]=↑(.tup [.int y,.int z]):=λx y z=>by simp[t9,runD,zfv,jf,sD,o9,qe]
 have D:=zll I L S b3 V.2 Y.2;by_cases h1:b3*I<L*S
 ·rw[if_pos h1] at D
  simp[n9,runD,wz,jf,U,D,gt,h1]
 ·rw[if_neg h1] at D
  by_cases h2:L*S<b3*I
  ·rw[if_pos h2] at D
   simp[n9,runD,wz,jf,U,D,gt,h1]
  ·rw[if_neg h2] at D
   simp[n9,runD,wz,jf,U,D,gt,h1]
def zoo(bs:em)(x:D):atI (bs++[x]) (-1)=↑x:=zpo bs x
def kt(a b:ez):hrs (a++b)=hrs a+hrs b:=by simp[hrs]
def ml(a b:ez):lss (a++b)=lss a+lss b:=by simp[lss]
def zw2(a b:ez):jn (blk a) (blk b)=blk (a++b):=by
 simp only[jn,blk,kt,ml,aj];simp
theorem qw(r:ez)(h:∀x∈r,f9 x):(r.length:Int)<=hrs r/\hrs r<=60*r.length/\0<=lss r/\lss r<=100*r.length:=by
 induction r with
 |nil=>simp[hrs,lss] |cons x r ih =>
   obtain⟨h1,h2,z,D⟩:=ih λy I=>h y (ai _ I);obtain⟨_,_,L,S,U,V⟩:=h x au;simp[hrs,lss,dw] at h1 h2 z D ⊢
   lia
theorem smB(r:ez)(h:∀x∈r,f9 x)(z:r.length<=1000):SmB (blk r):=by
 obtain⟨h1,h2,D,I⟩:=qw r h;exact⟨kz (by show -1000000000000<hrs r/\hrs r<1000000000000;lia),kz (by show -1000000000000<lss r/\lss r<1000000000000;lia)⟩
def js:fh->ez->fh×ez
 | [],b=>([],b) |u::r,b=>if gt (blk u) (blk b) then(u::r,b) else js r (u++b)
def bD(r:ez):D:=sD (blk r)
def zkr(z v2:et)(bs:em)(u b:ez):wx [z,↑(.ow (bs++[bD u])),v2,↑(.sh (bD b))]=↑(.nx,[z,↑(.ow bs),v2,↑(.sh (bD (u++b)))]):=by
 have e:=zon (blk u) (blk b);rw[zw2] at e;simp[wx,bD,e]
theorem zln(z v2:et):∀(n:Nat) (D:fh) (b:ez),D.length<n->(∀r∈D,∀x∈r,f9 x)->(∀x∈b,f9 x)->(D.flatten.length+b.length<=1000) ->
  ke (fAnd (fTst (fBin dGt (g5 1) (fC (.int 0)))) (fNot (fTst (e8 n9 (bx (fIxV 1 (fUn dNeg (fC (.int 1)))) (bx (fVar 3) (fNil))))))) wx n
   [z,↑(.ow (D.reverse.map bD)),v2,↑(.sh (bD b))]=↑(.nx,[z,↑(.ow ((js D b).1.reverse.map bD)),v2,↑(.sh (bD (js D b).2))])
 |n+1,[],b,_,_,_,_=>by simp[ke,js] |n+1,u::r,b,h,hs,hb,hl=>by
   rw[bw,aj] at hl;have L:n9 [bD u,bD b]=↑(.bl (decide (gt (blk u) (blk b)))):=zmx (blk u) (blk b) (smB u (hs u (by simp)) (by lia)) (smB b hb (by lia));have S:(0:Int)<(r.length:Int)+1:=by lia
   have I:=zkr z v2 (r.reverse.map bD) u b;unfold ke;rw[ja,b7,bh,dm];by_cases h1:gt (blk u) (blk b)
   ·simp[js,h1,L,S,zoo]
   ·have U:=zln z v2 n r (u++b) (by simpa using h) (λt V=>hs t (by simp[V])) (λx hx=>by
     rcases cw.mp hx with hx |hx
     ·exact hs u (by simp) x hx
     ·exact hb x hx) (by rw[aj];lia)
    have Y:js (u::r) b=js r (u++b):=by simp[js,h1]
    rw[Y];have Z:(fAnd (fTst (fBin dGt (g5 1) (fC (.int 0)))) (fNot (fTst (e8 n9 (bx (fIxV 1 (fUn dNeg (fC (.int 1)))) (bx (fVar 3) (fNil)))))))
      [z,↑(.ow (r.reverse.map bD++[bD u])),v2,↑(.sh (bD b))]=↑(true,[z,↑(.ow (r.reverse.map bD++[bD u])),v2,↑(.sh (bD b))]):=by
     simp[h1,L,S,zoo]
    rw[Z,ab];rw[if_pos rfl,I,ab];exact U
structure Good (r:ez):Prop where
 ne:r≠[]
 beg:∀p,p <+: r->lss p*hrs r<=lss r*hrs p
theorem uz(r:ez)(h:∀x∈r,f9 x):0<=hrs r:=by have:=qw r h;lia
theorem m6(r:ez)(h:∀x∈r,f9 x)(z:r≠[]):0<hrs r:=by
 have h1:=qw r h;have:0<r.length:=gw.mpr z
 lia
def vb{α:Type}:∀ {u b p:List α},p <+: u++b->p <+: u\/∃t,p=u++t/\t <+: b
 | [],b,p,h=>.inr ⟨p,rfl,h⟩ |a::u,b,[],h=>.inl List.nil_prefix |a::u,b,c::p,h=>by
   rw[fg,List.cons_prefix_cons] at h;obtain⟨rfl,h⟩:=h;rcases vb h with h | ⟨t,rfl,ht⟩
   ·exact .inl (by rw[List.cons_prefix_cons];exact⟨rfl,h⟩)
   ·exact .inr ⟨t,rfl,ht⟩
variable{b:Bk}
theorem Good.join{u b:ez}(D:Good u)(L:Good b)(S:∀x∈u,f9 x)(U:∀x∈b,f9 x)(h:¬gt (blk u) (blk b)):Good (u++b):=by
 have h':lss u*hrs b<=lss b*hrs u:=Int.not_lt.mp h;have c:=m6 u S D.ne;have V:=m6 b U L.ne;refine⟨by simp[D.ne],λp z=>?_⟩;rw[kt,ml];rcases vb z with z | ⟨t,rfl,ht⟩
 ·-- within u
  have h1:=D.beg p z;have d:0<=hrs p:=uz p λx I=>S x (z.subset I);have l:lss p*hrs u*(hrs u+hrs b)<=lss u*hrs p*(hrs u+hrs b):=ek h1 (by lia);have m:hrs p*(lss u*hrs b)<=hrs p*(lss b*hrs u):=mx h' d;have e:lss p*(hrs u+hrs b)*hrs u<=(lss u+lss b)*hrs p*hrs u:=by
   have Y:lss p*(hrs u+hrs b)*hrs u=lss p*hrs u*(hrs u+hrs b):=by rw[gi,f8 (hrs u+hrs b),<-gi]
   have Z:lss u*hrs p*(hrs u+hrs b)=lss u*hrs p*hrs u+hrs p*(lss u*hrs b):=by rw[f6,f8 (lss u) (hrs p),gi (hrs p) (lss u) (hrs b)]
   have f:(lss u+lss b)*hrs p*hrs u=lss u*hrs p*hrs u+hrs p*(lss b*hrs u):=by rw[gl,gl,f8 (lss b) (hrs p),gi (hrs p) (lss b) (hrs u)]
   lia
  exact i6 e c
 ·-- u and a beginning of b
  rw[kt,ml];have h1:=L.beg t ht;obtain⟨q,rfl⟩:=ht;rw[kt,ml] at h1 h' ⊢;rw[kt] at V;have g:0<=hrs q:=uz q λx I=>U x (bq _ I);have i:lss t*hrs q<=lss q*hrs t:=by
   have Y:lss t*(hrs t+hrs q)=lss t*hrs t+lss t*hrs q:=f6 _ _ _;have Z:(lss t+lss q)*hrs t=lss t*hrs t+lss q*hrs t:=gl _ _ _
   lia
  have n:lss u*(hrs t+hrs q)*hrs q<=(lss t+lss q)*hrs u*hrs q:=ek h' g;have j:0<=hrs u:=by lia
  have b3:hrs u*(lss t*hrs q)<=hrs u*(lss q*hrs t):=mx i j;have k:lss u*hrs q*(hrs t+hrs q)<=lss q*hrs u*(hrs t+hrs q):=by
   have Y:lss u*hrs q*(hrs t+hrs q)=lss u*(hrs t+hrs q)*hrs q:=by rw[gi,f8 (hrs q),<-gi]
   have Z:(lss t+lss q)*hrs u*hrs q=hrs u*(lss t*hrs q)+lss q*hrs u*hrs q:=by rw[gl,gl,f8 (lss t) (hrs u),gi (hrs u) (lss t) (hrs q)]
   have f:lss q*hrs u*(hrs t+hrs q)=hrs u*(lss q*hrs t)+lss q*hrs u*hrs q:=by rw[f6,f8 (lss q) (hrs u),gi (hrs u) (lss q) (hrs t)]
   lia
  have o:lss u*hrs q<=lss q*hrs u:=i6 k V;simp only[f6,gl]
  lia
def Desc:fh->Prop
 | []=>True | [_]=>True |b::u::r=>gt (blk u) (blk b)/\Desc (u::r)
structure Runs (rs:fh) (s:ez):Prop where
 flat:rs.reverse.flatten=s
 good:∀r∈rs,Good r
 desc:Desc rs
def zlp:∀(L:fh) (b:ez) (s:ez),Runs L s->Good b->(∀x∈s++b,f9 x)->Runs ((js L b).2::(js L b).1) (s++b)
 | [],b,s,h,gb,_=>by
   have:s=[]:=by have:=h.flat;simpa using this.symm
   subst this;exact⟨by simp[js],λr D=>by simp[js] at D;rw[D];exact gb,trivial⟩
 |u::r,b,s,h,gb,hx=>by
   have I:s=r.reverse.flatten++u:=by rw[<-h.flat];simp
   by_cases h1:gt (blk u) (blk b)
   ·have e:js (u::r) b=(u::r,b):=by simp[js,h1]
    rw[e];refine⟨by simp[I],λt ht=>?_,h1,h.desc⟩;rcases b8.mp ht with rfl |ht
    ·exact gb
    ·exact h.good t ht
   ·have e:js (u::r) b=js r (u++b):=by simp[js,h1]
    rw[e];have D:Runs r r.reverse.flatten:=⟨rfl,λt ht=>h.good t (ai _ ht),by
     have:=h.desc;cases r with
     |nil=>trivial |cons v r=>exact this.2⟩
    have S:Good (u++b):=(h.good u (by simp)).join gb (λx z=>hx x (by rw[I];simp[z])) (λx z=>hx x (by simp[z])) h1;have:=zlp r (u++b) r.reverse.flatten D S (λx z=>hx x (by rw[I];simpa[or_assoc] using z));rw[I,cb];exact this
def zqv(x:Sk)(h:f9 x):Good [x]:=⟨by simp,λp D=>by
 have:p=[]\/p=[x]:=by
  obtain⟨t,z⟩:=D;cases p with
  |nil=>exact .inl rfl |cons y q=>simp at z;simp[z]
 rcases this with rfl |rfl
 ·simp[lss,hrs]
 ·exact g9 _⟩
def zop(x:Sk):wj [sD x]=↑(bD [x]):=by
 rw[zom];simp[bD,blk,hrs,lss]
theorem zks(S:D)(z:fh)(s:ez)(x:Sk)(v2 f:et)(h:Runs z s)(Y:∀y∈s++[x],f9 y)(n:s.length<900) :
  ∃L b,Runs L (s++[x])/\ww [↑(.sh S),↑(.ow (z.reverse.map bD)),↑(.sh (sD x)),f]=↑(.nx,[↑(.sh S),↑(.ow (L.reverse.map bD)),↑(.sh (sD x)),b]):=by
 have U:z.flatten.length=s.length:=by
  rw[<-h.flat,d8,d8,List.map_reverse,List.sum_reverse]
 have g:z.length<=s.length:=by
  rw[<-U];have:∀(l:fh),(∀r∈l,r≠[])->l.length<=l.flatten.length:=λl=>by
   induction l with
   |nil=>intro _;simp
   |cons a l ih =>
     intro V;have:=ih λr I=>V r (ai _ I);have i:0<a.length:=gw.mpr (V a au);rw[am,bw,aj]
     lia
  exact this z λr I=>(h.good r I).ne
 have j:=zln ↑(.sh S) ↑(.sh (sD x)) 10000 z [x] (by lia) (λr I y Z=>Y y (by
  rw[<-h.flat];exact de _ (cj.mpr ⟨r,by simpa using I,Z⟩))) (λy Z=>Y y (by simp at Z;simp[Z])) (by rw[U];simp;lia)
 have I:=zlp z [x] s h (zqv x (Y x (by simp))) Y;refine⟨_,↑(.sh (bD (js z [x]).2)),I,?_⟩;have d:(js z [x]).1.length<=s.length:=by
  have e:=I.flat;have:∀(l:fh),(∀r∈l,r≠[])->l.length<=l.flatten.length:=λl=>by
   induction l with
   |nil=>intro _;simp
   |cons a l ih =>
     intro V;have:=ih λr I=>V r (ai _ I);have i:0<a.length:=gw.mpr (V a au);rw[am,bw,aj]
     lia
  have h2:=this _ λr c=>(I.good r c).ne;have k:(((js z [x]).2::(js z [x]).1).flatten).length=(s++[x]).length:=by
   rw[<-e,d8,d8,List.map_reverse,List.sum_reverse]
  rw[k] at h2;simp at h2;exact h2
 have m:Few ((js z [x]).1.length+1):=few (by lia);unfold ww;simp only[sSeq,sSet,e8,bx,fVar,fNil,ah,af,ab,av,zop,aw,az,j,jm,ky,pd,ac,List.length_reverse,m,if_true];simp
theorem zha(s:ez)(V:∀y∈s,f9 y)(a:s.length<=14):∃z,Runs z s/\zdr [.lst (s.map sD)]=↑(.lst (z.reverse.map bD)):=by
 obtain⟨e',h1,z,v2,D,I,rfl⟩:=p8 (i:=2) (g:=ww) sD (λp e=>∃z v2 D,Runs z p/\e=[↑(.sh (.lst (s.map sD))),↑(.ow (z.reverse.map bD)),v2,D]) s
  [↑(.sh (.lst (s.map sD))),↑(.ow []),none,none] ⟨[],none,none,⟨rfl,λr I=>by simp at I,trivial⟩,rfl⟩ (by
   rintro p x q e L ⟨z,v2,D,I,rfl⟩;obtain⟨S,Y,U,Z⟩:=zks (.lst (s.map sD)) z p x v2 D I (λy hy=>V y (by
    rw[L];rcases cw.mp hy with hy |hy
    ·simp[hy]
    ·simp at hy;simp[hy])) (by
    have:s.length=p.length+(q.length+1):=by rw[L];simp
    lia)
   exact⟨_,Z,S,_,_,U,rfl⟩)
 refine⟨z,I,?_⟩;refine jv (e':=[↑(.sh (.lst (s.map sD))),↑(.sh (.lst (z.reverse.map bD))),v2,D]) rfl ?_;show zdq [↑(.sh (.lst (s.map sD))),none,none,none]=_;simp[zdq,h1]
def sf(f:α->Int)(r:List α):bSum [.lst (r.map λx=>.int (f x))]=↑(.int (r.map f).sum):=by
 have:(r.map λx=>D.int (f x))=(r.map f).map D.int:=by rw[dn];rfl
 rw[this];show(ints? ((r.map f).map D.int)).map _=_;rw[ints_of];rfl
def zjy{α:Type}{ix:cd}{g:FS}(z:α->em)(P:List α->DE0->Prop)(all:List α)(L:∀x∈all,(z x).length=ix.length)(S:∀(p:List α) (x:α) (q:List α) (e:DE0),all=p++x::q->P p e->∃e',g (oy ix (z x) e)=↑(.nx,e')/\P (p++[x]) e') :
  ∀(xs I:List α) (e:DE0),all=I++xs->P I e->∃e',forU ix g (xs.map λx=>D.tup (z x)) e=↑(.nx,e')/\P all e'
 | [],I,e,h,hp=>⟨e,rfl,by rw[h,ce];exact hp⟩ |x::xs,I,e,h,hp=>by
   obtain⟨U,h1,p1⟩:=S I x xs e h hp;obtain⟨V,h2,p2⟩:=zjy z P all L S xs (I++[x]) U (by rw[h];simp) p1;have Y:=L x (by rw[h];simp);exact⟨V,by simp[forU,unp,Y,h1,h2],p2⟩
variable{g:FS}
def tq{ix:cd}(z:α->em)(P:List α->DE0->Prop)(all:List α)(e:DE0)(I:P [] e)(L:∀x∈all,(z x).length=ix.length)(S:∀(p:List α) (x:α) (q:List α) (e:DE0),all=p++x::q->P p e->∃e',g (oy ix (z x) e)=↑(.nx,e')/\P (p++[x]) e') :
  ∃e',forU ix g (all.map λx=>D.tup (z x)) e=↑(.nx,e')/\P all e':=zjy z P all L S all [] e rfl I
def zn{α:Type}(f:α->D):∀(xs:List α) (c:Nat),lh c (xs.map f)=(xs.zipIdx c).map λp=>D.tup [.int (p.2:Nat),f p.1]
 | [],c=>rfl |x::xs,c=>by simp[lh,List.zipIdx_cons,zn f xs (c+1)]
def zlq{α β:Type}(f:α->D)(g:β->D):∀(xs:List α) (ys:List β),zipD (xs.map f) (ys.map g)=(xs.zip ys).map λp=>D.tup [f p.1,g p.2]
 | [],ys=>by simp[zipD] |x::xs,[]=>by simp[zipD] |x::xs,y::ys=>by simp[zipD,zlq f g xs ys]
theorem p5{u:Bk}(h:gt u b):¬gt b u:=λz=>by
 unfold gt at h z
 lia
variable{c:Nat}
theorem xj{n c:Bk}(I:0<n.2.1)(L:0<c.2.1)(z:0<b.2.1)(h1:gt n c)(h2:¬gt b c):gt n b:=by
 have h2:b.2.2*c.2.1<=c.2.2*b.2.1:=Int.not_lt.mp h2;have S:b.2.2*c.2.1*n.2.1<=c.2.2*b.2.1*n.2.1:=ek h2 (by lia);have U:c.2.2*n.2.1*b.2.1<n.2.2*c.2.1*b.2.1:=Int.mul_lt_mul_of_pos_right h1 z;have D:b.2.2*n.2.1*c.2.1<n.2.2*b.2.1*c.2.1:=by
  have V:b.2.2*n.2.1*c.2.1=b.2.2*c.2.1*n.2.1:=kq ..;have Y:n.2.2*b.2.1*c.2.1=n.2.2*c.2.1*b.2.1:=kq ..;have Z:c.2.2*b.2.1*n.2.1=c.2.2*n.2.1*b.2.1:=kq ..
  lia
 exact Int.lt_of_mul_lt_mul_right D (by lia)
abbrev Tn:=Nat×ez
abbrev fk:=List Tn
def tnD(t:Tn):D:=.tup [.int (t.1:Int),.int (t.2.length:Int),.int (hrs t.2),.int (lss t.2)]
def zoq(t:Tn):p9 [tnD t]=↑(.tup [.int (hrs t.2),.int (lss t.2)]):=by
 simp[p9,runD,zgj,jf,tnD,zyg,zyh]
def geT(a b:Tn):Bool:=!decide (gt (blk b.2) (blk a.2))
variable{a:Nat}
def ztw{a b:Tn}:geT a b=true↔¬gt (blk b.2) (blk a.2):=by simp[geT]
theorem ztx(t n:Tn)(D:SmB (blk t.2))(I:SmB (blk n.2)):∃z:Int,oa [.tup [.int (hrs t.2),.int (lss t.2)],.tup [.int (hrs n.2),.int (lss n.2)]]=↑(.int z)/\decide (0<=z)=geT t n:=by
 refine⟨_,zll _ _ _ _ D.2 I.2,?_⟩;show decide ((0:Int)<=if lss n.2*hrs t.2<lss t.2*hrs n.2 then 1 else if lss t.2*hrs n.2<lss n.2*hrs t.2 then -1 else 0)=!decide (lss t.2*hrs n.2<lss n.2*hrs t.2);by_cases h1:lss n.2*hrs t.2<lss t.2*hrs n.2
 ·rw[if_pos h1]
  have h2:¬lss t.2*hrs n.2<lss n.2*hrs t.2:=by lia
  simp[h2]
 ·rw[if_neg h1]
  by_cases h2:lss t.2*hrs n.2<lss n.2*hrs t.2
  ·simp[h2]
  ·simp[h2]
def plc(ts:fk)(n:Tn):Nat:=(ts.takeWhile λt=>geT t n).length
noncomputable def zh6:FT:=fAnd (fTst (fBin dLt (fVar 2) (g5 0))) (fTst (fBin dGe (e8 oa (bx (e8 p9 (bx (fIxV 0 (fVar 2)) (fNil))) (bx (e8 p9 (bx (fVar 1) (fNil))) (fNil)))) (fC (.int 0))))
theorem zhc(n:Tn)(Z:SmB (blk n.2)):∀(I D:fk) (S:Nat),I.length<S->(∀t∈I,SmB (blk t.2)) ->
  ke zh6 uh S [↑(.sh (.lst ((D++I).map tnD))),↑(.sh (tnD n)),↑(.sh (.int (D.length:Int)))]=↑(.nx,[↑(.sh (.lst ((D++I).map tnD))),↑(.sh (tnD n)),↑(.sh (.int ((D.length+plc I n:Nat):Int)))])
 | [],D,f+1,h,_=>by
   unfold ke zh6;simp[plc]
 |t::r,D,f+1,h,hs=>by
   obtain⟨z,b,hd⟩:=ztx t n (hs t (by simp)) Z;have U:atI ((D++t::r).map tnD) (D.length:Int)=↑(tnD t):=j1 tnD (by simp);have V:(D.length:Int)<((D++t::r).map tnD).length:=by simp;lia
   have c:zh6 [↑(.sh (.lst ((D++t::r).map tnD))),↑(.sh (tnD n)),↑(.sh (.int (D.length:Int)))]=↑(geT t n,[↑(.sh (.lst ((D++t::r).map tnD))),↑(.sh (tnD n)),↑(.sh (.int (D.length:Int)))]):=by
    unfold zh6;generalize (D++t::r).map tnD=L at U V;simp[V,U,zoq,b,hd]
   unfold ke;rw[c,ab];cases hg:geT t n with
   |false =>
     simp[plc,hg]
   |true =>
     rw[if_pos rfl];have d:uh [↑(.sh (.lst ((D++t::r).map tnD))),↑(.sh (tnD n)),↑(.sh (.int (D.length:Int)))]=↑(.nx,[↑(.sh (.lst ((D++t::r).map tnD))),↑(.sh (tnD n)),↑(.sh (.int ((D++[t]).length:Int)))]):=by
      simp[uh]
     rw[d,ab];have a:=zhc n Z r (D++[t]) f (by simpa using h) λt' Y=>hs t' (by simp[Y]);rw[cb,du] at a;rw[a];have:(D++[t]).length+plc r n=D.length+plc (t::r) n:=by simp[plc,hg];lia
     rw[this]
theorem zqw(ts:fk)(n:Tn)(z:SmB (blk n.2))(D:∀t∈ts,SmB (blk t.2))(I:ts.length<9000):zdh [.lst (ts.map tnD),tnD n]=↑(.int (plc ts n:Int)):=by
 have h:=zhc n z ts [] 10000 (by lia) D;refine jv (e':=[↑(.sh (.lst (ts.map tnD))),↑(.sh (tnD n)),↑(.sh (.int (plc ts n:Int)))]) rfl ?_;show zdg [↑(.sh (.lst (ts.map tnD))),↑(.sh (tnD n)),none]=_;have h':ke zh6 uh 10000 [↑(.sh (.lst (ts.map tnD))),↑(.sh (tnD n)),↑(.sh (.int 0))]=_:=h;unfold zh6 at h';simp[zdg,h']
def ins(ts:fk)(n:Tn):fk:=(ts.takeWhile λt=>geT t n)++n::ts.dropWhile λt=>geT t n
def zw3(ts:fk)(n:Tn):(ts.map tnD).take (plc ts n)++tnD n::(ts.map tnD).drop (plc ts n)=(ins ts n).map tnD:=by
 have e:=ij (p:=λt=>geT t n) (l:=ts);have z:plc ts n=(ts.takeWhile λt=>geT t n).length:=rfl;have h1:ts.take (plc ts n)=ts.takeWhile λt=>geT t n:=by
  rw[z];generalize (ts.takeWhile λt=>geT t n)=A at e;rw[<-e];exact j6
 have h2:ts.drop (plc ts n)=ts.dropWhile λt=>geT t n:=by
  rw[z];generalize (ts.takeWhile λt=>geT t n)=A at e
  conv=>lhs;rw[<-e]
  exact List.drop_left
 rw[<-r8,<-List.map_drop,h1,h2];simp[ins]
def zw4(ts:fk)(n:Tn):plc ts n<=ts.length:=(List.takeWhile_sublist _).length_le
theorem zmy(I S Y:et)(ts:fk)(z:Nat)(r:ez)(Z:SmB (blk r))(a:∀t∈ts,SmB (blk t.2))(b:ts.length<9000) :
  uf [I,↑(.ow (ts.map tnD)),↑(.sh (.int (z:Int))),S,↑(.sh (.int (r.length:Int))),↑(.sh (.int (hrs r))),↑(.sh (.int (lss r))),Y] =
   ↑(.nx,[I,↑(.ow ((ins ts (z,r)).map tnD)),↑(.sh (.int (z:Int))),S,↑(.sh (.int (r.length:Int))),↑(.sh (.int (hrs r))),↑(.sh (.int (lss r))),↑(.sh (tnD (z,r)))]):=by
 have U:=zqw ts (z,r) Z a b;have V:=zw3 ts (z,r);have h1:(plc ts (z,r):Int)<=((ts.map tnD).length:Nat):=by rw[ac];have:=zw4 ts (z,r);lia
 have h2:Few ((ts.map tnD).length+1):=few (by rw[ac];lia);have c:D.tup [.int (z:Int),.int (r.length:Int),.int (hrs r),.int (lss r)]=tnD (z,r):=rfl;have d:(0:Int)<=(plc ts (z,r):Int):=by lia
 generalize ts.map tnD=L at U V h1 h2;simp[uf,vc,sg,uk,c,U,qg,xq,d,h1,h2,fz,V]
def bef(a b:Tn):Prop:=gt (blk a.2) (blk b.2)\/(¬gt (blk b.2) (blk a.2)/\a.1<b.1)
def ofS(ts:fk)(j:Nat):fh:=(ts.filter λt=>t.1==j+1).map (·.2)
structure TurnsOk (ss:fh) (ts:fk):Prop where
 lo:∀t∈ts,1<=t.1/\t.1<=ss.length
 good:∀t∈ts,Good t.2
 part:∀(j:Nat) (s:ez),ss[j]?=↑s->(ofS ts j).flatten=s
 srt:ts.Pairwise bef
 perm:(ts.map (·.2)).flatten.Perm ss.flatten
variable{ss:fh}{ts:fk}
def TurnsOk.sk(h:TurnsOk ss ts)(z:∀x∈ss.flatten,f9 x):∀t∈ts,∀x∈t.2,f9 x:=λt D x I =>
 z x (h.perm.mem_iff.mp (cj.mpr ⟨t.2,bj.mpr ⟨t,D,rfl⟩,I⟩))
def TurnsOk.len1(h:TurnsOk ss ts):∀t∈ts,t.2.length<=ss.flatten.length:=λt z=>by
 rw[<-h.perm.length_eq];exact(cg (bj.mpr ⟨t,z,rfl⟩)).length_le
theorem zor{α:Type}:∀(l:List (List α)),(∀r∈l,r≠[])->l.length<=l.flatten.length
 | [],_=>by simp |a::l,h=>by
   have:=zor l λr z=>h r (ai _ z);have D:0<a.length:=gw.mpr (h a au);rw[am,bw,aj]
   lia
def TurnsOk.len(h:TurnsOk ss ts):ts.length<=ss.flatten.length:=by
 have:=zor (ts.map (·.2)) λr z=>by
  obtain⟨t,D,rfl⟩:=bj.mp z;exact(h.good t D).ne
 rw[ac,h.perm.length_eq] at this;exact this
protected def TurnsOk.pos(h:TurnsOk ss ts)(D:∀x∈ss.flatten,f9 x):∀t∈ts,0<hrs t.2:=λt z=>m6 t.2 (h.sk D t z) (h.good t z).ne
def TurnsOk.sm(h:TurnsOk ss ts)(D:∀x∈ss.flatten,f9 x)(I:ss.flatten.length<=1000):∀t∈ts,SmB (blk t.2):=λt z=>smB t.2 (h.sk D t z) (bi (h.len1 t z) I)
theorem TurnsOk.more(h:TurnsOk ss ts):TurnsOk (ss++[[]]) ts/\ofS ts ss.length=[]:=by
 have e:ofS ts ss.length=[]:=by
  unfold ofS;rw[fc.mpr λt D=>by have:=(h.lo t D).2;simp;lia];rfl
 refine⟨⟨λt D=>⟨(h.lo t D).1,by have:=(h.lo t D).2;simp;lia⟩,h.good,λj s z=>?_,h.srt,by simpa using h.perm⟩,e⟩;by_cases I:j<ss.length
 ·rw[b9 I] at z
  exact h.part j s z
 ·have:j=ss.length:=by
   have:=(aq.mp z).1;simp at this
   lia
  subst this;simp at z;subst z;rw[e];rfl
def zty{ts:fk}{n t:Tn}:t∈ins ts n↔t∈ts\/t=n:=by
 unfold ins;have e:=ij (p:=λt=>geT t n) (l:=ts);have z:t∈ts↔t∈(ts.takeWhile λt=>geT t n)\/t∈ts.dropWhile λt=>geT t n:=by
  conv=>lhs;rw[<-e]
  exact cw
 rw[z];simp[cw];constructor
 ·rintro(h |h |h)
  ·exact .inl (.inl h)
  ·exact .inr h
  ·exact .inl (.inr h)
 ·rintro((h |h) |h)
  ·exact .inl h
  ·exact .inr (.inr h)
  ·exact .inr (.inl h)
theorem TurnsOk.ins{ss:fh}{ts:fk}{D r:ez}{p:fh}(h:TurnsOk (ss++[D]) ts)(V:ofS ts ss.length=p)(m:Good r)(g:∀x∈r,f9 x)(v:∀x∈(ss++[D]).flatten,f9 x)(hd:∀u∈p,gt (blk u) (blk r)):TurnsOk (ss++[D++r]) (LB.ins ts (ss.length+1,r))/\ofS (LB.ins ts (ss.length+1,r)) ss.length=p++[r]:=by
 have e:=ij (p:=λt=>geT t (ss.length+1,r)) (l:=ts);have hA:∀t∈(ts.takeWhile λt=>geT t (ss.length+1,r)),geT t (ss.length+1,r)=true:=λt L=>by
  have:=List.all_takeWhile (p:=λt=>geT t (ss.length+1,r)) (l:=ts);exact fj.mp this t L
 have pr:0<hrs r:=m6 r g m.ne;have I:=@zty ts (ss.length+1,r);have i:∀S c,ts.dropWhile (λt=>geT t (ss.length+1,r))=S::c->gt (blk r) (blk S.2):=λS c hb=>by
  have:geT S (ss.length+1,r)=false:=by
   have:=List.head?_dropWhile_not (p:=λt=>geT t (ss.length+1,r)) ts;rw[hb] at this;simpa using this
  unfold geT at this;simpa using this
 unfold LB.ins at I ⊢;have srt:=h.srt;have pos:=h.pos v;have U:∀t∈ts,t.1=ss.length+1->gt (blk t.2) (blk r):=λt L Y=>hd t.2 (by
  rw[<-V];exact bj.mpr ⟨t,gc.mpr ⟨L,by simp[Y]⟩,rfl⟩)
 have lo:=h.lo;have part:=h.part;have perm:=h.perm;rw[<-e] at srt pos U lo part perm V;generalize (ts.takeWhile λt=>geT t (ss.length+1,r))=A at *;generalize (ts.dropWhile λt=>geT t (ss.length+1,r))=B at *;have n:∀b∈B,gt (blk r) (blk b.2):=λb hb=>by
  cases B with
  |nil=>simp at hb |cons S c =>
    have o:=i S c rfl;rcases b8.mp hb with rfl |hb'
    ·exact o
    ·have w:=(iq.mp srt).2.1
     have:=(eh.mp w).1 b hb';have y:¬gt (blk b.2) (blk S.2):=by
      rcases this with z |z
      ·exact p5 z
      ·exact z.1
     exact xj pr (pos S (by simp)) (pos b (by simp[hb'])) o y
 have q:(B.filter λt=>t.1==ss.length+1)=[]:=fc.mpr λt L=>by
  intro z;exact p5 (n t L) (U t (by simp[L]) (by simpa using z))
 have of:ofS (A++(ss.length+1,r)::B) ss.length=p++[r]:=by
  unfold ofS at V ⊢;rw[g8,q,ce] at V;rw[g8,jj (by simp),q,b7,V];rfl
 refine⟨⟨λt L=>?_,λt L=>?_,λj s d=>?_,?_,?_⟩,of⟩
 ·rcases(I.mp L) with z |z
  ·have:=h.lo t z;simp at this ⊢;lia
  ·subst z;simp
 ·rcases(I.mp L) with z |z
  ·exact h.good t z
  ·subst z;exact m
 ·by_cases Z:j<ss.length
  ·rw[b9 Z] at d
   have:=part j s (by rw[b9 Z];exact d);rw[<-this];unfold ofS;rw[g8,g8,jk (by simp;lia)]
  ·have:j=ss.length:=by
    have:=(aq.mp d).1;simp at this
    lia
   subst this;have C:D++r=s:=by simpa using d
   rw[of,<-C];have:=part ss.length D (by simp);rw[show ofS (A++B) ss.length=p from V] at this;simp[this]
 ·have k:=iq.mp srt
  refine iq.mpr ⟨k.1,eh.mpr ⟨λb hb=>.inl (n b hb),k.2.1⟩,λa f b hb=>?_⟩;rcases b8.mp hb with rfl |hb
  ·have E:=hA a f
   by_cases Y:a.1=ss.length+1
   ·exact .inl (U a (by simp[f]) Y)
   ·have:=(lo a (by simp[f])).2
    exact .inr ⟨ztw.mp E,by simp at this ⊢;lia⟩
  ·exact k.2.2 a f b hb
 ·have Y:((A++(ss.length+1,r)::B).map (·.2)).flatten=(A.map (·.2)).flatten++(r++(B.map (·.2)).flatten):=by simp
  have F:(ss++[D++r]).flatten=(ss++[D]).flatten++r:=by simp
  rw[Y,F];have G:((A++B).map (·.2)).flatten=(A.map (·.2)).flatten++(B.map (·.2)).flatten:=by simp
  rw[G] at perm;refine List.Perm.trans ?_ (perm.append_right r);rw[cb];exact List.Perm.append_left _ List.perm_append_comm
def zos:∀(z:fh),Desc z->(∀r∈z,0<hrs r)->z.Pairwise (λb u=>gt (blk u) (blk b))
 | [],_,_=>.nil | [b],_,_=>by simp |b::u::r,h,hp=>by
   have I:=zos (u::r) h.2 λx D=>hp x (ai _ D);refine eh.mpr ⟨λx D=>?_,I⟩;rcases b8.mp D with rfl |hx'
   ·exact h.1
   ·have:=(eh.mp I).1 x hx'
    exact xj (hp x (by simp[hx'])) (hp u (by simp)) (hp b (by simp)) this (p5 h.1)
theorem zkt(S:D)(ss:fh)(s:ez)(ts:fk)(l m n o:et)(h:TurnsOk ss ts)(C:∀x∈(ss++[s]).flatten,f9 x)(v:(ss++[s]).flatten.length<=14) :
  ∃z f i j Z,TurnsOk (ss++[s]) z/\wt [↑(.sh S),↑(.ow (ts.map tnD)),↑(.sh (.int ((ss.length+1:Nat):Int))),↑(.sh (.lst (s.map sD))),l,m,n,o] =
   ↑(.nx,[↑(.sh S),↑(.ow (z.map tnD)),↑(.sh (.int ((ss.length+1:Nat):Int))),↑(.sh (.lst (s.map sD))),f,i,j,Z]):=by
 have a:∀x∈s,f9 x:=λx hx=>C x (by simp[hx]);have w:s.length<=14:=by simp at v;lia
 obtain⟨V,t,F⟩:=zha s a w;have I:=t.flat;have c:∀r∈V.reverse,Good r:=λr h=>t.good r (l5.mp h);have d:∀r∈V.reverse,∀x∈r,f9 x:=λr h x hx=>a x (by rw[<-I];exact cj.mpr ⟨r,h,hx⟩);have k:V.reverse.Pairwise (λu b=>gt (blk u) (blk b)):=by
  rw[List.pairwise_reverse];exact zos V t.desc λr h=>m6 r (d r (l5.mpr h)) (t.good r h).ne
 have E:=h.more;obtain⟨e',h1,z,f,i,j,Z,y,G,rfl⟩:=tq (ix:=[4,5,6]) (g:=uf) (λr:ez=>[D.int (r.length:Int),.int (hrs r),.int (lss r)])
  (λp e=>∃z f i j Z,TurnsOk (ss++[p.flatten]) z/\ofS z ss.length=p/\e=[↑(.sh S),↑(.ow (z.map tnD)),↑(.sh (.int ((ss.length+1:Nat):Int))),↑(.sh (.lst (s.map sD))),f,i,j,Z]) V.reverse
  [↑(.sh S),↑(.ow (ts.map tnD)),↑(.sh (.int ((ss.length+1:Nat):Int))),↑(.sh (.lst (s.map sD))),l,m,n,o] ⟨ts,l,m,n,o,E.1,E.2,rfl⟩ (λ_ _=>rfl) (by
   rintro p r q e L ⟨z,f,i,j,Z,ok,of,rfl⟩;have U:r∈V.reverse:=by rw[L];simp
   have Y:∀x∈(ss++[p.flatten]).flatten,f9 x:=λx hx=>by
    rw[d9,cw] at hx;rcases hx with hx |hx
    ·exact C x (by rw[d9];exact de _ hx)
    ·refine a x ?_
     rw[<-I,L,d9];exact de _ (by simpa using hx)
   have H:(ss++[p.flatten]).flatten.length<=14:=by
    have:p.flatten.length<=s.length:=by rw[<-I,L,d9,aj];lia
    rw[d9,aj] at v ⊢;simp only[bw,List.flatten_nil,ce] at v ⊢
    lia
   have A:∀u∈p,gt (blk u) (blk r):=λu J=>by
    rw[L] at k;exact(iq.mp k).2.2 u J r (by simp)
   obtain⟨K,M⟩:=ok.ins of (c r U) (d r U) Y A;have N:r.length<=14:=by
    have:r.length<=V.reverse.flatten.length:=(cg U).length_le;rw[I] at this;lia
   have body:=zmy ↑(.sh S) ↑(.sh (.lst (s.map sD))) Z z (ss.length+1) r (smB r (d r U) (by lia)) (ok.sm Y (by lia)) (by have:=ok.len;lia);exact⟨_,body,_,_,_,_,_,by simpa using K,M,rfl⟩)
 refine⟨z,f,i,j,Z,by rw[<-I];exact y,?_⟩;have B:forU [4,5,6] uf (V.reverse.map bD) [↑(.sh S),↑(.ow (ts.map tnD)),↑(.sh (.int ((ss.length+1:Nat):Int))),↑(.sh (.lst (s.map sD))),l,m,n,o]=_:=h1;simp only[wt,ma,fiS,e8,bx,fVar,fNil,ah,af,ab,av,F,B]
def ssL(ss:fh):D:=.lst (ss.map λs=>D.lst (s.map sD))
def zyr(ss:fh):D.lst ((ssD ss).map D.lst)=ssL ss:=by unfold ssL ssD;rw[dn];rfl
theorem zhp(ss:fh)(f:∀x∈ss.flatten,f9 x)(h:ss.flatten.length<=14):∃ts,TurnsOk ss ts/\t6 [ssL ss]=↑(.lst (ts.map tnD)):=by
 obtain⟨e',h1,ts,v2,Y,z,I,L,S,ok,rfl⟩:=tq (ix:=[2,3]) (g:=wt) (λp:ez×Nat=>[D.int (p.2:Int),D.lst (p.1.map sD)])
  (λp e=>∃ts v2 Y z I L S,TurnsOk (p.map (·.1)) ts/\e=[↑(.sh (ssL ss)),↑(.ow (ts.map tnD)),v2,Y,z,I,L,S]) (ss.zipIdx 1)
  [↑(.sh (ssL ss)),↑(.ow []),none,none,none,none,none,none] ⟨[],none,none,none,none,none,none,⟨by simp,by simp,by simp,.nil,by simp⟩,rfl⟩ (λ_ _=>rfl) (by
   rintro p x q e U ⟨ts,v2,Y,z,I,L,S,ok,rfl⟩;have a:ss=p.map (·.1)++x.1::q.map (·.1):=by
    have:=congrArg (List.map (·.1)) U;simpa using this
   have b:x.2=(p.map (·.1)).length+1:=by
    have:(ss.zipIdx 1)[p.length]?=↑x:=by rw[U];simp
    rw[List.getElem?_zipIdx] at this;cases hs:ss[p.length]? with
    |none=>rw[hs] at this;cases this
    |some s =>
      rw[hs] at this;cases this;simp;lia
   have V:ss.flatten=(p.map (·.1)++[x.1]).flatten++(q.map (·.1)).flatten:=by rw[a];simp
   obtain⟨c,j,k,l,m,d,Z⟩:=zkt (ssL ss) (p.map (·.1)) x.1 ts z I L S ok (λy i=>f y (by rw[V];exact de _ i)) (by rw[V,aj] at h;lia);rw[<-b] at Z;exact⟨_,Z,c,_,_,_,_,_,_,by simpa using d,rfl⟩)
 refine⟨ts,by simpa using ok,?_⟩;refine jv (e':=[↑(.sh (ssL ss)),↑(.sh (.lst (ts.map tnD))),v2,Y,z,I,L,S]) rfl ?_;show zd8 [↑(.sh (ssL ss)),none,none,none,none,none,none,none]=_;have Z:iEn 1 [ssL ss]=↑((ss.zipIdx 1).map λp=>D.tup [D.int (p.2:Int),D.lst (p.1.map sD)]):=by
  show ↑(lh 1 (ss.map λs=>D.lst (s.map sD)))=_;rw[zn]
 simp only[zd8,sSeq,sOwn,gm,fNil,ab,av,cx,eo,if_true,aw,az,ma,gy,bx,fVar,ah,af,Z,h1,sRet]
def gs(n:Nat)(ts:fk):fh:=(List.range n).map λj=>(ofS ts j).flatten
def kn(n:Nat)(ts:fk):(gs n ts).length=n:=by simp[gs]
def mq(h:j<n):(gs n ts)[j]?=↑((ofS ts j).flatten):=by simp[gs,h]
theorem TurnsOk.left(h:TurnsOk ss ts):gs ss.length ts=ss:=by
 apply fx;intro j;by_cases z:j<ss.length
 ·rw[mq z,h.part j ss[j] (by simp[z])]
  simp[z]
 ·rw[ca (by rw[kn];lia),ca (by lia)]
def t0(t:Tn)(ts:fk)(j:Nat)(h:t.1=j+1):ofS (t::ts) j=t.2::ofS ts j:=by
 unfold ofS;rw[jj (by simp[h])];rfl
def zw(t:Tn)(ts:fk)(j:Nat)(h:t.1≠j+1):ofS (t::ts) j=ofS ts j:=by
 unfold ofS;rw[jk (by simp[h])]
variable{t:Tn}
theorem zmz(h1:1<=t.1)(h2:t.1<=n):(gs n (t::ts))[t.1-1]?=↑(t.2++(ofS ts (t.1-1)).flatten):=by
 rw[mq (by lia),t0 t ts (t.1-1) (by lia)];simp
theorem zku(h1:1<=t.1)(h2:t.1<=n):gs n ts=(gs n (t::ts)).set (t.1-1) ((ofS ts (t.1-1)).flatten):=by
 apply fx;intro j;by_cases z:j<n
 ·rw[jc,mq z,mq z,kn]
  by_cases e:t.1-1=j
  ·subst e
   simp[z]
  ·rw[if_neg e,zw t ts j (by lia)]
 ·rw[ca (by rw[kn];lia),ca (by rw[dy,kn];lia)]
theorem zjz(h1:1<=t.1)(h2:t.1<=n):gs n (t::ts)=(gs n ts).set (t.1-1) (t.2++(ofS ts (t.1-1)).flatten):=by
 apply fx;intro j;by_cases z:j<n
 ·rw[jc,mq z,mq z,kn]
  by_cases e:t.1-1=j
  ·subst e
   rw[t0 t ts (t.1-1) (by lia)];simp[z]
  ·rw[if_neg e,zw t ts j (by lia)]
 ·rw[ca (by rw[kn];lia),ca (by rw[dy,kn];lia)]
def zm{α:Type}:∀ {l:List (List α)} {j:Nat} {s x:List α},l[j]?=↑s->(l.set j (x++s)).flatten.Perm (x++l.flatten)
 |a::l,0,s,x,h=>by
   simp at h;subst h;simp
 |a::l,j+1,s,x,h=>by
   have z:=zm (l:=l) (j:=j) (s:=s) (x:=x) (by simpa using h);simp;refine(z.append_left a).trans ?_;rw[<-cb,<-cb];exact List.perm_append_comm.append_right _
theorem zhe{n:Nat}:∀ {ts:fk},(∀t∈ts,1<=t.1/\t.1<=n)->(ts.map (·.2)).flatten.Perm (gs n ts).flatten
 | [],_=>by
   have:(gs n []).flatten=[]:=by simp[gs,ofS]
   rw[this];exact .nil
 |t::ts,h=>by
   have z:=zhe (n:=n) (ts:=ts) λt' D=>h t' (ai _ D);obtain⟨h1,h2⟩:=h t au;rw[zjz h1 h2,bh,bw];exact(z.append_left t.2).trans (zm (mq (by lia))).symm
def TurnsOk.tail(h:TurnsOk (gs n (t::ts)) (t::ts)):TurnsOk (gs n ts) ts:=by
 have lo:∀t'∈ts,1<=t'.1/\t'.1<=n:=λt' z=>by
  have:=h.lo t' (ai _ z);rw[kn] at this;exact this
 refine⟨λt' z=>by rw[kn];exact lo t' z,λt' z=>h.good t' (ai _ z),λj s D=>?_,(eh.mp h.srt).2,zhe lo⟩;have I:=(aq.mp D).1;rw[kn] at I;rw[mq I] at D;exact ay D
def ztz(a b:em):cutD (a++b) none ↑(a.length:Int)=a:=by
 unfold cutD;rw[HT.sIx_none,HT.sIx_nat];simp
def zot(a b:em):cutD (a++b) ↑(a.length:Int) none=b:=by
 unfold cutD;rw[HT.sIx_none,HT.sIx_nat];simp
variable{ar:Nat}{e':DE0}
def yu{z:em}(h:ds.length=ar)(I:g (jf n ds)=↑(.rf z,e')):runF n ar g ds=↑z:=by
 unfold runF;rw[if_pos h,I]
theorem zt0(ss:fh)(I:ss.length<=1000):zy [ssL ss]=↑(ss.map λs=>D.lst (s.map sD)):=by
 have c:=ku (te:=fLst (gy oh (bx (fVar 0) (fNil)))) (base:=[]) (λs:ez=>D.lst (s.map sD)) (λs:ez=>D.lst (s.map sD)) ss λs _=>⟨_,by simp;rfl⟩;have z:Few ss.length:=few (by lia);refine yu (e':=[↑(.sh (ssL ss))]) rfl ?_;show zz [↑(.sh (.lst (ss.map λs:ez=>D.lst (s.map sD))))]=_;simp[zz,iw,z,c];rfl
theorem zhq(ss:fh)(V:ss.length<=1000)(L:∀s∈ss,s.length<=1000):zci [ssL ss,ssL ss]=↑(.bl true):=by
 obtain⟨e',h1,v2,rfl⟩:=ny (i:=2) (g:=zbv) (λk e=>∃v2,e=[↑(.sh (ssL ss)),↑(.sh (ssL ss)),v2]) (rngD 0 ss.length) [↑(.sh (ssL ss)),↑(.sh (ssL ss)),none] ⟨none,rfl⟩ (by
  rintro k d e hd ⟨v2,rfl⟩;obtain⟨rfl,I⟩:=nr hd;have S:atI (ss.map λs=>D.lst (s.map sD)) (k:Int)=↑(.lst (ss[k].map sD)):=j1 (λs:ez=>D.lst (s.map sD)) (by simp[I]);have U:=zjw (λs:Sk=>[s.1,s.2.1,s.2.2]) ss[k] (L _ (il I)) (λ_ _=>by simp);have z:xb [.lst (ss[k].map sD),.lst (ss[k].map sD)]=↑(.bl true):=U;exact⟨[↑(.sh (ssL ss)),↑(.sh (ssL ss)),↑(.sh (.int (0+k)))],by simp[zbv,ssL,S,z],_,rfl⟩)
 have hi:=md ss.length (by lia);refine jv (e':=[↑(.sh (ssL ss)),↑(.sh (ssL ss)),v2]) rfl ?_;show zch [↑(.sh (ssL ss)),↑(.sh (ssL ss)),none]=_;unfold ssL at h1 ⊢;simp[zch,hi,h1]
def hT:fh->Bk
 | []=>(0,1,-1) |r::_=>blk r
def kD(b:Bk):D:=.lst [.int b.1,.int b.2.1,.int b.2.2]
variable{r:ez}{q:cd}
theorem zw5{b q:ez}(h1:gt (blk r) (blk b))(h2:gt (blk r) (blk q)):gt (blk r) (blk (b++q)):=by
 have h1:lss b*hrs r<lss r*hrs b:=h1;have h2:lss q*hrs r<lss r*hrs q:=h2;show lss (b++q)*hrs r<lss r*hrs (b++q);rw[ml,kt,gl,f6]
 lia
theorem zrm{r:ez}(pr:0<hrs r):∀(rest:fh) (q:ez),(∀b∈rest,gt (blk r) (blk b))->(∀b∈rest,Good b)->(∀b∈rest,∀x∈b,f9 x)->q <+: rest.flatten->q≠[]->gt (blk r) (blk q)
 | [],q,_,_,_,hq,ne=>by simp at hq;exact absurd hq ne |b::rest,q,hd,hg,hs,hq,ne=>by
   have D:=hg b (by simp);have I:=hs b (by simp);rcases vb hq with hq | ⟨q',rfl,hq'⟩
   ·have sq:∀x∈q,f9 x:=λx S=>I x (hq.subset S)
    refine xj pr (m6 b I D.ne) (m6 q sq ne) (hd b (by simp)) ?_;have:=D.beg q hq;show ¬(lss b*hrs q<lss q*hrs b)
    lia
   ·by_cases L:q'=[]
    ·subst L
     rw[ce];exact hd b (by simp)
    ·exact zw5 (hd b (by simp)) (zrm pr rest q' (λc z=>hd c (by simp[z])) (λc z=>hg c (by simp[z])) (λc z=>hs c (by simp[z])) hq' L)
def ziq(z:k<s.length):hrs (s.take (k+1))=hrs (s.take k)+s[k].2.1/\lss (s.take (k+1))=lss (s.take k)+s[k].2.2:=by
 rw[List.take_succ_eq_append_getElem z,kt,ml];simp[hrs,lss]
theorem zt1(z:∀x∈s,f9 x)(I:s.length<=14)(k:Nat):0<=hrs (s.take k)/\hrs (s.take k)<=840/\0<=lss (s.take k)/\lss (s.take k)<=1400:=by
 have:=qw (s.take k) λx D=>z x (j8 D);have h2:(s.take k).length<=14:=by rw[dq];lia
 lia
theorem zt2(L:fh)(hd:L.Pairwise λu b=>gt (blk u) (blk b))(H:∀r∈L,Good r)(f:∀x∈L.flatten,f9 x)(J:L.flatten.length<=14):vq [.lst (L.flatten.map sD)]=↑(kD (hT L)):=by
 cases L with
 |nil=>simp[vq,runD,wb,jf,hT,kD,md 0 (by lia),rngD,forL,show iR1 [.int 0]=↑(rngD 0 0) from md 0 (by lia)] |cons r rest =>
   have o:(r::rest).flatten=r++rest.flatten:=bw ..;rw[o] at f J ⊢;have p:=H r (by simp);have K:∀x∈r,f9 x:=λx t=>f x (by simp[t]);have pr:=m6 r K p.ne;have R:=qw r K;have v:=(eh.mp hd).1;generalize Z:r++rest.flatten=s at *;have w:r.length<=s.length:=by rw[<-Z];simp
   have tk:∀k,k<=r.length->s.take k <+: r:=λk j=>by
    rw[<-Z,ip j];exact List.take_prefix _ _
   obtain⟨e',h1,T,l,rfl,S,U⟩:=ny (i:=4) (g:=t5) (λk e=>∃(b:Bk) (l:et),e=[↑(.sh (.lst (s.map sD))),↑(.sh (kD b)),↑(.sh (.int (hrs (s.take k)))),↑(.sh (.int (lss (s.take k)))),l] /\
     (k<r.length->b=(0,1,-1)\/∃q,q <+: r/\b=blk q)/\(r.length<=k->b=blk r)) (rngD 0 s.length)
    [↑(.sh (.lst (s.map sD))),↑(.sh (kD (0,1,-1))),↑(.sh (.int 0)),↑(.sh (.int 0)),none] ⟨(0,1,-1),none,by simp[hrs,lss],λ_=>.inl rfl,λh=>absurd (List.length_eq_zero_iff.mp (Nat.le_zero.mp h)) p.ne⟩ (by
     rintro k d e y ⟨b,l,rfl,S,U⟩;obtain⟨rfl,j⟩:=nr y;obtain⟨m,n⟩:=ziq j;have W:=zt1 f J (k+1);have M:atI (s.map sD) (0+(k:Int))=↑(sD s[k]):=by rw[en];exact j1 sD (by simp[j])
     have D:jt (hrs (s.take (k+1))):=kz (by lia);have I:jt (lss (s.take (k+1))):=kz (by lia);have N:dIx (sD s[k]) (.int 1)=↑(.int s[k].2.1):=rfl;have O:dIx (sD s[k]) (.int 2)=↑(.int s[k].2.2):=rfl;have A:t5 [↑(.sh (.lst (s.map sD))),↑(.sh (kD b)),↑(.sh (.int (hrs (s.take k)))),↑(.sh (.int (lss (s.take k)))),↑(.sh (.int (0+(k:Int))))] =
       ↑(.nx,[↑(.sh (.lst (s.map sD))),↑(.sh (kD (if b.2.2*hrs (s.take (k+1))<=lss (s.take (k+1))*b.2.1 then blk (s.take (k+1)) else b))),↑(.sh (.int (hrs (s.take (k+1))))),↑(.sh (.int (lss (s.take (k+1))))),↑(.sh (.int (0+(k:Int))))]):=by
      have c:((s.take (k+1)).length:Int)=0+(k:Int)+1:=by rw[dq];lia
      by_cases a:b.2.2*hrs (s.take (k+1))<=lss (s.take (k+1))*b.2.1
      ·rw[if_pos a,show blk (s.take (k+1))=(0+(k:Int)+1,hrs (s.take (k+1)),lss (s.take (k+1))) by unfold blk;rw[c]]
       rw[m] at D;rw[n] at I;rw[m,n] at a ⊢;simp only[t5,kD,sSeq,sSet,sIf,sNil,fBin,fVar,fIxV,ixSl,fC,fTst,fLst,gm,bx,fNil,ah,af,ab,av,aw,az,M,N,O,gq,o9,qe,ot I,yg D,dGe,decide_eq_true a,if_true,am,cx,show(0+1+1+1<=64)=True by simp]
      ·rw[if_neg a]
       rw[m] at D;rw[n] at I;rw[m,n] at a ⊢;simp only[t5,kD,sSeq,sSet,sIf,sNil,fBin,fVar,fIxV,ixSl,fC,fTst,fLst,gm,bx,fNil,ah,af,ab,av,aw,az,M,N,O,gq,o9,qe,ot I,yg D,dGe,decide_eq_false a,cr,if_false]
     refine⟨_,A,_,_,rfl,λV=>?_,λP=>?_⟩
     ·split
      ·exact .inr ⟨_,tk (k+1) (by lia),rfl⟩
      ·exact S (by lia)
     ·by_cases B:r.length<=k
      ·have Y:=U B
       subst Y;rw[if_neg];have C:s.take (k+1)=r++rest.flatten.take (k+1-r.length):=by
        rw[<-Z,List.take_append,ic (by lia)]
       have E:(rest.flatten.take (k+1-r.length))≠[]:=by
        intro z;have:=congrArg List.length z;rw[dq] at this;have Q:s.length=r.length+rest.flatten.length:=by rw[<-Z,aj]
        simp only[cx] at this
        lia
       have V:=zrm pr rest _ v (λb Y=>H b (by simp[Y])) (λb Y x t=>f x (by rw[<-Z];exact bq _ (cj.mpr ⟨b,Y,t⟩))) (List.take_prefix (k+1-r.length) rest.flatten) E;rw[C,kt,ml];have V:lss (rest.flatten.take (k+1-r.length))*hrs r<lss r*hrs (rest.flatten.take (k+1-r.length)):=V;show ¬(lss r*(hrs r+hrs _)<=(lss r+lss _)*hrs r);rw[f6,gl]
       lia
      ·have F:k+1=r.length:=by lia
       have C:s.take (k+1)=r:=by rw[F,<-Z];exact j6
       rw[C,if_pos];rcases S (by lia) with rfl | ⟨q,E,rfl⟩
       ·show -1*hrs r<=lss r*1
        lia
       ·exact p.beg q E)
   rw[n4,ji] at h1;have Y:=U (by rw[n4];exact w);subst Y;have hi:iR1 [.int (s.length:Int)]=↑(rngD 0 s.length):=md s.length (by lia);refine jv (e':=[↑(.sh (.lst (s.map sD))),↑(.sh (kD (blk r))),↑(.sh (.int (hrs s))),↑(.sh (.int (lss s))),l]) rfl ?_;show wb [↑(.sh (.lst (s.map sD))),none,none,none,none]=_;have G:kD (0,1,-1)=.lst [.int 0,.int 1,.int (-1)]:=rfl;rw[G] at h1;simp[wb,hi,h1];rfl
def yt(h:r∈ofS ts j):(j+1,r)∈ts:=by
 obtain⟨t,z,rfl⟩:=bj.mp h;obtain⟨h1,h2⟩:=gc.mp z;have:t.1=j+1:=by simpa using h2
 rw[<-this];exact h1
theorem zw6(h:ts.Pairwise bef):(ofS ts j).Pairwise λu b=>gt (blk u) (blk b):=by
 unfold ofS;rw[jb,List.pairwise_filter];refine h.imp λ{a b} hab ha hb=>?_;rcases hab with z |z
 ·exact z
 ·have h1:a.1=j+1:=by simpa using ha
  have h2:b.1=j+1:=by simpa using hb
  lia
def kx(n:Nat)(ts:fk):List Bk:=(List.range n).map λj=>hT (ofS ts j)
def zl(h:j<n):(kx n ts)[j]?=↑(hT (ofS ts j)):=by simp[kx,h]
theorem vg(ok:TurnsOk (gs n (t::ts)) (t::ts)):hT (ofS (t::ts) (t.1-1))=blk t.2:=by
 have h1:=(ok.lo t (by simp)).1;rw[t0 t ts (t.1-1) (by lia)];rfl
theorem zrn(ok:TurnsOk (gs n (t::ts)) (t::ts))(D:∀x∈(gs n (t::ts)).flatten,f9 x)(j:Nat) :
  ¬gt (hT (ofS (t::ts) j)) (blk t.2)/\(j<t.1-1->gt (blk t.2) (hT (ofS (t::ts) j))):=by
 have pt:=ok.pos D t (by simp);have st:=qw t.2 (ok.sk D t (by simp));cases h:ofS (t::ts) j with
 |nil =>
   have g:gt (blk t.2) (0,1,-1):=by
    show -1*hrs t.2<lss t.2*1
    lia
   exact⟨p5 g,λ_=>g⟩
 |cons r rest =>
   have hm:(j+1,r)∈t::ts:=yt (by rw[h];simp);rcases b8.mp hm with e |hm
   ·subst e
    exact⟨λz=>p5 z z,λz=>by simp at z⟩
   ·have I:=(eh.mp ok.srt).1 _ hm
    rcases I with z | ⟨z,z'⟩
    ·exact⟨p5 z,λ_=>z⟩
    ·exact⟨z,λw=>by simp at z';lia⟩
def zm0(n:Nat)(ts:fk):(gs n ts).map (λs=>D.lst (s.map sD))=(List.range n).map λj=>D.lst ((ofS ts j).flatten.map sD):=by
 unfold gs;rw[dn];rfl
def zm1(h:j<n):∀x∈(ofS ts j).flatten,x∈(gs n ts).flatten:=λx z =>
 cj.mpr ⟨_,bn (mq (ts:=ts) h),z⟩
def zou(h:j<n):(ofS ts j).flatten.length<=(gs n ts).flatten.length :=
 (cg (bn (mq (ts:=ts) h))).length_le
theorem zw7(ok:TurnsOk (gs n ts) ts)(z:∀x∈(gs n ts).flatten,f9 x)(D:(gs n ts).flatten.length<=14)(j:Nat):SmB (hT (ofS ts j)):=by
 cases h:ofS ts j with
 |nil=>exact⟨kz (by decide),kz (by decide)⟩ |cons r rest=>exact ok.sm z (by lia) (j+1,r) (yt (by rw[h];simp))
def zov(H:List Bk)(L S v2:et)(k p:Nat)(bk z:Bk)(a:H[k]?=↑bk)(c:H[p]?=↑z)(sk:SmB bk)(sp:SmB z) :
  rg [L,S,v2,↑(.sh (.lst (H.map kD))),↑(.sh (.int (p:Int))),↑(.sh (.int (0+(k:Int))))] =
   ↑(.nx,[L,S,v2,↑(.sh (.lst (H.map kD))),↑(.sh (.int ((if gt bk z then k else p:Nat):Int))),↑(.sh (.int (0+(k:Int))))]):=by
 rw[en];have U:atI (H.map kD) (k:Int)=↑(kD bk):=j1 kD a;have V:atI (H.map kD) (p:Int)=↑(kD z):=j1 kD c;have Y:∀b:Bk,dIx (kD b) (.int 1)=↑(.int b.2.1):=λ_=>rfl;have Z:∀b:Bk,dIx (kD b) (.int 2)=↑(.int b.2.2):=λ_=>rfl;by_cases I:gt bk z
 ·have D:z.2.2*bk.2.1<bk.2.2*z.2.1:=I
  rw[if_pos I];simp only[rg,sIf,sSet,sNil,fTst,fBin,fIxV,ixSl,fVar,fC,ah,af,ab,av,aw,az,U,V,Y,Z,ot sk.2,ot sp.2,dGt,decide_eq_true D,if_true]
 ·have D:¬z.2.2*bk.2.1<bk.2.2*z.2.1:=I
  rw[if_neg I];simp only[rg,sIf,sSet,sNil,fTst,fBin,fIxV,ixSl,fVar,fC,ah,af,ab,av,aw,az,U,V,Y,Z,ot sk.2,ot sp.2,dGt,decide_eq_false D,cr,if_false]
theorem zt3(ok:TurnsOk (gs n (t::ts)) (t::ts))(Y:∀x∈(gs n (t::ts)).flatten,f9 x)(j:(gs n (t::ts)).flatten.length<=14)(U V v2 S:et) :
  ∃I,forL 5 rg (rngD 0 n) [U,V,v2,↑(.sh (.lst ((kx n (t::ts)).map kD))),↑(.sh (.int 0)),S] =
   ↑(.nx,[U,V,v2,↑(.sh (.lst ((kx n (t::ts)).map kD))),↑(.sh (.int ((t.1-1:Nat):Int))),I]):=by
 have lo:=ok.lo t (by simp);rw[kn] at lo;have Z:t.1-1<n:=by lia
 obtain⟨e',h1,p,I,rfl,_,L,D⟩:=ny (i:=5) (g:=rg) (λk e=>∃(p:Nat) (S:et),e=[U,V,v2,↑(.sh (.lst ((kx n (t::ts)).map kD))),↑(.sh (.int (p:Int))),S]/\p<n/\(k<=t.1-1->p<=t.1-1/\(p<k\/p=0))/\(t.1-1<k->p=t.1-1))
  (rngD 0 n) [U,V,v2,↑(.sh (.lst ((kx n (t::ts)).map kD))),↑(.sh (.int 0)),S] ⟨0,S,rfl,by lia,λ_=>⟨eo _,.inr rfl⟩,λh=>absurd h (Nat.not_lt_zero _)⟩ (by
    rintro k d e a ⟨p,S,rfl,hpn,L,D⟩;obtain⟨rfl,l⟩:=nr a;have body:=zov (kx n (t::ts)) U V v2 k p _ _ (zl l) (zl hpn) (zw7 ok Y j k) (zw7 ok Y j p);refine⟨_,body,_,_,rfl,?_,λm=>?_,λb=>?_⟩
    ·split <;> lia
    ·have:=L (by lia)
     split
     ·exact⟨by lia,.inl (by lia)⟩
     ·exact⟨this.1,by lia⟩
    ·rcases Nat.lt_or_eq_of_le (Nat.le_of_lt_succ b) with hlt' |heq
     ·have c:=D hlt'
      subst c;rw[vg ok,if_neg (zrn ok Y k).1]
     ·have:=L (by lia)
      subst heq;rw[vg ok];by_cases f:p=t.1-1
      ·subst f
       rw[vg ok,if_neg (λz=>p5 z z)]
      ·rw[if_pos ((zrn ok Y p).2 (by lia))])
 rw[n4] at D;have c:=D Z;subst c;exact⟨I,h1⟩
noncomputable def zlr:FT:=fTst (fBin dGt (e8 bSum (bx (fLst (iw (fiV 1) [] fYes (g5 0))) (fNil))) (fC (.int 0)))
theorem zm2(ok:TurnsOk (gs n (t::ts)) (t::ts))(f:∀x∈(gs n (t::ts)).flatten,f9 x)(g:(gs n (t::ts)).flatten.length<=14)(F:n<=1000)(V i k h:et)(M:em)(G:M.length<=1000) :
  ∃l m Y,we [V,↑(.ow ((gs n (t::ts)).map λs=>D.lst (s.map sD))),↑(.ow M),i,k,h]=↑(.nx,[V,↑(.ow ((gs n ts).map λs=>D.lst (s.map sD))),↑(.ow (M++[tnD t])),l,m,Y]):=by
 have lo:=ok.lo t (by simp);rw[kn] at lo;have c:=ku (te:=e8 vq (bx (fVar 0) (fNil))) (base:=[]) (λj:Nat=>D.lst ((ofS (t::ts) j).flatten.map sD)) (λj:Nat=>kD (hT (ofS (t::ts) j))) (List.range n) (λj U=>by
  have U:j<n:=cy.mp U;have o:=zt2 (ofS (t::ts) j) (zw6 ok.srt) (λr p=>ok.good _ (yt p)) (λx q=>f x (zm1 U x q)) (bi (zou U) g);refine⟨[↑(.sh (.lst ((ofS (t::ts) j).flatten.map sD)))],?_⟩;simp only[e8,bx,fVar,fNil,ah,ab,o,av])
 have u:(List.range n).map (λj:Nat=>kD (hT (ofS (t::ts) j)))=(kx n (t::ts)).map kD:=by unfold kx;rw[dn];rfl
 rw[u,<-zm0] at c;obtain⟨Y,v⟩:=zt3 ok f g V ↑(.ow ((gs n (t::ts)).map λs=>D.lst (s.map sD))) ↑(.ow M) h;have Z:atI ((kx n (t::ts)).map kD) ((t.1-1:Nat):Int)=↑(kD (blk t.2)):=by
  rw[<-vg ok];exact j1 kD (zl (by lia))
 have L:=zmz (ts:=ts) lo.1 lo.2;have S:=zku (ts:=ts) lo.1 lo.2;have a:atI ((gs n (t::ts)).map λs=>D.lst (s.map sD)) ((t.1-1:Nat):Int)=↑(.lst ((t.2++(ofS ts (t.1-1)).flatten).map sD)):=j1 (λs:ez=>D.lst (s.map sD)) L;have z:=zot (t.2.map sD) ((ofS ts (t.1-1)).flatten.map sD);rw[<-b7,ac] at z;have b:ixN ((gs n (t::ts)).map λs=>D.lst (s.map sD)).length ((t.1-1:Nat):Int)=↑(t.1-1):=by
  rw[p6 (by lia) (by rw[ac,kn];lia)];congr 1
 have I:((gs n (t::ts)).map λs=>D.lst (s.map sD)).set (t.1-1) (.lst ((ofS ts (t.1-1)).flatten.map sD))=(gs n ts).map λs=>D.lst (s.map sD):=by
  rw[S,List.map_set]
 have w:Few ((gs n (t::ts)).map λs=>D.lst (s.map sD)).length:=few (by rw[ac,kn];lia);have d:Few (M.length+1):=few (by lia);have hi:iR1 [.int (((kx n (t::ts)).map kD).length:Int)]=↑(rngD 0 n):=by
  rw[ac,show(kx n (t::ts)).length=n by simp[kx]];exact md n (by lia)
 have y:((t.1-1:Nat):Int)+1=(t.1:Int):=by lia
 generalize ((kx n (t::ts)).map kD)=HL at *;generalize A:((t.1-1:Nat):Int)=pp at *;have B:dIx (kD (blk t.2)) (.int 0)=↑(.int (t.2.length:Int)):=rfl;have C:dIx (kD (blk t.2)) (.int 1)=↑(.int (hrs t.2)):=rfl;have E:dIx (kD (blk t.2)) (.int 2)=↑(.int (lss t.2)):=rfl;have e:D.tup [.int (t.1:Int),.int (t.2.length:Int),.int (hrs t.2),.int (lss t.2)]=tnD t:=rfl;refine⟨↑(.sh (.lst HL)),↑(.sh (.int pp)),Y,?_⟩;simp only[we,sSeq,sSet,sFor,jm,zri,zwi,fLst,iw,fiV,gy,bx,fNil,g5,fC,ky,pd,fTup,fBin,gq,fIxV,ixSl,fVar,fSl,fO0,fO1,ah,af,ab,av,aw,az,dm,w,d,if_true,c,hi,v,Z,B,C,E,y,e,a,z,b,I,am,cx,show(0+1+1+1+1<=64)=True by simp]
theorem zhg{n:Nat}(u:n<=1000)(U:et):∀(ts:fk) (z:Nat) (V Y Z:et) (M:em),ts.length<z->M.length+ts.length<=1000->TurnsOk (gs n ts) ts->(∀x∈(gs n ts).flatten,f9 x)->(gs n ts).flatten.length<=14 ->
  ∃d g i j,ke zlr we z [U,↑(.ow ((gs n ts).map λs=>D.lst (s.map sD))),↑(.ow M),V,Y,Z]=↑(.nx,[U,d,↑(.ow (M++ts.map tnD)),g,i,j])
 |_,0,_,_,_,_,h,_,_,_,_=>by lia |ts,f+1,V,Y,Z,M,h,hM,ok,hg,hl=>by
   have c:=ku (te:=g5 0) (base:=[]) (λs:ez=>D.lst (s.map sD)) (λs:ez=>D.int (s.length:Int)) (gs n ts) λs _=>⟨_,by simp;rfl⟩;have v:=sf (λs:ez=>(s.length:Int)) (gs n ts);have y:Few ((gs n ts).map λs=>D.lst (s.map sD)).length:=few (by rw[ac,kn];lia);have b:((gs n ts).map λs:ez=>(s.length:Int)).sum=((ts.map (·.2)).flatten.length:Int):=by
    have e:∀l:fh,(l.map λs:ez=>(s.length:Int)).sum=(l.flatten.length:Int):=λl=>by
     induction l with
     |nil=>rfl |cons a l k=>rw[bh,dw,k,bw,aj];lia
    rw[e,ok.perm.length_eq]
   rw[b] at v;have A:zlr [U,↑(.ow ((gs n ts).map λs=>D.lst (s.map sD))),↑(.ow M),V,Y,Z]=↑(decide (0<((ts.map (·.2)).flatten.length:Int)),[U,↑(.ow ((gs n ts).map λs=>D.lst (s.map sD))),↑(.ow M),V,Y,Z]):=by
    unfold zlr;generalize ((gs n ts).map λs=>D.lst (s.map sD))=L at *;simp[iw,fiV,y,c,v]
   unfold ke;rw[A,ab];dsimp only;cases ts with
   |nil =>
     rw[if_neg (by simp)];exact⟨↑(.ow ((gs n []).map λs=>D.lst (s.map sD))),V,Y,Z,by rw[dm,ce]⟩
   |cons t ts =>
     have w:0<t.2.length:=gw.mpr (ok.good t (by simp)).ne;rw[if_pos (by simp[decide_eq_true_eq];lia)];obtain⟨g,i,j,S⟩:=zm2 ok hg hl u U V Y Z M (by simp at hM;lia);rw[S,ab];dsimp only;have m:=ok.tail;have lo:=ok.lo t (by simp);rw[kn] at lo;have I:(t.2++(gs n ts).flatten).Perm (gs n (t::ts)).flatten:=by
      rw[zjz lo.1 lo.2];exact(zm (mq (by lia))).symm
     have o:=I.length_eq;rw[aj] at o;obtain⟨d,p,q,r,k⟩:=zhg u U ts f g i j (M++[tnD t]) (by simp at h;lia) (by simp at hM ⊢;lia) m (λx B=>hg x (I.mem_iff.mp (bq _ B))) (by lia);exact⟨d,p,q,r,by rw[k];simp⟩
theorem zqx(ok:TurnsOk ss ts)(I:∀x∈ss.flatten,f9 x)(S:ss.flatten.length<=14)(d:ss.length<=900):zex [ssL ss]=↑(.lst (ts.map tnD)):=by
 have U:=ok.len;have z:=ok.left;have c:=ku (te:=fLst (gy oh (bx (fVar 0) (fNil)))) (base:=[]) (λs:ez=>D.lst (s.map sD)) (λs:ez=>D.lst (s.map sD)) ss λs _=>⟨_,by simp;rfl⟩;have V:Few (ss.map λs=>D.lst (s.map sD)).length:=few (by rw[ac];lia);obtain⟨Y,Z,a,b,h⟩:=zhg (n:=ss.length) (by lia) ↑(.sh (ssL ss)) ts 10000 none none none [] (by lia) (by simp;lia) (by rw[z];exact ok) (by rw[z];exact I) (by rw[z];exact S);rw[z,ng] at h;refine jv (e':=[↑(.sh (ssL ss)),Y,↑(.sh (.lst (ts.map tnD))),Z,a,b]) rfl ?_;show zew [↑(.sh (.lst (ss.map λs=>D.lst (s.map sD)))),none,none,none,none,none]=_;unfold zlr ssL at h;unfold ssL;generalize (ss.map λs=>D.lst (s.map sD))=L at *;simp[zew,iw,V,c,h]
def iu(ts:fk):cd:=(ts.map λt=>List.replicate t.2.length t.1).flatten
def iD(ns:cd):em:=ns.map λn:Nat=>D.int (n:Int)
def nv(a b:fk):iu (a++b)=iu a++iu b:=by simp[iu]
def p7(t:Tn):iu [t]=List.replicate t.2.length t.1:=by simp[iu]
def zj0(ts:fk):(iu ts).length=(ts.map (·.2)).flatten.length:=by
 induction ts with
 |nil=>rfl |cons t ts ih =>
   rw[show t::ts=[t]++ts from rfl,nv,p7,aj,fq,ih];simp
def zow(d:D)(k:Nat):(List.replicate k [d]).flatten=List.replicate k d:=by simp_all
def zro(a b:cd):iD (a++b)=iD a++iD b:=by simp[iD]
def zrp(k a:Nat):iD (List.replicate k a)=List.replicate k (.int (a:Int)):=by simp[iD]
def zrq(a:cd):(iD a).length=a.length:=by simp[iD]
theorem bndN(k:Nat)(h:k<=1000000):Bnd (-(2 ^ 62)) (2 ^ 62) (k:Int):=⟨by lia,by lia⟩
theorem zt4(ok:TurnsOk ss ts)(S:∀x∈ss.flatten,f9 x)(L:ss.flatten.length<=14)(U:ss.length<=900):zko [ssL ss]=↑(iD (iu ts)):=by
 have V:=zqx ok S L U;have z:(iu ts).length<=14:=by rw[zj0,ok.perm.length_eq];exact L
 obtain⟨e',h1,v2,rfl⟩:=p8 (i:=2) (g:=zeb) tnD (λp e=>∃v2,e=[↑(.sh (ssL ss)),↑(.ow (iD (iu p))),v2]) ts
  [↑(.sh (ssL ss)),↑(.ow []),none] ⟨none,rfl⟩ (by
   rintro p t q e I ⟨v2,rfl⟩;have Y:(iu p).length+t.2.length<=14:=by
    rw[I,nv,show t::q=[t]++q from rfl,nv,p7] at z;simp at z
    lia
   have Z:Few (1*t.2.length):=few (by lia);have a:Few ((iD (iu p)).length+(List.replicate t.2.length (D.int (t.1:Int))).length):=few (by rw[zrq,fq];lia);have b:=bndN t.2.length (by lia);have c:iD (iu p)++List.replicate t.2.length (D.int (t.1:Int))=iD (iu (p++[t])):=by rw[nv,p7,zro,zrp]
   refine⟨[↑(.sh (ssL ss)),↑(.ow (iD (iu (p++[t])))),↑(.sh (tnD t))],?_,_,rfl⟩;rw[<-c];unfold tnD;simp only[zeb,sOwn,fCat,fVar,fLst,fRep,gm,bx,fIxV,ixSl,fC,fNil,ah,af,ab,av,aw,az,zye,zyf,am,cx,show(0+1<=64)=True by simp,if_true,fz,iz,Z,b,and_self,zow,a])
 refine yu (e':=[↑(.sh (ssL ss)),↑(.ow (iD (iu ts))),v2]) rfl ?_;show zx [↑(.sh (ssL ss)),none,none]=_;simp[zx,V,h1]
theorem zir(ok:TurnsOk ss ts)(U:t6 [ssL ss]=↑(.lst (ts.map tnD)))(Z:ss.flatten.length<=14):zev [ssL ss]=↑(iD (iu ts)):=by
 have z:(iu ts).length<=14:=by rw[zj0,ok.perm.length_eq];exact Z
 obtain⟨e',h1,v2,I,L,S,rfl⟩:=tq (ix:=[2,3,4,5]) (g:=wf) (λt:Tn=>[D.int (t.1:Int),.int (t.2.length:Int),.int (hrs t.2),.int (lss t.2)]) (λp e=>∃v2 I L S,e=[↑(.sh (ssL ss)),↑(.ow (iD (iu p))),v2,I,L,S]) ts
  [↑(.sh (ssL ss)),↑(.ow []),none,none,none,none] ⟨none,none,none,none,rfl⟩ (λ_ _=>rfl) (by
   rintro p t q e V ⟨v2,I,L,S,rfl⟩;have a:(iu p).length+t.2.length<=14:=by
    rw[V,nv,show t::q=[t]++q from rfl,nv,p7] at z;simp at z
    lia
   have b:Few (1*t.2.length):=few (by lia);have c:Few ((iD (iu p)).length+(List.replicate t.2.length (D.int (t.1:Int))).length):=few (by rw[zrq,fq];lia);have d:=bndN t.2.length (by lia);have f:iD (iu p)++List.replicate t.2.length (D.int (t.1:Int))=iD (iu (p++[t])):=by rw[nv,p7,zro,zrp]
   refine⟨[↑(.sh (ssL ss)),↑(.ow (iD (iu (p++[t])))),↑(.sh (.int (t.1:Int))),↑(.sh (.int (t.2.length:Int))),↑(.sh (.int (hrs t.2))),↑(.sh (.int (lss t.2)))],?_,_,_,_,_,rfl⟩;rw[<-f];simp only[oy,wf,jm,q9,um,fRep,gm,bx,fVar,fNil,ah,af,ab,av,aw,az,am,cx,show(0+1<=64)=True by simp,if_true,fz,iz,b,d,and_self,zow,c])
 refine yu (e':=[↑(.sh (ssL ss)),↑(.ow (iD (iu ts))),v2,I,L,S]) rfl ?_;show zeu [↑(.sh (ssL ss)),none,none,none,none,none]=_;have Y:forU [2,3,4,5] wf (ts.map tnD) [↑(.sh (ssL ss)),↑(.ow []),none,none,none,none]=_:=h1;simp[zeu,U,Y]
structure Whole (ss:fh) (os:cd):Prop where
 lo:∀a∈os,1<=a/\a<=ss.length
 cnt:∀(j:Nat) (s:ez),ss[j]?=↑s->os.count (j+1)=s.length
variable{os:cd}
def Whole.perm{z:cd}(h:Whole ss os)(p:os.Perm z):Whole ss z :=
 ⟨λa D=>h.lo a (p.mem_iff.mpr D),λj s I=>by rw[<-p.count_eq];exact h.cnt j s I⟩
theorem zox(m:Nat):∀n:Nat,((List.range n).map λj=>if j=m then 1 else 0).sum=if m<n then 1 else 0
 |0=>by simp |n+1=>by
   rw[fu,b7,List.sum_append,zox m n];simp only[bh,dm,dw,List.sum_nil];by_cases h1:m<n
   ·rw[if_pos h1,if_neg (by lia),if_pos (by lia)];rfl
   ·rw[if_neg h1]
    by_cases h2:n=m
    ·rw[if_pos h2,if_pos (by lia)];rfl
    ·rw[if_neg h2,if_neg (by lia)];rfl
theorem zoy{α:Type}(f g:α->Nat):∀l:List α,(l.map λx=>f x+g x).sum=(l.map f).sum+(l.map g).sum
 | []=>rfl |x::l=>by
   simp[dw,zoy f g l]
   lia
theorem zoz(n:Nat):∀(p:cd),(∀a∈p,1<=a/\a<=n)->((List.range n).map λj=>p.count (j+1)).sum=p.length
 | [],_=>by
   have:∀l:cd,(l.map λj=>([]:cd).count (j+1)).sum=0:=λl=>by
    induction l with
    |nil=>rfl |cons a l z=>rw[bh,dw,z];rfl
   rw[this];rfl
 |a::p,h=>by
   have z:=zoz n p λb I=>h b (ai _ I);have L:=h a au;have e:(λj=>(a::p).count (j+1))=λj=>p.count (j+1)+if j=a-1 then 1 else 0:=by
    funext j;rw[jp];by_cases D:j=a-1
    ·rw[if_pos D,if_pos (by simp;lia)]
    ·rw[if_neg D,if_neg (by simp;lia)]
   rw[e,zoy,z,zox,if_pos (by lia),am]
def zqy(ss:fh):((List.range ss.length).map λj=>(ss.getD j []).length).sum=ss.flatten.length:=by
 have:(List.range ss.length).map (λj=>(ss.getD j []).length)=ss.map List.length:=by
  apply fx;intro i;by_cases h:i<ss.length
  ·simp[h]
  ·simp[h]
 rw[this,d8]
def Whole.len(h:Whole ss os):os.length=ss.flatten.length:=by
 rw[<-zoz ss.length os h.lo,<-zqy];congr 1;apply e9;intro j z;have z:j<ss.length:=cy.mp z;rw[h.cnt j ss[j] (by simp[z])];simp[z]
def va{P:List α->Prop}(z:P [])(D:∀p a,P p->P (p++[a]))(p:List α):P p:=by
 have:∀l:List α,P l.reverse:=λl=>by
  induction l with
  |nil=>exact z |cons a l ih=>rw[ja];exact D _ _ ih
 rw[<-j7 p];exact this _
def li(ss:fh)(a c:Nat):Sk:=(ss.getD (a-1) []).getD c (0,0,0)
def tk(ss:fh)(os:cd):ez:=(List.range os.length).map λi=>li ss (os.getD i 0) ((os.take i).count (os.getD i 0))
theorem p4(ss:fh)(p:cd)(a:Nat):tk ss (p++[a])=tk ss p++[li ss a (p.count a)]:=by
 unfold tk;rw[aj,cu,fu,b7];congr 1
 ·apply e9
  intro i hi;have hi:i<p.length:=cy.mp hi;have z:(p++[a]).getD i 0=p.getD i 0:=by
   rw[ae,ae,b9 hi]
  rw[z,ip (by lia)]
 ·have z:(p++[a]).getD p.length 0=a:=by simp
  simp only[bh,dm];rw[z,j6]
def yh(ss:fh)(os:cd):(tk ss os).length=os.length:=by simp[tk]
theorem Whole.at{ss:fh}{p q:cd}{a:Nat}(h:Whole ss (p++a::q)):∃s,ss[a-1]?=↑s/\p.count a<s.length/\s[p.count a]?=↑(li ss a (p.count a))/\1<=a/\a<=ss.length:=by
 obtain⟨h1,h2⟩:=h.lo a (by simp);have z:a-1<ss.length:=by lia
 have I:=h.cnt (a-1) ss[a-1] (by simp[z]);rw[show a-1+1=a by lia,ig,fy] at I;have D:p.count a<ss[a-1].length:=by lia
 refine⟨ss[a-1],by simp[z],D,?_,h1,h2⟩;unfold li;simp[z,D]
def Whole.mem(h:Whole ss os):∀(p:cd),∀(q:cd),os=p++q->∀x∈tk ss p,x∈ss.flatten:=by
 apply va
 ·intro q _ x hx
  simp[tk] at hx
 ·intro p a I q D x hx
  rw[p4] at hx;rcases cw.mp hx with hx |hx
  ·exact I (a::q) (by rw[D];simp) x hx
  ·rw[D,cb,du] at h
   obtain⟨s,L,S,z,_⟩:=h.at;have e:x=li ss a (p.count a):=by simpa using hx
   subst e;exact cj.mpr ⟨s,bn L,bn z⟩
def Whole.sk(h:Whole ss os):∀x∈tk ss os,x∈ss.flatten:=h.mem os [] (by simp)
theorem zls(ts:fk)(j:Nat):(iu ts).count (j+1)=(ofS ts j).flatten.length:=by
 induction ts with
 |nil=>simp[iu,ofS] |cons t ts ih =>
   rw[show t::ts=[t]++ts from rfl,nv,p7,ig,ih];by_cases e:t.1=j+1
   ·rw[du,t0 t ts j e,bw,aj,e,List.count_replicate_self]
   ·rw[du,zw t ts j e,List.count_replicate,if_neg (by simpa using e)]
    lia
def TurnsOk.whole(ok:TurnsOk ss ts):Whole ss (iu ts):=by
 refine⟨λa D=>?_,λj s I=>?_⟩
 ·obtain⟨l,L,z⟩:=cj.mp D
  obtain⟨t,S,rfl⟩:=bj.mp L;rw[List.eq_of_mem_replicate z];exact ok.lo t S
 ·rw[zls,ok.part j s I]
def cntD(n:Nat)(f:Nat->Int):em:=(List.range n).map λj=>D.int (f j)
def zb(n:Nat)(f:Nat->Int):(cntD n f).length=n:=by simp[cntD]
def zo1(n:Nat)(f:Nat->Int)(j:Nat)(h:j<n):atI (cntD n f) (j:Int)=↑(.int (f j)):=j1 (λj:Nat=>D.int (f j)) (by simp[h])
def zlt(n:Nat)(f g:Nat->Int)(j:Nat)(h:∀i,i<n->i≠j->g i=f i):(cntD n f).set j (.int (g j))=cntD n g:=by
 apply fx;intro i;unfold cntD;rw[jc];by_cases hi:i<n
 ·by_cases e:j=i
  ·subst e;simp[hi]
  ·rw[if_neg e]
   simp[hi,h i hi (Ne.symm e)]
 ·by_cases e:j=i
  ·subst e;simp[hi]
  ·rw[if_neg e];simp[hi]
def zlu(n:Nat)(f:Nat->Int)(j:Nat)(h:j<n):(cntD n f)[j]?=↑(.int (f j)):=by simp[cntD,h]
def yr(h:ds.length=ar)(z:g (jf n ds)=↑(.nx,e')):runD n ar g ds=some .non:=by
 unfold runD;rw[if_pos h,z]
theorem zhr(S:1<=a)(U:a<=ss.length):zed [ssL ss,.int (a:Int)]=some .non:=by
 have z:decide ((a:Int)<1)=false:=by simp;lia
 have I:decide (((ss.map λs=>D.lst (s.map sD)).length:Int)<(a:Int))=false:=by rw[ac];simp;lia
 refine yr (e':=[↑(.sh (ssL ss)),↑(.sh (.int (a:Int)))]) rfl ?_;show zec [↑(.sh (ssL ss)),↑(.sh (.int (a:Int)))]=_;unfold ssL;generalize (ss.map λs=>D.lst (s.map sD))=L at *;simp only[zec,sIf,sNil,fOr,fTst,fBin,fVar,fC,g5,dLt,dGt,ah,af,ab,av,aw,az,z,I,cr,if_false]
def lenF(ss:fh)(p:cd)(j:Nat):Int:=((ss.getD j []).length:Int)-(p.count (j+1):Int)
def zqz(ss:fh):(ss.map λs=>D.int (s.length:Int))=cntD ss.length (lenF ss []):=by
 apply fx;intro i;unfold cntD lenF;by_cases h:i<ss.length
 ·simp[h]
 ·simp[h]
def zo2(ss:fh):j0 fYes (g5 0) [] (ss.map λs=>D.lst (s.map sD))=↑(cntD ss.length (lenF ss [])):=by
 rw[<-zqz];exact ku (te:=g5 0) (base:=[]) (λs:ez=>D.lst (s.map sD)) (λs:ez=>D.int (s.length:Int)) ss λs _=>⟨_,by simp;rfl⟩
def t4(p:cd)(a b:Nat):(p++[a]).count b=p.count b+if a=b then 1 else 0:=by
 by_cases h:a=b
 ·simp[h]
 ·simp[h]
theorem zo3(ss:fh)(p:cd)(a:Nat)(h1:1<=a):lenF ss (p++[a]) (a-1)=lenF ss p (a-1)-1/\∀i,i≠a-1->lenF ss (p++[a]) i=lenF ss p i:=by
 unfold lenF;refine⟨?_,λi hi=>?_⟩
 ·rw[t4,if_pos (by lia)];lia
 ·rw[t4,if_neg (by lia)];lia
def zm3(h:Whole ss os)(j:Nat)(z:j<ss.length):lenF ss os j=0:=by
 unfold lenF;rw[h.cnt j ss[j] (by simp[z])];simp[z]
variable{p:cd}
theorem zq0(h:Whole ss (p++a::q)):0<lenF ss p (a-1):=by
 obtain⟨s,z,D,_,h1,h2⟩:=h.at;unfold lenF;rw[show a-1+1=a by lia,ae,z];simp
 lia
def zo4(n:Nat)(f:Nat->Int):ints? (cntD n f)=↑((List.range n).map f):=by
 have:cntD n f=((List.range n).map f).map D.int:=by unfold cntD;rw[dn];rfl
 rw[this,ints_of]
theorem zlv(f:Nat->Int):∀n:Nat,(∀j,j<n->f j=0)->((List.range n).map f).sum=0
 |0,_=>rfl |n+1,h=>by
   rw[fu,b7,List.sum_append,zlv f n λj z=>h j (by lia)];simp[h n (by lia)]
theorem zhs(h:Whole ss os)(u:ss.length<=1000):zef [ssL ss,.lst (iD os)]=some .non:=by
 obtain⟨e',h1,V,rfl⟩:=p8 (i:=3) (g:=wq) (λa:Nat=>D.int (a:Int)) (λp e=>∃V,e=[↑(.sh (ssL ss)),↑(.sh (.lst (iD os))),↑(.ow (cntD ss.length (lenF ss p))),V]) os
  [↑(.sh (ssL ss)),↑(.sh (.lst (iD os))),↑(.ow (cntD ss.length (lenF ss []))),none] ⟨none,rfl⟩ (by
   rintro p a q e Y ⟨V,rfl⟩;have d:Whole ss (p++a::q):=by rw[<-Y];exact h
   obtain⟨s,v,f,_,k,w⟩:=d.at;have x:=zq0 d;obtain⟨l,m⟩:=zo3 ss p a k;have Z:(a:Int)-1=((a-1:Nat):Int):=by lia
   have b:=zo1 ss.length (lenF ss p) (a-1) (by lia);have S:=zlu ss.length (lenF ss p) (a-1) (by lia);have z:=zlt ss.length (lenF ss p) (lenF ss (p++[a])) (a-1) (λi _ hi=>m i hi);rw[l] at z;have n:decide (lenF ss p (a-1)=0)=false:=by simp;lia
   have c:a-1<(cntD ss.length (lenF ss p)).length:=by rw[zb];lia
   have o:(0:Int)<=((a-1:Nat):Int):=by lia
   refine⟨[↑(.sh (ssL ss)),↑(.sh (.lst (iD os))),↑(.ow (cntD ss.length (lenF ss (p++[a])))),↑(.sh (.int (a:Int)))],?_,_,rfl⟩;rw[<-z];generalize cntD ss.length (lenF ss p)=L at *;simp only[wq,sSeq,sIf,sNil,ox,uo,fTst,fBin,fIxV,ixSl,fVar,fC,dSub,dEq,ah,af,ab,av,aw,az,Z,b,n,cr,if_false,o,if_true,fz,S,c])
 have Z:((List.range ss.length).map (lenF ss os)).sum=0:=zlv _ _ λj r=>zm3 h j r;have I:=zo4 ss.length (lenF ss os);have f:=zo2 ss;have t:Few (ss.map λs=>D.lst (s.map sD)).length:=few (by rw[ac];lia);refine yr (e':=[↑(.sh (ssL ss)),↑(.sh (.lst (iD os))),↑(.ow (cntD ss.length (lenF ss os))),V]) rfl ?_;show zee [↑(.sh (ssL ss)),↑(.sh (.lst (iD os))),none,none]=_;have U:forL 3 wq (iD os) [↑(.sh (ssL ss)),↑(.sh (.lst (iD os))),↑(.ow (cntD ss.length (lenF ss []))),none]=_:=h1;unfold ssL at U ⊢;generalize iD os=O at *;generalize (ss.map λs=>D.lst (s.map sD))=L at *;simp[zee,iw,ul,t,f,U,I,Z,Int.lt_irrefl]
def zht(h:Whole ss os)(L:ss.length<=1000):zeh [ssL ss,.lst (iD os)]=some .non:=by
 obtain⟨e',h1,v2,rfl⟩:=p8 (i:=2) (g:=wp) (λa:Nat=>D.int (a:Int)) (λp e=>∃v2,e=[↑(.sh (ssL ss)),↑(.sh (.lst (iD os))),v2]) os
  [↑(.sh (ssL ss)),↑(.sh (.lst (iD os))),none] ⟨none,rfl⟩ (by
   rintro p a q e z ⟨v2,rfl⟩;obtain⟨S,U⟩:=h.lo a (by rw[z];simp);have V:=zhr (ss:=ss) S U;simp[wp,V])
 have h2:=zhs h L;refine yr (e':=[↑(.sh (ssL ss)),↑(.sh (.lst (iD os))),v2]) rfl ?_;show zeg [↑(.sh (ssL ss)),↑(.sh (.lst (iD os))),none]=_;have I:forL 2 wp (iD os) [↑(.sh (ssL ss)),↑(.sh (.lst (iD os))),none]=_:=h1;generalize iD os=O at *;simp[zeg,I,h2]
def cntF(p:cd)(j:Nat):Int:=(p.count (j+1):Int)
theorem zo5(p:cd)(a:Nat)(h1:1<=a):cntF (p++[a]) (a-1)=cntF p (a-1)+1/\∀i,i≠a-1->cntF (p++[a]) i=cntF p i:=by
 unfold cntF;refine⟨?_,λi hi=>?_⟩
 ·rw[t4,if_pos (by lia)];lia
 ·rw[t4,if_neg (by lia)];lia
def zm4(ss:fh):j0 fYes (fC (.int 0)) [] (ss.map λs=>D.lst (s.map sD))=↑(cntD ss.length (cntF [])):=by
 rw[ku (te:=fC (.int 0)) (base:=[]) (λs:ez=>D.lst (s.map sD)) (λs:ez=>D.int 0) ss λs _=>⟨_,by simp;rfl⟩];congr 1;apply fx;intro i;unfold cntD cntF;by_cases h:i<ss.length
 ·simp[h]
 ·simp[h]
theorem zw8(L:Whole ss (p++a::q)) :
  (a:Int)-1=((a-1:Nat):Int)/\atI (cntD ss.length (cntF p)) ((a-1:Nat):Int)=↑(.int (p.count a:Int))/\(cntD ss.length (cntF p))[a-1]?=↑(.int (p.count a:Int)) /\
    (cntD ss.length (cntF p)).set (a-1) (.int ((p.count a:Int)+1))=cntD ss.length (cntF (p++[a]))/\a-1<(cntD ss.length (cntF p)).length/\ixN (cntD ss.length (cntF p)).length ((a-1:Nat):Int)=↑(a-1) /\
    ∃s:ez,atI (ss.map λs=>D.lst (s.map sD)) ((a-1:Nat):Int)=↑(.lst (s.map sD))/\atI (s.map sD) (p.count a:Int)=↑(sD (li ss a (p.count a))):=by
 obtain⟨s,S,b,U,V,c⟩:=L.at;obtain⟨Y,Z⟩:=zo5 p a V;have I:cntF p (a-1)=(p.count a:Int):=by unfold cntF;rw[show a-1+1=a by lia]
 have z:=zlt ss.length (cntF p) (cntF (p++[a])) (a-1) (λi _ hi=>Z i hi);rw[Y,I] at z;refine⟨by lia,?_,?_,z,by rw[zb];lia,?_,s,j1 (λs:ez=>D.lst (s.map sD)) S,j1 sD U⟩
 ·rw[zo1 _ _ _ (by lia),I]
 ·rw[zlu _ _ _ (by lia),I]
 ·rw[p6 (by lia) (by rw[zb];lia)]
  congr 1
theorem zfe(h:Whole ss os)(l:ss.length<=1000)(k:os.length<=1000):vy [ssL ss,.lst (iD os)]=↑(.lst ((tk ss os).map sD)):=by
 obtain⟨e',h1,Z,rfl⟩:=p8 (i:=4) (g:=wo) (λa:Nat=>D.int (a:Int)) (λp e=>∃Z,e=[↑(.sh (ssL ss)),↑(.sh (.lst (iD os))),↑(.ow (cntD ss.length (cntF p))),↑(.ow ((tk ss p).map sD)),Z]) os
  [↑(.sh (ssL ss)),↑(.sh (.lst (iD os))),↑(.ow (cntD ss.length (cntF []))),↑(.ow []),none] ⟨none,rfl⟩ (by
   rintro p a q e z ⟨Z,rfl⟩;have m:Whole ss (p++a::q):=by rw[<-z];exact h
   obtain⟨n,b,I,U,c,o,s,d,f⟩:=zw8 m;have j:Few (((tk ss p).map sD).length+1):=few (by rw[ac,yh];rw[z] at k;simp at k;lia);have r:(0:Int)<=((a-1:Nat):Int):=by lia
   have t:dIx (.lst (s.map sD)) (.int (p.count a:Int))=↑(sD (li ss a (p.count a))):=f;refine⟨[↑(.sh (ssL ss)),↑(.sh (.lst (iD os))),↑(.ow (cntD ss.length (cntF (p++[a])))),↑(.ow ((tk ss (p++[a])).map sD)),↑(.sh (.int (a:Int)))],?_,_,rfl⟩;rw[<-U,p4,b7,bh,dm];unfold ssL;generalize (tk ss p).map sD=M at *;generalize s.map sD=S at *;simp only[wo,sSeq,jm,ox,uo,ky,pd,fBin,fIxV,ixSl,fVar,fC,dSub,gq,ah,af,ab,av,aw,az,n,b,d,t,j,r,if_true,fz,I,c])
 have V:=zht h l;have u:=zm4 ss;have j:Few (ss.map λs=>D.lst (s.map sD)).length:=few (by rw[ac];lia);refine jv (e':=[↑(.sh (ssL ss)),↑(.sh (.lst (iD os))),↑(.ow (cntD ss.length (cntF os))),↑(.sh (.lst ((tk ss os).map sD))),Z]) rfl ?_;show zei [↑(.sh (ssL ss)),↑(.sh (.lst (iD os))),none,none,none]=_;have Y:forL 4 wo (iD os) [↑(.sh (ssL ss)),↑(.sh (.lst (iD os))),↑(.ow (cntD ss.length (cntF []))),↑(.ow []),none]=_:=h1;unfold ssL at Y V ⊢;generalize (ss.map λs=>D.lst (s.map sD))=L at *;simp[zei,iw,V,j,u,Y]
def lf(h:Int):List (Nat×Sk)->List ci
 | []=>[] |x::r=>[x.2.1,(x.1:Int),h,h+x.2.2.1]::lf (h+x.2.2.1) r
def lp(x:Sk)(r:ez):hrs (x::r)=x.2.1+hrs r:=rfl
def m7(x:Sk)(r:ez):lss (x::r)=x.2.2+lss r:=rfl
def zh7(x:Nat×Sk):∀(p:List (Nat×Sk)) (h:Int),lf h (p++[x])=lf h p++[[x.2.1,(x.1:Int),h+hrs (p.map (·.2)),h+hrs (p.map (·.2))+x.2.2.1]]
 | [],h=>by simp[lf,hrs] |y::p,h=>by
   rw[fg,lf,lf,zh7 x p,bh,lp];rw[<-km];rfl
def gf(h:Int):ez->Int
 | []=>0 |x::r=>x.2.2*(h+x.2.1)+gf (h+x.2.1) r
theorem zp(x:Sk):∀(p:ez) (h:Int),gf h (p++[x])=gf h p+x.2.2*(h+hrs p+x.2.1)
 | [],h=>by simp[gf,hrs] |y::p,h=>by
   rw[fg,gf,gf,zp x p,lp,<-km h]
   lia
def zlw(x:Sk):ub [sD x]=↑(.int x.2.1):=rfl
def zt5(x:Sk):wc [sD x]=↑(.int x.2.2):=rfl
def zo6(x:Sk):zfw [sD x]=↑(.int x.1):=rfl
def zj1:∀(p:List (Nat×Sk)) (h:Int),(lf h p).length=p.length
 | [],_=>rfl |x::p,h=>by rw[lf,am,am,zj1 p]
theorem zq1(h:Whole ss os)(V:ss.length<=1000)(d:os.length<=900):zjv [ssL ss,.lst (iD os)]=↑(.lst ((lf 0 (os.zip (tk ss os))).map iT)):=by
 have Y:=zfe h V (by lia);obtain⟨e',h1,z,I,L,S,rfl,rfl⟩:=tq (ix:=[4,5]) (g:=zds) (λx:Nat×Sk=>[D.int (x.1:Int),sD x.2])
  (λp e=>∃z I L S,e=[↑(.sh (ssL ss)),↑(.sh (.lst (iD os))),↑(.ow ((lf 0 p).map iT)),z,I,L,S]/\z=↑(.sh (.int (hrs (p.map (·.2)))))) (os.zip (tk ss os))
  [↑(.sh (ssL ss)),↑(.sh (.lst (iD os))),↑(.ow []),↑(.sh (.int 0)),none,none,none] ⟨_,none,none,none,rfl,rfl⟩ (λ_ _=>rfl) (by
   rintro p x q e U ⟨z,I,L,S,rfl,rfl⟩;have Z:Few (((lf 0 p).map iT).length+1):=few (by
    rw[ac,zj1];have:=congrArg List.length U;simp[List.length_zip] at this
    lia)
   have a:iT [x.2.1,(x.1:Int),0+hrs (p.map (·.2)),0+hrs (p.map (·.2))+x.2.2.1]=.tup [.int x.2.1,.int (x.1:Int),.int (hrs (p.map (·.2))),.int (hrs (p.map (·.2))+x.2.2.1)]:=by simp[iT]
   have b:hrs ((p++[x]).map (·.2))=hrs (p.map (·.2))+x.2.2.1:=by rw[b7,kt];simp[hrs]
   rw[zh7,b7,bh,dm,a,b];generalize (lf 0 p).map iT=M at *;simp[oy,zds,zlw,zo6,Z])
 refine jv (e':=[↑(.sh (ssL ss)),↑(.sh (.lst (iD os))),↑(.sh (.lst ((lf 0 (os.zip (tk ss os))).map iT))),↑(.sh (.int (hrs ((os.zip (tk ss os)).map (·.2))))),I,L,S]) rfl ?_;show zey [↑(.sh (ssL ss)),↑(.sh (.lst (iD os))),none,none,none,none,none]=_;have c:iZp [.lst (iD os),.lst ((tk ss os).map sD)]=↑((os.zip (tk ss os)).map λx=>D.tup [D.int (x.1:Int),sD x.2]):=by
  show ↑(zipD (iD os) ((tk ss os).map sD))=_;unfold iD;rw[zlq]
 simp only[zey,sSeq,sOwn,sSet,ma,sRet,gm,fNil,fC,gy,e8,bx,fVar,ah,af,ab,av,aw,az,cx,eo,if_true,Y,c,h1]
theorem zfy(h:Whole ss os)(I:∀x∈ss.flatten,f9 x)(L:ss.length<=1000)(Y:os.length<=900):ua [ssL ss,.lst (iD os)]=↑(.int (gf 0 (tk ss os))):=by
 have S:=zfe h L (by lia);obtain⟨e',h1,z,rfl⟩:=p8 (i:=4) (g:=zdt) sD (λp e=>∃z,e=[↑(.sh (ssL ss)),↑(.sh (.lst (iD os))),↑(.sh (.int (gf 0 p))),↑(.sh (.int (hrs p))),z]) (tk ss os)
  [↑(.sh (ssL ss)),↑(.sh (.lst (iD os))),↑(.sh (.int 0)),↑(.sh (.int 0)),none] ⟨none,rfl⟩ (by
   rintro p x q e D ⟨z,rfl⟩;obtain⟨_,_,_,_,Z,a⟩:=I x (h.sk x (by rw[D];simp));have sm:jt x.2.2:=kz (by lia);have U:hrs (p++[x])=hrs p+x.2.1:=by rw[kt];simp[hrs]
   have V:gf 0 (p++[x])=gf 0 p+x.2.2*(hrs p+x.2.1):=by rw[zp,en]
   rw[U,V];simp[zdt,zlw,zt5,ot sm])
 refine jv (e':=[↑(.sh (ssL ss)),↑(.sh (.lst (iD os))),↑(.sh (.int (gf 0 (tk ss os)))),↑(.sh (.int (hrs (tk ss os)))),z]) rfl ?_;show zez [↑(.sh (ssL ss)),↑(.sh (.lst (iD os))),none,none,none]=_;simp[zez,S,h1]
theorem ziu(ok:TurnsOk ss ts)(D:t6 [ssL ss]=↑(.lst (ts.map tnD)))(S:∀x∈ss.flatten,f9 x)(U:ss.length<=1000)(V:ss.flatten.length<=14):ze1 [ssL ss]=↑(.int (gf 0 (tk ss (iu ts)))):=by
 have z:=zir ok D V;have L:=ok.whole;have I:=zfy L S U (by rw[L.len];lia);refine jv (e':=[↑(.sh (ssL ss))]) rfl ?_;show ze0 [↑(.sh (ssL ss))]=_;simp[ze0,z,I]
def zt6(p q:fk)(j:Nat):ofS (p++q) j=ofS p j++ofS q j:=by unfold ofS;rw[g8,b7]
theorem zm5{α:Type}(f g:α->Int):∀l:List α,(l.map λx=>f x+g x).sum=(l.map f).sum+(l.map g).sum
 | []=>rfl |x::l=>by simp[dw,zm5 f g l];lia
def zlx{α:Type}:∀l:List α,(l.map λ_=>(0:Int)).sum=0
 | []=>rfl |_::l=>by simp only[bh,dw,zlx l];rfl
def r3(r:ci):Int:=r.getD 2 0
def srt(r:ci):ci:=[if r.getD 0 0<=r.getD 1 0 then r.getD 0 0 else r.getD 1 0,if r.getD 0 0<=r.getD 1 0 then r.getD 1 0 else r.getD 0 0]
def sumI(f:α->Int)(l:List α):Int:=(l.map f).sum
def zly(f:α->Int):sumI f []=0:=rfl
def zk(f:α->Int)(x:α)(l:List α):sumI f (x::l)=f x+sumI f l:=by simp[sumI]
def zlz(f:α->Int)(l z:List α):sumI f (l++z)=sumI f l+sumI f z:=by simp[sumI]
def zh8{f g:α->Int}{l:List α}(h:∀x∈l,f x=g x):sumI f l=sumI g l:=by
 unfold sumI;rw[e9 h]
theorem zo7{α:Type}(f:α->Int):∀l:List α,(∀x∈l,0<=f x)->0<=sumI f l
 | [],_=>g9 0 |x::l,h=>by
   rw[zk];have:=h x au;have:=zo7 f l λy z=>h y (ai _ z)
   lia
def PS(w C:Sk->Int)(P:Int):ez->Int
 |x::y::r=>-(P+w x)*(C y-C x-y.2.1)+PS w C (P+w x) (y::r) |_=>0
def zw9(S:Whole ss os)(U:ss[j]?=↑s):s.Sublist (tk ss os):=by
 have I:∀p:cd,∀q,os=p++q->(s.take (p.count (j+1))).Sublist (tk ss p):=by
  apply va
  ·intro q _;simp
  ·intro p a D q L
   rw[cb,du] at L;have D:=D (a::q) L;rw[p4,t4];by_cases e:a=j+1
   ·subst e
    rw[if_pos rfl];obtain⟨s',z,Y,V,_,_⟩:=(L ▸ S).at;rw[Nat.add_sub_cancel,U] at z;cases z;have:s.take (p.count (j+1)+1)=s.take (p.count (j+1))++[li ss (j+1) (p.count (j+1))]:=by
     rw[o7,V];rfl
    rw[this];exact List.Sublist.append D (List.Sublist.refl _)
   ·rw[if_neg e,Nat.add_zero]
    exact D.trans (List.sublist_append_left _ _)
 have:=I os [] (by simp);rw[S.cnt j s U,ji] at this;exact this
theorem zys(ok:TurnsOk ss ts)(I:Whole ss os)(z:t∈ts):t.2.Sublist (tk ss os):=by
 obtain⟨h1,h2⟩:=ok.lo t z;have D:ss[t.1-1]?=↑ss[t.1-1]:=ak (by lia);refine List.Sublist.trans ?_ (zw9 I D);rw[<-ok.part _ _ D];apply cg;refine bj.mpr ⟨t,gc.mpr ⟨z,?_⟩,rfl⟩;simp
 lia
theorem zrr{ss:fh}{a:Nat}{s:ez}(D:ss[a-1]?=↑s)(p:cd):∀k:Nat,p.count a+k<=s.length->tk ss (p++List.replicate k a)=tk ss p++(s.drop (p.count a)).take k
 |0,_=>by simp |k+1,h=>by
   rw[List.replicate_succ',<-cb,p4,zrr D p k (by lia),cb];have z:p.count a+k<s.length:=by lia
   rw[o7];unfold li;rw[ae,ae,D];simp[z]
theorem zt7(ok:TurnsOk ss ts):tk ss (iu ts)=(ts.map (·.2)).flatten:=by
 have D:∀p:fk,∀q,ts=p++q->tk ss (iu p)=(p.map (·.2)).flatten:=by
  apply va
  ·intro q _;rfl
  ·intro p t I q z
   rw[cb,du] at z;have I:=I (t::q) z;obtain⟨h1,h2⟩:=ok.lo t (by rw[z];simp);have U:ss[t.1-1]?=↑ss[t.1-1]:=ak (by lia);have L:=ok.part _ _ U;rw[z,zt6,t0 t q (t.1-1) (by lia),d9,bw] at L;have S:=zls p (t.1-1);rw[show t.1-1+1=t.1 by lia] at S;rw[nv,p7,zrr U _ _ (by rw[S,<-L];simp),I,S,<-L];simp
 exact D ts [] (by simp)
theorem zt8(l:fh):(l.map λs:ez=>(s.length:Int)).sum=(l.flatten.length:Int):=by
 induction l with
 |nil=>rfl |cons a l ih=>rw[bh,dw,ih,bw,aj];lia
theorem zo8(ss:fh)(S:ss.length<=1000):wv [ssL ss]=↑(.int (ss.flatten.length:Int)):=by
 have c:=ku (te:=g5 0) (base:=[]) (λs:ez=>D.lst (s.map sD)) (λs:ez=>D.int (s.length:Int)) ss λs _=>⟨_,by simp;rfl⟩;have z:=sf (λs:ez=>(s.length:Int)) ss;have I:Few (ss.map λs=>D.lst (s.map sD)).length:=few (by rw[ac];lia);rw[zt8] at z;refine jv (e':=[↑(.sh (ssL ss))]) rfl ?_;show zdu [↑(.sh (ssL ss))]=_;unfold ssL;generalize (ss.map λs=>D.lst (s.map sD))=L at *;simp[zdu,iw,I,c,z]
def zl0(l:em)(k:Nat)(h:k<=l.length):cutD l none ↑(k:Int)=l.take k:=by
 have:=ztz (l.take k) (l.drop k);rwa [jw,dq,Nat.min_eq_left h] at this
def zq2(l:em)(k:Nat)(h:k<=l.length):cutD l ↑(k:Int) none=l.drop k:=by
 have:=zot (l.take k) (l.drop k);rwa [jw,dq,Nat.min_eq_left h] at this
def zky:FS:=sSeq (uw 3 (pz (fiS (fVar 0)) [] (gy oh (bx (fVar 0) (fNil))))) (sSeq (sSet 4 (fC (.int 0))) (sSeq (sIf (fTst (fBin dGt (g5 1) (fC (.int 1)))) (sSet 4 (fBin dSub (fIxV 1 (fC (.int 1))) (fC (.int 1)))) (sNil)) (sSeq (sIf (fTst (fBin dEq (fIxV 1 (fC (.int 0))) (fC (.str "put")))) (sSeq (zwu 3 (fVar 4) (zwt false (fCat (fLst (gm (bx (fTup (bx (fVar 2) (bx (fIxV 1 (fC (.int 2))) (bx (fIxV 1 (fC (.int 3))) (fNil))))) (fNil)))) (fIxV 3 (fVar 4))))) (sRet (fLst (gm (bx (fVar 3) (bx (fVar 2) (fNil))))))) (sNil)) (sSeq (sIf (fTst (fBin dEq (fIxV 1 (fC (.int 0))) (fC (.str "tell")))) (sSeq (sSet 5 (fFrz false (fBin dIx (fIxV 3 (fVar 4)) (fBin dSub (fIxV 1 (fC (.int 2))) (fC (.int 1)))))) (sSeq (zwv 3 (fVar 4) (fBin dSub (fIxV 1 (fC (.int 2))) (fC (.int 1))) (fTup (bx (fIxV 5 (fC (.int 0))) (bx (fIxV 5 (fC (.int 1))) (bx (fIxV 1 (fC (.int 3))) (fNil)))))) (sRet (fLst (gm (bx (fVar 3) (bx (fIxV 5 (fC (.int 2))) (fNil)))))))) (sNil)) (sSeq (sIf (fTst (fBin dEq (fIxV 1 (fC (.int 0))) (fC (.str "dry")))) (sSet 4 (fBin dSub (fBin dIx (fBin dIx (e8 zex (bx (fVar 0) (fNil))) (fC (.int 0))) (fC (.int 0))) (fC (.int 1)))) (sNil)) (sSeq (sSet 5 (fFrz false (fBin dIx (fIxV 3 (fVar 4)) (fC (.int 0))))) (sSeq (zwu 3 (fVar 4) (zwt false (fSl (fIxV 3 (fVar 4)) (fO1 (fC (.int 1))) (fO0)))) (sRet (fLst (gm (bx (fVar 3) (bx (fVar 5) (fNil)))))))))))))
def zkz:em->ep:=runD 6 3 zky
inductive Deed where
 |put (a h l:Int) |tell (a p l:Int) |go (a:Int) |dry
abbrev fw:=List Deed
def dD:Deed->D
 | .put a h l=>.tup [.str "put",.int a,.int h,.int l]
 | .tell a p l=>.tup [.str "tell",.int a,.int p,.int l]
 | .go a=>.tup [.str "go",.int a] | .dry=>.tup [.str "dry"]
def Deed.isPut:Deed->Bool | .put ..=>true |_=>false
abbrev Spn:=Int×Int×Int
abbrev f0:=List Spn
abbrev Hs:=fh×f0
abbrev f1:=List Hs
def spL(sp:f0):D:=.lst (sp.map sD)
def stD(s:Hs):D:=.tup [ssL s.1,spL s.2]
abbrev kH:AK:=.ins false "House" zqq
def hP(k:fw)(s:f1):er:=[.o (k.map dD),.o (s.map stD)]
abbrev hA(k:fw)(s:f1):Ag:=(kH,hP k s)
theorem zo9(xs:em)(x:D):atI (xs++[x]) (-1)=↑x:=by
 unfold atI ixN;rw[if_neg (by decide),if_pos (by simp;lia),show(-1+((xs++[x]).length:Int)).toNat=xs.length by simp;lia];simp
def hrOf(sp:f0):Int:=match sp.getLast? with |none=>0 |some x=>x.2.1
def zyt(k:fw):Int:=1+(k.filter Deed.isPut).length
def putX(ss:fh)(n:Nat)(a h l:Int):dc:=if a<1\/(ss.length:Int)<a then some "UnknownStack" else if h<1\/60<h then some "BadHours" else if l<0\/100<l then some "BadLoss" else if ss.flatten.length<14 then(if n<60 then none else some "DeedsFull") else some "HouseFull"
def newS(n:Nat):Hs:=(List.replicate n [],[])
def dryS(s:Hs)(a:Nat)(x:Sk)(tl:ez):Hs:=(s.1.set (a-1) tl,s.2++[(hrOf s.2,hrOf s.2+x.2.1,lss s.1.flatten)])
def uq:Int->f0->Prop
 |_,[]=>True |b,x::r=>x.1=b/\x.1<=x.2.1/\uq x.2.1 r
def qp:Int->f0->Int
 |b,[]=>b |_,x::r=>qp x.2.1 r
def zj:∀(sp:f0) (b:Int) (x:Spn),qp b (sp++[x])=x.2.1
 | [],_,_=>rfl |y::r,_,x=>zj r y.2.1 x
def zrs(sp:f0):hrOf sp=qp 0 sp:=by
 unfold hrOf;cases h:sp.getLast? with
 |none=>rw[List.getLast?_eq_none_iff.mp h];rfl |some x=>obtain⟨q,rfl⟩:=List.getLast?_eq_some_iff.mp h;rw[zj]
def zj2:∀(sp:f0) (b:Int) (x:Spn),uq b sp->x.1=qp b sp->x.1<=x.2.1->uq b (sp++[x])
 | [],_,_,_,h,h2=>⟨h,h2,trivial⟩ |y::r,_,x,hc,h,h2=>⟨hc.1,hc.2.1,zj2 r _ x hc.2.2 h h2⟩
def zyu(ss:fh)(n:Nat)(a m l:Int):dc:=if a<1\/(ss.length:Int)<a then some "UnknownStack" else if (ss.getD (a.toNat-1) []).length=0 then some "EmptyStack" else if m<1\/((ss.getD (a.toNat-1) []).length:Int)<m then some "UnknownPlace" else if l<0\/100<l then some "BadLoss" else if n<60 then none else some "DeedsFull"
def goX(ss:fh)(n:Nat)(a:Int):dc:=if a<1\/(ss.length:Int)<a then some "UnknownStack" else if (ss.getD (a.toNat-1) []).length=0 then some "EmptyStack" else if n<60 then none else some "DeedsFull"
def dryX(ss:fh)(n:Nat):dc:=if 0<ss.flatten.length then(if n<60 then none else some "DeedsFull") else some "NothingWaits"
inductive Cmd where
 |d (x:Deed) |back
def cmdX(ss:fh)(n:Nat):Cmd->dc
 | .d (.put a h l)=>putX ss n a h l
 | .d (.tell a m l)=>zyu ss n a m l
 | .d (.go a)=>goX ss n a | .d .dry=>dryX ss n | .back=>if n=0 then some "NothingDone" else none
section
variable {c p q:FT} {f g:FE} {u v w:FS} {e:DE0} {i:Nat} {d:D} {x y:Str} {A B:Prop} [Decidable A] [Decidable B] {a b:Int}
end
structure SI (n i:Nat) (s:Hs):Prop where
 len:s.1.length=n
 few:s.1.flatten.length<=14
 good:∀x∈s.1.flatten,f9 x
 chain:uq 0 s.2
 rate:∀x∈s.2,0<=x.2.2/\x.2.2<=100000
 sp:s.2.length<=i
 hour:qp 0 s.2<=60*s.2.length
def Stp(k:fw)(s:Hs)(d:Deed)(s':Hs):Prop:=cmdX s.1 k.length (.d d)=none/\∃z,zkz [ssL s.1,dD d,.int (zyt k)]=↑(.lst [ssL s'.1,z])/\match d with | .dry=>∃x:Sk,z=sD x/\s'.2=s.2++[(hrOf s.2,hrOf s.2+x.2.1,lss s.1.flatten)] |_=>s'.2=s.2
structure HI (n:Nat) (k:fw) (p:f1) (s:Hs):Prop where
 n5:n<=5
 k60:k.length<=60
 kp:p.length=k.length
 all:∀i t,(p++[s])[i]?=↑t->SI n i t
 st0:(p++[s])[0]?=↑(newS n)
 tr:∀i d t t',k[i]?=↑d->(p++[s])[i]?=↑t->(p++[s])[i+1]?=↑t'->Stp (k.take i) t d t'
variable{k:fw}{s:Hs}{p:f1}
def HI.at(h:HI n k p s):SI n k.length s:=h.all k.length s (by rw[<-h.kp];simp)
def za{α:Type}:∀(ss:List (List α)) (i:Nat) (t t':List α),ss[i]?=↑t->∃A B,ss.flatten=A++(t++B)/\(ss.set i t').flatten=A++(t'++B)
 |y::r,0,t,t',h=>by
   simp at h;subst h;exact⟨[],r.flatten,rfl,rfl⟩
 |y::r,i+1,t,t',h=>by
   obtain⟨A,B,h1,h2⟩:=za r i t t' (by simpa using h);exact⟨y++A,B,by simp[h1],by simp[h2]⟩
theorem SI.swap{t t':ez}(h:SI n i s)(D:s.1[a]?=↑t)(I:s.1.flatten.length+t'.length<=14+t.length)(L:∀x∈t',(∀y∈t,f9 y)->f9 x):SI n (i+1) (s.1.set a t',s.2):=by
 obtain⟨A,B,h1,h2⟩:=za s.1 a t t' D;have g:=h.good;rw[h1] at g I;refine⟨by rw[dy];exact h.len,?_,?_,h.chain,h.rate,k8 h.sp,h.hour⟩
 ·show(s.1.set a t').flatten.length<=14
  rw[h2];simp at *
  lia
 ·intro x z
  rw[h2,cw,cw] at z;rcases z with q |q |q
  ·exact g x (by simp[q])
  ·exact L x q λy S=>g y (by simp[S])
  ·exact g x (by simp[q])
theorem zrt:∀(l:ez),(∀x∈l,f9 x)->0<=lss l/\lss l<=100*l.length
 | [],_=>⟨by decide,by decide⟩ |x::r,h=>by
   have I:=zrt r λy z=>h y (by simp[z]);have D:=h x (by simp);unfold f9 at D;have e:lss (x::r)=x.2.2+lss r:=by simp[lss]
   rw[e,am]
   lia
theorem SI.dry{x:Sk}{tl:ez}(h:SI n i s)(D:s.1[a-1]?=↑(x::tl)):SI n (i+1) (dryS s a x tl):=by
 have q:=h.swap (t':=tl) D (by have:=h.few;rw[am];lia) λy z I=>I y (by simp[z]);have L:f9 x:=h.good x (by
  obtain⟨A,B,h1,_⟩:=za s.1 (a-1) (x::tl) tl D;rw[h1];simp)
 have S:=zrt s.1.flatten h.good;have V:=h.few;have Y:=h.hour;have U:=h.sp;unfold f9 at L;refine⟨q.len,q.few,q.good,?_,?_,?_,?_⟩
 ·exact zj2 _ _ _ h.chain (zrs s.2) (by show hrOf s.2<=hrOf s.2+x.2.1;lia)
 ·intro y z
  have z:y∈s.2++[(hrOf s.2,hrOf s.2+x.2.1,lss s.1.flatten)]:=z;rw[cw,df] at z;rcases z with z |rfl
  ·exact h.rate y z
  ·show 0<=lss s.1.flatten/\lss s.1.flatten<=100000
   lia
 ·show(s.2++[_]).length<=i+1
  simp;lia
 ·show qp 0 (s.2++[(hrOf s.2,hrOf s.2+x.2.1,lss s.1.flatten)])<=60*((s.2++[(hrOf s.2,hrOf s.2+x.2.1,lss s.1.flatten)]).length:Int)
  rw[zj,zrs,aj];simp
  lia
def Mv(k:fw)(p:f1)(s:Hs)(c:Cmd)(z:fw)(p':f1)(s':Hs):Prop:=match cmdX s.1 k.length c with |some _=>z=k/\p'=p/\s'=s |none=>match c with | .back=>∃d,k=z++[d]/\p=p'++[s'] | .d d=>z=k++[d]/\p'=p++[s]
variable{d:Deed}{s':Hs}
protected def Mv.d(h:cmdX s.1 k.length (.d d)=none):Mv k p s (.d d) (k++[d]) (p++[s]) s':=by
 unfold Mv;rw[h];exact⟨rfl,rfl⟩
theorem Mv.len{z:fw}{p':f1}{c:Cmd}(h:Mv k p s c z p' s'):z.length<=k.length+1:=by
 unfold Mv at h;split at h
 ·rw[h.1];lia
 ·cases c with
  |back=>obtain⟨d,e,_⟩:=h;rw[e];simp;lia |d d=>rw[h.1];simp
def flat(ts:fk):ez:=(ts.map (·.2)).flatten
abbrev Ent:=Nat×Sk
def col(c:Nat)(L:List Ent):ez:=(L.filter λe=>e.1==c).map (·.2)
def non(a:Nat)(L:List Ent):ez:=(L.filter λe=>!(e.1==a)).map (·.2)
def o5(c:Nat)(x:Sk)(L:List Ent):col c ((c,x)::L)=x::col c L:=by simp[col]
def nz{d:Nat}(h:d≠c)(x:Sk)(L:List Ent):col c ((d,x)::L)=col c L:=by simp[col,h]
def zu(c:Nat)(x:Sk)(L:List Ent):non c ((c,x)::L)=non c L:=by simp[non]
def vp{d:Nat}(h:d≠c)(x:Sk)(L:List Ent):non c ((d,x)::L)=x::non c L:=by simp[non,h]
def zpa(c:Nat)(A B:List Ent):col c (A++B)=col c A++col c B:=by simp[col]
theorem zl1(d:Int):∀(X:ez) (h:Int),gf (h+d) X=gf h X+d*lss X
 | [],h=>by simp[gf,lss] |x::X,h=>by
   rw[gf,gf,show h+d+x.2.1=h+x.2.1+d by lia,zl1 d X,m7];generalize gf (h+x.2.1) X=c
   grind
def p0(h:Int)(X:ez):gf h X=gf 0 X+h*lss X:=by
 have:=zl1 h X 0;rwa [en] at this
def tz:∀(A B:ez) (h:Int),gf h (A++B)=gf h A+gf (h+hrs A) B
 | [],B,h=>by simp[gf,hrs] |x::A,B,h=>by
   rw[fg,gf,gf,tz A B,lp,km h,km]
def rmv(a:Nat):Nat->List Ent->List Ent
 |0,L=>L |_+1,[]=>[] |n+1,e::L=>if e.1=a then rmv a n L else e::rmv a (n+1) L
def y4(a:Nat):∀(L:List Ent) (n:Nat),col a (rmv a n L)=(col a L).drop n
 | [],0=>rfl | [],n+1=>rfl |e::L,0=>rfl | (d,x)::L,n+1=>by
   by_cases h:d=a
   ·subst h
    rw[rmv,if_pos rfl,y4 d L n,o5,List.drop_succ_cons]
   ·rw[rmv,if_neg h,nz h,nz h]
    exact y4 a L (n+1)
def u8{a c:Nat}(z:c≠a):∀(L:List Ent) (n:Nat),col c (rmv a n L)=col c L
 | [],0=>rfl | [],n+1=>rfl |e::L,0=>rfl | (d,x)::L,n+1=>by
   by_cases h:d=a
   ·subst h
    rw[rmv,if_pos rfl,u8 z L n,nz (Ne.symm z)]
   ·rw[rmv,if_neg h]
    by_cases hd:d=c
    ·subst hd;rw[o5,o5,u8 z L (n+1)]
    ·rw[nz hd,nz hd,u8 z L (n+1)]
theorem td(a:Nat):∀(L:List Ent) (r:ez),(∃t,col a L=r++t)->lss (L.map (·.2))=lss r+lss ((rmv a r.length L).map (·.2))/\hrs (L.map (·.2))=hrs r+hrs ((rmv a r.length L).map (·.2))
 |L,[],_=>by cases L <;> simp[rmv,lss,hrs]
 | [],x::r,⟨t,ht⟩=>by simp[col] at ht | (d,y)::L,x::r,⟨t,ht⟩=>by
   by_cases h:d=a
   ·subst h
    rw[o5,fg] at ht;obtain⟨e,z⟩:=kl ht;subst e;obtain⟨h1,h2⟩:=td d L r ⟨t,z⟩;rw[am,rmv,if_pos rfl,bh,m7,lp,m7,lp,h1,h2];exact⟨by lia,by lia⟩
   ·rw[nz h] at ht
    obtain⟨h1,h2⟩:=td a L (x::r) ⟨t,ht⟩;rw[am] at h1 h2;rw[am,rmv,if_neg h,bh,bh,m7,lp,m7 (r:=List.map _ _),lp (r:=List.map _ _),h1,h2];exact⟨by lia,by lia⟩
theorem xr(a:Nat)(W P:Int)(hP:0<P):∀(L:List Ent) (r:ez) (G:Int),(∃t,col a L=r++t)->(∀e∈L,0<=e.2.2.1)->(∀u t,r=u++t->0<=P*lss t-W*hrs t)->(∀q t,L=q++t->0<=G+(W*hrs (non a q)-P*lss (non a q))) ->
  0<=P*(gf 0 (L.map (·.2))-gf 0 (r++(rmv a r.length L).map (·.2)))+hrs r*G
 |L,[],G,_,_,_,_=>by cases L <;> simp[rmv,hrs]
 | [],x::r,G,⟨t,ht⟩,_,_,_=>by simp[col] at ht | (d,y)::L,x::r,G,⟨t,ht⟩,hx,hs,hG=>by
   have Z:0<=G:=by
    have:=hG [] _ rfl;simpa[non,hrs,lss] using this
   have Y:0<=y.2.1:=hx _ au;by_cases h:d=a
   ·subst h
    rw[o5,fg] at ht;obtain⟨e,I⟩:=kl ht;subst e;have S:=xr d W P hP L r G ⟨t,I⟩ (λz V=>hx z (ai _ V)) (λu v e=>hs (y::u) v (by rw[e];rfl)) (λq v e=>by
     have:=hG ((d,y)::q) v (by rw[e];rfl);rwa [zu] at this)
    have m:=j9 Y Z;have U:=(td d L r ⟨t,I⟩).1;have c:lss (r++(rmv d r.length L).map (·.2))=lss (L.map (·.2)):=by rw[ml,U]
    rw[am,rmv,if_pos rfl,bh,fg,gf,gf,p0 (0+y.2.1) (L.map (·.2)),p0 (0+y.2.1) (r++(rmv d r.length L).map (·.2)),c,lp];generalize gf 0 (L.map (·.2))=c1 at *;generalize gf 0 (r++(rmv d r.length L).map (·.2))=c2 at *;generalize lss (L.map (·.2))=c3 at *;have D:P*((d,y).2.2.2*(0+(d,y).2.2.1)+(c1+(0+y.2.1)*c3)-(y.2.2*(0+y.2.1)+(c2+(0+y.2.1)*c3)))+(y.2.1+hrs r)*G=(P*(c1-c2)+hrs r*G)+y.2.1*G:=by dsimp only;grind
    rw[D]
    lia
   ·rw[nz h] at ht
    have S:=xr a W P hP L (x::r) (G+(W*y.2.1-P*y.2.2)) ⟨t,ht⟩ (λz V=>hx z (ai _ V)) hs (λq v e=>by
     have:=hG ((d,y)::q) v (by rw[e];rfl);rw[vp h,lp,m7,f6,f6] at this
     lia)
    have U:=(td a L (x::r) ⟨t,ht⟩).1;have f:=hs [] (x::r) rfl;rw[am] at S U;rw[am,rmv,if_neg h,bh,bh];generalize x::r=b at *;rw[tz] at S;rw[tz,gf,gf,p0 (0+_) (L.map (·.2)),U,p0 (0+hrs b+_)];rw[p0 (0+hrs b)] at S;generalize gf 0 (L.map (·.2))=c1 at *;generalize gf 0 b=c2 at *;generalize lss ((rmv a (r.length+1) L).map (·.2))=c3 at *;generalize gf 0 ((rmv a (r.length+1) L).map (·.2))=c4 at *;have m:=j9 Y f;generalize hrs b=hb1 at *;generalize lss b=lb at *;have D:P*((d,y).2.2.2*(0+(d,y).2.2.1)+(c1+(0+(d,y).2.2.1)*(lb+c3))-(c2+((d,y).2.2.2*(0+hb1+(d,y).2.2.1)+(c4+(0+hb1+(d,y).2.2.1)*c3))))+hb1*G=(P*(c1-(c2+(c4+(0+hb1)*c3)))+hb1*(G+(W*y.2.1-P*y.2.2)))+y.2.1*(P*lb-W*hb1):=by dsimp only;grind
    rw[D]
    lia
theorem zj3{a c:Nat}(D:c≠a):∀q:List Ent,hrs (non a q)=hrs (col c q)+hrs (non a (q.filter λe=>!(e.1==c)))/\lss (non a q)=lss (col c q)+lss (non a (q.filter λe=>!(e.1==c)))
 | []=>by simp[non,col,hrs,lss] | (d,y)::q=>by
   obtain⟨h1,h2⟩:=zj3 D q;by_cases hd:d=c
   ·subst hd
    rw[vp D,o5,jk (by simp),lp,lp,m7,m7,h1,h2];exact⟨by lia,by lia⟩
   ·rw[nz hd,jj (by simp[hd])]
    by_cases z:d=a
    ·subst z
     rw[zu,zu];exact⟨h1,h2⟩
    ·rw[vp z,vp z,lp,lp,m7,m7,h1,h2]
     exact⟨by lia,by lia⟩
theorem zru(a:Nat)(W P:Int):∀(n:Nat) (q:List Ent),q.length<=n->(∀c,c≠a->0<=W*hrs (col c q)-P*lss (col c q))->0<=W*hrs (non a q)-P*lss (non a q)
 |0,q,hq,_=>by
   rw[mv (Nat.le_zero.mp hq)];simp[non,hrs,lss]
 |n+1,q,hq,h=>by
   by_cases D:∃e∈q,e.1≠a
   ·obtain⟨⟨c,y⟩,L,I⟩:=D
    have I:c≠a:=I;obtain⟨h1,h2⟩:=zj3 I q;have S:(q.filter λe=>!(e.1==c)).length<q.length:=by
     rw[List.length_filter_lt_length_iff_exists];exact⟨_,L,by simp⟩
    have U:=zru a W P n (q.filter λe=>!(e.1==c)) (by lia) (λd hd=>by
     by_cases e:d=c
     ·subst e
      rw[show col d (q.filter λe=>!(e.1==d))=[] by unfold col;rw[List.filter_filter,d7,fc];intro z _;simp];simp[hrs,lss]
     ·rw[show col d (q.filter λe=>!(e.1==c))=col d q by
       unfold col;rw[List.filter_filter];congr 1;apply List.filter_congr;intro z _;by_cases D:z.1=d
       ·simp[D,e]
       ·simp[D]]
      exact h d hd)
    have V:=h c I;rw[h1,h2,f6,f6]
    lia
   ·have:non a q=[]:=by
     unfold non;rw[d7,fc];intro e L;have:e.1=a:=Classical.byContradiction λz=>D ⟨e,L,z⟩;simp[this]
    rw[this];simp[hrs,lss]
theorem zl3{b:ez}(D:0<hrs b):∀(bs:fh) (X:ez),(∀u∈bs,Good u/\(∀x∈u,f9 x)/\lss u*hrs b<=lss b*hrs u)->X <+: bs.flatten->lss X*hrs b<=lss b*hrs X
 | [],X,_,h=>by
   rw[List.flatten_nil,List.prefix_nil] at h;subst h;simp[hrs,lss]
 |u::bs,X,hb,h=>by
   obtain⟨I,L,S⟩:=hb u au;rw[bw] at h;rcases vb h with z | ⟨t,e,ht⟩
   ·have h1:=I.beg X z
    have U:=m6 u L I.ne;have V:0<=hrs X:=uz X λx Y=>L x (z.subset Y);have Z:=ek h1 (Int.le_of_lt D);have a:=ek S V;have c:lss X*hrs b*hrs u<=lss b*hrs X*hrs u:=by
     rw[show lss X*hrs b*hrs u=lss X*hrs u*hrs b by grind,show lss b*hrs X*hrs u=lss b*hrs u*hrs X by grind];exact Int.le_trans Z (by rw[show lss u*hrs X*hrs b=lss u*hrs b*hrs X by grind];exact a)
    exact i6 c U
   ·subst e
    have f:=zl3 D bs t (λv d=>hb v (ai _ d)) ht;rw[ml,kt,gl,f6]
    lia
def ofE(ts:fk)(c:Nat):ez:=((ts.filter λt=>t.1==c).map (·.2)).flatten
theorem opt:∀(ts:fk) (L:List Ent),ts.Pairwise bef->(∀t∈ts,Good t.2)->(∀t∈ts,∀x∈t.2,f9 x)->(∀e∈L,f9 e.2)->(∀c,col c L=ofE ts c)->gf 0 (flat ts)<=gf 0 (L.map (·.2))/\lss (flat ts)=lss (L.map (·.2))
 | [],L,_,_,_,_,h=>by
   cases L with
   |nil=>exact⟨g9 _,rfl⟩ |cons e L =>
     have:=h e.1;rw[show e=(e.1,e.2) from rfl,o5] at this;simp[ofE] at this
 | (a,b)::ts,L,srt,hg,hs,hL,h=>by
   have d:=eh.mp srt;have f:Good b:=hg (a,b) au;have j:∀x∈b,f9 x:=hs (a,b) au;have U:=m6 b j f.ne;have V:col a L=b++ofE ts a:=by rw[h a];simp[ofE]
   have S:∀c,c≠a->col c L=ofE ts c:=λc Y=>by rw[h c];simp[ofE,Ne.symm Y]
   have Z:∀e∈rmv a b.length L,f9 e.2:=λe D=>by
    have:∀(L:List Ent) (n:Nat),∀e∈rmv a n L,e∈L:=λL=>by
     induction L with
     |nil=>intro n e D;cases n <;> simpa[rmv] using D
     |cons z L ih =>
       intro n e D;cases n with
       |zero=>exact D |succ n =>
         rw[rmv] at D;split at D
         ·exact ai _ (ih n e D)
         ·rcases b8.mp D with q |q
          ·rw[q];exact au
          ·exact ai _ (ih (n+1) e q)
    exact hL e (this _ _ _ D)
   obtain⟨v,g⟩:=opt ts (rmv a b.length L) d.2 (λt I=>hg t (ai _ I)) (λt I=>hs t (ai _ I)) Z (λc=>by
    by_cases e:c=a
    ·subst e;rw[y4,V,List.drop_left]
    ·rw[u8 e,S c e])
   obtain⟨k,_⟩:=td a L b ⟨_,V⟩;have l:=xr a (lss b) (hrs b) U L b 0 ⟨_,V⟩ (λe D=>by have:=hL e D;unfold f9 at this;lia) (λu t e=>by
    have h1:=f.beg u ⟨t,e.symm⟩;have w:lss b=lss u+lss t:=by rw[e,ml]
    have y:hrs b=hrs u+hrs t:=by rw[e,kt]
    generalize lss b=lb at *;generalize hrs b=hb at *;rw[show lss t=lb-lss u by lia,show hrs t=hb-hrs u by lia,Int.mul_sub,Int.mul_sub,f8 hb lb,f8 hb]
    lia) (λq t e=>by
    rw[en];refine zru a _ _ q.length q (bg _) λc Y=>?_;have m:col c q <+: ofE ts c:=by rw[<-S c Y,e,zpa];exact List.prefix_append _ _
    have:=zl3 U _ (col c q) (λu o=>by
     obtain⟨t,I,p⟩:=bj.mp o;have I:=(gc.mp I).1;subst p;refine⟨hg t (ai _ I),hs t (ai _ I),?_⟩;have r:=d.1 t I;rcases r with z |z
     ·exact Int.le_of_lt z
     ·exact Int.not_lt.mp z.1) m
    rw[f8 (hrs b)]
    lia)
   rw[Int.mul_zero,Int.add_zero] at l;have i:gf 0 (b++(rmv a b.length L).map (·.2))<=gf 0 (L.map (·.2)):=by
    by_cases z:gf 0 (b++(rmv a b.length L).map (·.2))<=gf 0 (L.map (·.2))
    ·exact z
    ·have:=Int.mul_neg_of_pos_of_neg U (show gf 0 (L.map (·.2))-gf 0 (b++(rmv a b.length L).map (·.2))<0 by lia)
     lia
   have s:flat ((a,b)::ts)=b++flat ts:=rfl;rw[s];refine⟨?_,by rw[ml,k,g]⟩;rw[tz,p0 (0+hrs b)];rw[tz,p0 (0+hrs b)] at i;rw[<-g] at i
   lia
def zxa(I:Whole ss os){s:ez}(L:ss[j]?=↑s):∀p q:cd,os=p++q->col (j+1) (p.zip (tk ss p))=s.take (p.count (j+1)):=by
 apply va
 ·intro q _
  rfl
 ·intro p a S q z
  rw[cb,du] at z;have h1:=S (a::q) z;rw[p4,List.zip_append (by rw[yh]),zpa,h1,ig,show List.zip [a] [li ss a (p.count a)]=[(a,li ss a (p.count a))] from rfl];by_cases e:a=j+1
  ·subst e
   obtain⟨s',D,V,U,_⟩:=Whole.at (p:=p) (q:=q) (a:=j+1) (Eq.subst (motive:=λo=>Whole ss o) z I);rw[Nat.add_sub_cancel,L] at D;cases D;rw[o5,show List.count (j+1) [j+1]=1 by simp,List.take_add_one,U];rfl
  ·rw[nz e,show List.count (j+1) [a]=0 by simp[List.count_singleton,e],Nat.add_zero]
   exact ce _
theorem least(ok:TurnsOk ss ts)(L:∀x∈ss.flatten,f9 x)(z:Whole ss os):gf 0 (flat ts)<=gf 0 (tk ss os):=by
 have S:(os.zip (tk ss os)).map (·.2)=tk ss os:=by rw[l6];rw[yh];exact bg _
 have:=(opt ts (os.zip (tk ss os)) ok.srt ok.good (ok.sk L) (λe D=>L _ (z.sk _ (by rw[<-S];exact List.mem_map_of_mem D))) (λc=>by
  by_cases h:∃j s,c=j+1/\ss[j]?=↑s
  ·obtain⟨j,s,e,I⟩:=h
   subst e;rw[zxa z I os [] (ce _).symm,z.cnt j s I,ji];exact(ok.part j s I).symm
  ·have a:c=0\/ss.length<c:=by
    cases c with
    |zero=>exact .inl rfl |succ j =>
      by_cases U:j<ss.length
      ·exact absurd ⟨j,ss[j],rfl,ak U⟩ h
      ·exact .inr (by lia)
   have V:col c (os.zip (tk ss os))=[]:=by
    unfold col;rw[d7,fc];intro e D;have:=z.lo e.1 (ir D).1;simp
    lia
   have Y:ofE ts c=[]:=by
    unfold ofE;rw[fc.mpr λt Z=>by have:=ok.lo t Z;simp;lia];rfl
   rw[V,Y])).1
 rwa [S] at this
def stk(ss:fh)(c:Nat):ez:=if c=0 then[] else ss.getD (c-1) []
def chg(a:Nat)(l:Int):Nat->List Ent->List Ent
 |_,[]=>[] |n,e::L=>if e.1=a then(match n with |0=>(e.1,(e.2.1,e.2.2.1,l))::L |n+1=>e::chg a l n L) else e::chg a l n L
def stp_last(hi:HI n k p s)(h1:HI n (k++[d]) (p++[s]) s'):Stp k s d s':=by
 have z:=h1.tr k.length d s s' (by simp) (by rw[<-hi.kp];simp) (by rw[<-hi.kp,show p.length+1=(p++[s]).length by simp,og]);rwa [j6] at z
def hd(t:Tn):Int:=(t.2.headD (0,0,0)).1
theorem zua{ts:List α}{p q:List (α×Nat)}{x:α×Nat}(h:ts.zipIdx 0=p++x::q):∃hi:p.length<ts.length,x=(ts[p.length],p.length):=by
 have e:(ts.zipIdx 0)[p.length]?=↑x:=by rw[h];simp
 rw[List.getElem?_zipIdx] at e;have hi:p.length<ts.length:=by
  by_cases z:p.length<ts.length
  ·exact z
  ·rw[ca (by lia)] at e;cases e
 rw[ak hi] at e;refine⟨hi,?_⟩;simpa using(ay e).symm
def beg(T:ez)(n:Int):Int:=hrs (T.takeWhile λx=>!(x.1==n))
abbrev Rn:=Bool×Int×Int×Int×Int
def rD(r:Rn):D:=.tup [.str (if r.1 then "turned" else "parted"),.int r.2.1,.int r.2.2.1,.int r.2.2.2.1,.int r.2.2.2.2]
inductive Adds (N:Int):List Rn->Int->Prop
 |nil:Adds N [] 0
 |cons {r:Rn} {l:List Rn} {v V:Int}:N*r.2.2.2.1=v*r.2.2.2.2->Adds N l V->Adds N (r::l) (v+V)
def RnOk(S:ez)(r:Rn):Prop:=r.2.1∈S.map (·.1)/\r.2.2.1∈S.map (·.1)/\1<=r.2.2.2.1/\1<=r.2.2.2.2/\r.2.2.2.2<=705600
def RsOk(S:ez)(N:Int)(l:em)(V:Int):Prop:=∃z:List Rn,l=z.map rD/\(∀r∈z,RnOk S r)/\Adds N z V
def RsOk.nil(S:ez)(N:Int):RsOk S N [] 0:=⟨[],rfl,λr h=>absurd h ff,.nil⟩
def WOf(h w:cd):Prop:=(∀a∈w,1<=a/\a<=h.length)/\∀j,j<h.length->w.count (j+1)=h.getD j 0
def dec(h:cd)(j:Nat):cd:=h.set j (h.getD j 0-1)
def o4(h:cd)(j:Nat):(dec h j).length=h.length:=by unfold dec;simp
def y3(h:cd)(j i:Nat)(z:j<h.length):(dec h j).getD i 0=if i=j then h.getD j 0-1 else h.getD i 0:=by
 unfold dec;rw[ae,jc];by_cases e:j=i
 ·subst e
  rw[if_pos rfl,if_pos z,if_pos rfl];rfl
 ·rw[if_neg e,if_neg (λq=>e q.symm),ae]
theorem lm:∀(h:cd) (j:Nat),0<h.getD j 0->(dec h j).sum+1=h.sum
 | [],j,q=>by simp at q |a::h,0,q=>by
   simp[dec] at q ⊢
   lia
 |a::h,j+1,q=>by
   have z:=lm h j (by simpa using q);unfold dec at z ⊢;simp at z ⊢
   lia
def wds:Nat->cd->List cd
 |0,_=>[] |f+1,h=>if h.sum=0 then[[]] else((List.range h.length).map λj=>if 0<h.getD j 0 then(wds f (dec h j)).map ((j+1)::·) else[]).flatten
variable{h:cd}
theorem zub(I:h.sum=0)(w:cd):WOf h w↔w=[]:=by
 have D:∀j,h.getD j 0=0:=λj=>by
  by_cases z:j<h.length
  ·rw[ae,ak z]
   exact g7.mp I _ (il z)
  ·rw[ae,ca (by lia)];rfl
 constructor
 ·intro q
  cases w with
  |nil=>rfl |cons a w =>
    have l:=q.1 a au;have c:=q.2 (a-1) (by lia);rw[D,show a-1+1=a by lia,fy] at c
    lia
 ·intro e
  subst e;exact⟨λa L=>absurd L ff,λj z=>by rw[D];rfl⟩
variable{w:cd}
theorem y9(D:j<h.length):WOf h ((j+1)::w)↔0<h.getD j 0/\WOf (dec h j) w:=by
 constructor
 ·intro q
  have c:=q.2 j D;rw[fy] at c;refine⟨by lia,λa ha=>by rw[o4];exact q.1 a (ai _ ha),λi hi=>?_⟩;rw[o4] at hi;rw[y3 h j i D];have z:=q.2 i hi;by_cases e:i=j
  ·subst e;rw[if_pos rfl];lia
  ·rw[if_neg e,<-z,jy (by lia)]
 ·intro⟨p,q⟩
  refine⟨λa ha=>?_,λi hi=>?_⟩
  ·rcases b8.mp ha with e |ha
   ·subst e;exact⟨by lia,by lia⟩
   ·have:=q.1 a ha;rw[o4] at this;exact this
  ·have z:=q.2 i (by rw[o4];exact hi)
   rw[y3 h j i D] at z;by_cases e:i=j
   ·subst e;rw[if_pos rfl] at z;rw[fy,z];lia
   ·rw[if_neg e] at z;rw[jy (by lia),z]
theorem o3:∀(f:Nat) (h:cd),h.sum<f->∀w,w∈wds f h↔WOf h w
 |0,_,q,_=>by lia |f+1,h,q,w=>by
   unfold wds;by_cases D:h.sum=0
   ·rw[if_pos D,zub D,df]
   ·rw[if_neg D,cj]
    constructor
    ·rintro⟨l,S,L⟩
     obtain⟨j,z,rfl⟩:=bj.mp S;have z:=cy.mp z;split at L
     ·rename_i p
      obtain⟨v,U,rfl⟩:=bj.mp L;have V:=lm h j p;exact(y9 z).mpr ⟨p,(o3 f (dec h j) (by lia) v).mp U⟩
     ·exact absurd L ff
    ·intro I
     cases w with
     |nil =>
       exfalso;apply D;rw[g7];intro a Y;obtain⟨j,z⟩:=List.mem_iff_getElem?.mp Y;have:=I.2 j (aq.mp z).1;rw[ae,z] at this;simpa using this.symm
     |cons a v =>
       have l:=I.1 a au;have e:a-1+1=a:=by lia
       rw[<-e] at I;obtain⟨p,Z⟩:=(y9 (by lia)).mp I;have V:=lm h (a-1) p;refine⟨_,bj.mpr ⟨a-1,cy.mpr (by lia),rfl⟩,?_⟩;rw[if_pos p];exact bj.mpr ⟨v,(o3 f _ (by lia) v).mpr Z,by rw[e]⟩
theorem yd:∀(f:Nat) (h:cd),(wds f h).Nodup
 |0,_=>List.nodup_nil |f+1,h=>by
   unfold wds;split
   ·simp
   ·rw[o8,List.pairwise_flatten]
    refine⟨λl z=>?_,?_⟩
    ·obtain⟨j,_,rfl⟩:=bj.mp z
     split
     ·rw[jb]
      exact(yd f (dec h j)).imp λq e=>q (kl e).2
     ·exact List.Pairwise.nil
    ·rw[jb]
     refine(List.nodup_range (n:=h.length)).imp λ{i j} q x hx y hy e=>?_;subst e;split at hx
     ·split at hy
      ·obtain⟨v,_,rfl⟩:=bj.mp hx
       obtain⟨u,_,e⟩:=bj.mp hy;have:=(kl e).1;exact q (by lia)
      ·exact absurd hy ff
     ·exact absurd hx ff
def u9:WOf h w.reverse↔WOf h w:=by
 unfold WOf;simp only[l5,i5]
variable{f:Nat}
def zuc(q:h.sum<f):(wds f h).Perm ((wds f h).map List.reverse):=by
 rw[List.perm_ext_iff_of_nodup (yd f h)]
 ·intro w
  rw[o3 f h q,bj];constructor
  ·intro z
   exact⟨w.reverse,(o3 f h q _).mpr (u9.mpr z),j7 w⟩
  ·rintro⟨v,D,rfl⟩
   exact u9.mpr ((o3 f h q v).mp D)
 ·rw[o8,jb]
  exact(yd f h).imp λq e=>q (List.reverse_inj.mp e)
theorem zpc{f g:Nat->Int}{j:Nat}{d:Int}:∀n:Nat,j<n->(∀k,k<n->k≠j->g k=f k)->g j=f j+d->sumI g (List.range n)=sumI f (List.range n)+d
 |0,hj,_,_=>by lia |n+1,hj,h1,h2=>by
   rw[fu,zlz,zlz,zk,zly,zk,zly];by_cases e:j=n
   ·subst e
    have:sumI g (List.range j)=sumI f (List.range j):=zh8 λk z=>h1 k (by have:=cy.mp z;lia) (by have:=cy.mp z;lia);rw[this,h2]
    lia
   ·have:=zpc (f:=f) (g:=g) (d:=d) n (by lia) (λk z q=>h1 k (by lia) q) h2
    rw[this,h1 n (by lia) (λq=>e q.symm)]
    lia
def ka(ss:fh)(h:cd):Int:=sumI (λk=>hrs ((ss.getD k []).take (h.getD k 0))) (List.range ss.length)
theorem zrv(ss:fh):∀(w:cd),(∀a∈w,1<=a/\a<=ss.length)->(∀k,k<ss.length->w.count (k+1)<=(ss.getD k []).length)->hrs (tk ss w.reverse)=sumI (λk=>hrs ((ss.getD k []).take (w.count (k+1)))) (List.range ss.length)
 | [],_,_=>by
   rw[List.reverse_nil];have:sumI (λk=>hrs ((ss.getD k []).take (([]:cd).count (k+1)))) (List.range ss.length)=0:=zlx _;rw[this];rfl
 |a::w,h1,h2=>by
   have L:=h1 a au;have D:=zrv ss w (λb I=>h1 b (ai _ I)) λk z=>by
    have:=h2 k z;rw[jp] at this
    lia
   have c:=h2 (a-1) (by lia);rw[show a-1+1=a by lia,fy] at c;rw[ja,p4,kt,D,i5];symm;refine zpc (j:=a-1) ss.length (by lia) (λk z q=>by rw[jy (by lia)]) ?_;rw[show a-1+1=a by lia,fy];unfold li;generalize ss.getD (a-1) []=s at *;rw[o7,kt,ak (by lia),ae,ak (by lia)];rfl
theorem zud(D:h.length=ss.length)(I:∀k,h.getD k 0<=(ss.getD k []).length)(q:WOf h w):hrs (tk ss w.reverse)=ka ss h:=by
 rw[zrv ss w (λa L=>by rw[<-D];exact q.1 a L) λk z=>by rw[q.2 k (by lia)];exact I k];unfold ka;exact zh8 λk z=>by rw[q.2 k (by have:=cy.mp z;lia)]
def CL(ss:fh)(f:Nat)(h:cd):ci:=(wds f h).map λw=>gf 0 (tk ss w.reverse)
theorem zue(I:h.length=ss.length)(L:∀k,h.getD k 0<=(ss.getD k []).length)(Y:h.sum<f+1)(S:h.sum≠0) :
  CL ss (f+1) h=((List.range h.length).map λj=>if 0<h.getD j 0 then(CL ss f (dec h j)).map (· + ((ss.getD j []).getD (h.getD j 0-1) (0,0,0)).2.2*ka ss h) else[]).flatten:=by
 unfold CL;rw[wds,if_neg S,List.map_flatten,dn];congr 1;refine e9 λj D=>?_;have D:=cy.mp D;show List.map _ (if 0<h.getD j 0 then(wds f (dec h j)).map ((j+1)::·) else[])=_;split
 ·rename_i p
  rw[dn,dn];refine e9 λw U=>?_;have Z:=lm h j p;have q:=(o3 f (dec h j) (by lia) w).mp U;have V:=(y9 D).mpr ⟨p,q⟩;have z:=zud I L V;show gf 0 (tk ss ((j+1)::w).reverse)=gf 0 (tk ss w.reverse)+_;have c:=q.2 j (by rw[o4];exact D);rw[y3 h j j D,if_pos rfl] at c;rw[ja,p4] at z ⊢;rw[kt] at z;rw[zp,i5,c];rw[i5,c] at z;unfold li at z ⊢;rw[show j+1-1=j by lia] at z ⊢;generalize (ss.getD j []).getD (h.getD j 0-1) (0,0,0)=x at *;rw[<-z];simp[hrs]
 ·rfl
structure St (l:ci) (w m s:Int):Prop where
 w:w=l.length
 e:l=[]->m=-1/\s=0
 n:l≠[]->m∈l/\(∀x∈l,m<=x)/\s=l.count m
def St.nil:St [] 0 (-1) 0:=⟨rfl,λ_=>⟨rfl,rfl⟩,λh=>absurd rfl h⟩
variable{s w m:Int}
def St.perm{z:ci}(h:St l w m s)(p:l.Perm z):St z w m s :=
 ⟨by rw[<-p.length_eq];exact h.w,λe=>h.e (by subst e;exact List.perm_nil.mp p),λn=>by
  obtain⟨h1,h2,D⟩:=h.n λe=>n (by subst e;exact List.nil_perm.mp p);exact⟨p.mem_iff.mp h1,λx I=>h2 x (p.mem_iff.mpr I),by rw[<-p.count_eq];exact D⟩⟩
theorem zj4(d m:Int):∀l:ci,(l.map (· + d)).count (m+d)=l.count m
 | []=>rfl |x::l=>by
   rw[bh,jp,jp,zj4 d m l];congr 1;by_cases e:x=m
   ·subst e;simp
   ·rw[if_neg (by simpa using e),if_neg (by simp;lia)]
theorem St.add(h:St l w m s)(z:l≠[])(d:Int):St (l.map (· + d)) w (m+d) s:=by
 obtain⟨h1,h2,D⟩:=h.n z;refine⟨by rw[ac];exact h.w,λe=>absurd (d7.mp e) z,λ_=>⟨bj.mpr ⟨m,h1,rfl⟩,λx I=>?_,by rw[zj4];exact D⟩⟩;obtain⟨y,L,rfl⟩:=bj.mp I;have:=h2 y L
 lia
theorem St.app{a b:ci}{S z s':Int}(h:St a w m s)(h':St b S z s')(U:b≠[])(f:∀x∈a,0<=x) :
  St (a++b) (w+S) (if m<0\/z<m then z else m) (if m<0\/z<m then s' else if z=m then s+s' else s):=by
 obtain⟨V,D,b3⟩:=h'.n U;refine⟨by rw[aj,h.w,h'.w];simp,λe=>absurd (List.append_eq_nil_iff.mp e).2 U,λ_=>?_⟩;by_cases e:a=[]
 ·obtain⟨g,i⟩:=h.e e
  subst e;rw[if_pos (.inl (by lia)),if_pos (.inl (by lia))];exact⟨V,D,b3⟩
 ·obtain⟨Y,I,Z⟩:=h.n e
  have j:=f m Y;by_cases c:z<m
  ·rw[if_pos (.inr c),if_pos (.inr c)]
   refine⟨bq _ V,λx L=>(cw.mp L).elim (λq=>by have:=I x q;lia) (D x),?_⟩;rw[ig,mw (l:=a) (λq=>by have:=I z q;lia),iz];exact b3
  ·rw[if_neg (by lia),if_neg (by lia)]
   refine⟨de _ Y,λx L=>(cw.mp L).elim (I x) (λq=>by have:=D x q;lia),?_⟩;rw[ig];by_cases d:z=m
   ·subst d;rw[if_pos rfl,Z,b3];simp
   ·rw[if_neg d,mw (l:=b) (λq=>by have:=D m q;lia),Z];simp
end LB
namespace SQ
open PySem L2 LB
def rh(m:em->ep):FS:=sIf (fTst (fBin dGt (fVar 3) (fC (.int 0)))) (sSeq (sSet 4 (fLst (fCat (fLst (fCat (fLst (fSl (fVar 0) (fO0) (fO1 (fVar 2)))) (fLst (gm (bx (fBin dSub (fVar 3) (fC (.int 1))) (fNil)))))) (fLst (fSl (fVar 0) (fO1 (fBin gq (fVar 2) (fC (.int 1)))) (fO0)))))) (jm (q9 1 (iw (fiS (e8 m (bx (fVar 4) (fNil)))) [2] fYes (fLst (fCat (fLst (gm (bx (fBin gq (fVar 1) (fC (.int 1))) (fNil)))) (fVar 0))))))) (sNil)
def mr(m:em->ep):FS:=sSeq (sIf (fTst (fBin dEq (e8 bSum (bx (fVar 0) (fNil))) (fC (.int 0)))) (sRet (fLst (gm (bx (fLst (gm (fNil))) (fNil))))) (sNil)) (sSeq (sOwn 1 (gm (fNil))) (sSeq (ma [2,3] (gy (iEn 0) (bx (fVar 0) (fNil))) ((rh m))) (sRet (fVar 1))))
def zb4:em->ep:=recD 5 1 mr 9
def ze5:FS:=sSeq (sIf (fTst (fBin dGt (e8 wv (bx (fVar 0) (fNil))) (fC (.int 7)))) (sj) (sNil)) (sRet (e8 zb4 (bx (fLst (iw (fiS (fVar 0)) [] fYes (g5 0))) (fNil))))
def ze6:em->ep:=runD 1 1 ze5
def zdw:FS:=sSeq (sSet 1 (fLst (iw (fiS (e8 ze6 (bx (fVar 0) (fNil)))) [0] fYes (e8 ua (bx (fVar 1) (bx (fVar 0) (fNil))))))) (sSeq (sSet 2 (e8 qf (bx (fVar 1) (fNil)))) (sRet (fTup (bx (g5 1) (bx (fVar 2) (bx (fBin pv (fVar 1) (fVar 2)) (fNil)))))))
def zdx:em->ep:=runD 3 1 zdw
def zdy:FS:=jm (ky 1 (fBin dMul (fIxV 1 (fUn dNeg (fC (.int 1)))) (fBin gq (g5 2) (fC (.int 1)))))
def m8:FS:=sIf (fTst (fBin dGt (fIxV 5 (fVar 10)) (fC (.int 0)))) (sSeq (sSet 11 (fIxV 3 (fBin dSub (fVar 4) (fIxV 1 (fVar 10))))) (sSeq (sSet 12 (fBin gq (fIxV 11 (fC (.int 1))) (fBin dMul (fBin dIx (fBin dIx (fIxV 0 (fVar 10)) (fBin dSub (fIxV 5 (fVar 10)) (fC (.int 1)))) (fC (.int 2))) (fVar 6)))) (sSeq (sSet 7 (fBin gq (fVar 7) (fIxV 11 (fC (.int 0))))) (sSeq (sIf (fOr (fTst (fBin dLt (fVar 8) (fC (.int 0)))) (fTst (fBin dLt (fVar 12) (fVar 8)))) (sSeq (sSet 8 (fVar 12)) (sSet 9 (fC (.int 0)))) (sNil)) (sIf (fTst (fBin dEq (fVar 12) (fVar 8))) (sSet 9 (fBin gq (fVar 9) (fIxV 11 (fC (.int 2))))) (sNil)))))) (sNil)
def ue:FS:=sSeq (sSet 5 (fLst (pw (gy iR1 (bx (g5 0) (fNil))) [4,1,0] fYes (fBin dMod (fBin dDiv (fVar 1) (fIxV 2 (fVar 0))) (fBin gq (e8 bLen (bx (fIxV 3 (fVar 0)) (fNil))) (fC (.int 1))))))) (sSeq (sSet 6 (e8 bSum (bx (fLst (iw (gy iR1 (bx (g5 0) (fNil))) [0,5] fYes (e8 bSum (bx (fLst (iw (fiS (fLst (fSl (fIxV 1 (fVar 0)) (fO0) (fO1 (fIxV 2 (fVar 0)))))) [] fYes (fIxV 0 (fC (.int 1))))) (fNil))))) (fNil)))) (sSeq (sSet 7 (fC (.int 0))) (sSeq (sSet 8 (fUn dNeg (fC (.int 1)))) (sSeq (sSet 9 (fC (.int 0))) (sSeq (sFor 10 (gy iR1 (bx (g5 0) (fNil))) (m8)) (jm (ky 3 (fLst (gm (bx (fVar 7) (bx (fVar 8) (bx (fVar 9) (fNil)))))))))))))
def ze7:FS:=sSeq (sOwn 1 (gm (bx (fC (.int 1)) (fNil)))) (sSeq (sFor 2 (fiS (fVar 0)) (zdy)) (sSeq (sOwn 3 (gm (bx (fLst (gm (bx (fC (.int 1)) (bx (fC (.int 0)) (bx (fC (.int 1)) (fNil)))))) (fNil)))) (sSeq (sFor 4 (gy iR2 (bx (fC (.int 1)) (bx (fIxV 1 (fUn dNeg (fC (.int 1)))) (fNil)))) (ue)) (sRet (fIxV 3 (fUn dNeg (fC (.int 1))))))))
def ze8:em->ep:=runD 13 1 ze7
def xi:FS:=sSeq (sSet 1 (e8 vz (bx (e8 uc (bx (fVar 0) (bx (fC (.int 15)) (fNil)))) (bx (fC (.int 7)) (fNil))))) (sSeq (sSet 2 (fLst (gy zy (bx (fVar 1) (fNil))))) (sSeq (sSet 3 (e8 zdx (bx (fVar 2) (fNil)))) (sSeq (sSet 4 (e8 ze1 (bx (fVar 2) (fNil)))) (sSeq (sSet 5 (e8 ze8 (bx (fVar 1) (fNil)))) (sSeq (sIf (fOr (fNot (fTst (e8 zci (bx (fVar 2) (bx (fVar 1) (fNil)))))) (fNot (fTst (e8 ug (bx (fVar 3) (bx (fTup (bx (fIxV 5 (fC (.int 0))) (bx (fIxV 5 (fC (.int 1))) (bx (fIxV 5 (fC (.int 2))) (fNil))))) (fNil))))))) (sRet (fC (.bl false))) (sNil)) (sRet (ql (e8 ud (bx (fVar 4) (fNil))) (fBin dEq (fVar 4) (fIxV 5 (fC (.int 1)))))))))))
def zxb:em->ep:=runD 6 1 xi
end SQ
namespace SQ
open PySem L2 LB PyProof.Rows
def top(i:Nat):Stmt:=PySem.Challenge.pw_rotstacks_k14_least_of_all.main.body.getD i (.Pass ⟨0,0,0,0⟩)
local macro_rules | `(tactic| walk_at "g") => `(tactic| first | exact gl_d (by kernel_rfl) | exact gl_c (by kernel_rfl) | exact gl_p (by kernel_rfl))
local macro_rules | `(tactic| exists $t:term) => `(tactic| as_aux_lemma => exact $t)
local macro_rules | `(tactic| walk_at "b") => `(tactic| exact ⟨by walk_at "g", by assumption⟩)
def ok_all{P:Program}{w:World}{K:eb}{mg:Str->b5}(T1:Def K mg (top 1) "sack_hours" ["sack"])(T2:Def K mg (top 2) "sack_loss" ["sack"])(T3:Def K mg (top 3) "sacks_in_all" ["stacks"])(T5:Def K mg (top 5) "share_gap" ["one", "other"])(T6:Def K mg (top 6) "share_sign" ["one", "other"])(T7:Def K mg (top 7) "single_block" ["sack"])(T8:Def K mg (top 8) "joined_block" ["upper", "lower"])(T9:Def K mg (top 9) "block_share" ["block"])(d:Def K mg (top 10) "has_greater_share" ["upper", "lower"])(e:Def K mg (top 11) "stack_blocks" ["stack"])(g:Def K mg (top 19) "turn_share" ["turn"])(h:Def K mg (top 20) "place_of_turn" ["turns", "turn"])(i:Def K mg (top 21) "block_turns" ["stacks"])(k:Def K mg (top 22) "told_order" ["stacks"])(l:Def K mg (top 23) "check_known" ["stacks", "at"])(n:Def K mg (top 24) "check_whole" ["stacks", "order"])(o:Def K mg (top 25) "check_order" ["stacks", "order"])(p:Def K mg (top 26) "taken_sacks" ["stacks", "order"])(q:Def K mg (top 28) "order_cost" ["stacks", "order"])(s:Def K mg (top 29) "least_cost" ["stacks"])(u:Def K mg (top 32) "orders_of_heights" ["heights"])(v:Def K mg (top 33) "all_orders" ["stacks"])(x:Def K mg (top 34) "least_of_all" ["stacks"])(y:Def K mg (top 36) "_law_whole" ["_law_found"])(A:Def K mg (top 37) "_law_at" ["_law_script", "_law_k"])(B:Def K mg (top 38) "_law_draws" ["_law_script", "_law_many"])(C:Def K mg (top 39) "_law_more_below" ["_law_stack"])(E:Def K mg (top 40) "_law_stacks" ["_law_draws_here", "_law_most"])(F:Def K mg (top 41) "_law_same_row" ["_law_found", "_law_due"])(G:Def K mg (top 42) "_law_same_rows" ["_law_found", "_law_due"])(H:Def K mg (top 43) "_law_same_stacks" ["_law_found", "_law_due"])(J:Def K mg (top 44) "_law_copy" ["_law_stacks_here"])(M:Def K mg (top 45) "_law_least" ["_law_stacks_here"])(z:∃t,mg "MOST_SACKS" = ↑(.int 7 t))(b:mg "bool" = none)(I:mg "enumerate" = none)(N:mg "int" = none)(D:mg "isinstance" = none)(O:mg "len" = none)(c:mg "list" = none)(Q:mg "min" = none)(L:mg "range" = none)(R:mg "str" = none)(T:mg "sum" = none)(S:mg "tuple" = none):∀base f fd,Fun K "law" "law" (top 46) f fd->FnOk P w K mg base CX0 13 f fd ["_law_script"] (dSp K zxb):=by
 intro base;have c1:Cal P w K mg base CX0 "sack_hours" 1 (dSp K ub):=by exists i3 T1 ["sack"] λr a t=>fo (ii (gg db a))
 have c2:Cal P w K mg base CX0 "sack_loss" 1 (dSp K wc):=by exists i3 T2 ["sack"] λr a t=>fo (ii (gg db a))
 have c3:Cal P w K mg base CX0 "sacks_in_all" 1 (dSp K wv):=by exists i3 T3 ["stacks"] λr a t=>fo (ii (u6 (cz (i9 (rc a (kh (cq a)) (λ_ _ _ _ _ _ _ a=>jg a))) eg)))
 have c5:Cal P w K mg base CX0 "share_gap" 1 (dSp K wd):=by exists i3 T5 ["one", "other"] λr a t=>fo (ii (kw (mh (gg db a) (gg db a)) (mh (gg db a) (gg db a))))
 have c6:Cal P w K mg base CX0 "share_sign" 2 (dSp K oa):=by exists i3 T6 ["one", "other", "gap"] λr a t=>e7 (ia t (io c5 r (cz (cq a) (cz (cq a) eg)))) (e7 (jd (pf (cq a) db) (fo (ii db)) je) (e7 (jd (qk (cq a) db) (fo (ii (qr db))) je) (fo (ii db))))
 have c7:Cal P w K mg base CX0 "single_block" 2 (dSp K wj):=by exists i3 T7 ["sack"] λr a t=>fo (ii (nj (cz db (cz (io c1 r (cz (cq a) eg)) (cz (io c2 r (cz (cq a) eg)) eg)))))
 have c8:Cal P w K mg base CX0 "joined_block" 1 (dSp K wg):=by exists i3 T8 ["upper", "lower"] λr a t=>fo (ii (nj (cz (j2 (gg db a) (gg db a)) (cz (j2 (gg db a) (gg db a)) (cz (j2 (gg db a) (gg db a)) eg)))))
 have c9:Cal P w K mg base CX0 "block_share" 1 (dSp K t9):=by exists i3 T9 ["block"] λr a t=>fo (ii (nj (cz (gg db a) (cz (gg db a) eg))))
 have X:Cal P w K mg base CX0 "has_greater_share" 3 (dSp K n9):=by exists i3 d ["upper", "lower"] λr a t=>fo (ii (zx0 (io c6 r (cz (io c9 r (cz (cq a) eg)) (cz (io c9 r (cz (cq a) eg)) eg))) db))
 have aa:Cal P w K mg base CX0 "stack_blocks" 4 (dSp K zdr):=by exists i3 e ["stack", "blocks", "sack", "block"] λr a t=>e7 (me (t.psF (jo eg))) (e7 (lj (kh (cq a)) t.pg (e7 (ia t (io c7 r (cz (cq a) eg))) (e7 (zld (dt_w (so (pf (jg a) db) (tp (mf (lx (io X r (cz (gg (qr db) a) (cz (cq a) eg)))))))) (fo (ia t (io c8 r (cz (zwh a) (cz (cq a) eg)))))) (fo (ly (tx (cq a) a)))))) (fo (ii (cq a))))
 have U:Cal P w K mg base CX0 "turn_share" 1 (dSp K p9):=by exists i3 g ["turn"] λr a t=>fo (ii (nj (cz (gg db a) (cz (gg db a) eg))))
 have ag:Cal P w K mg base CX0 "place_of_turn" 3 (dSp K zdh):=by exists i3 h ["turns", "turn", "place"] λr a t=>e7 (ia t db) (e7 (zld (dt_w (so (qk (cq a) (jg a)) (tp (zx2 (io c6 r (cz (io U r (cz (gg (cq a) a) eg)) (cz (io U r (cz (cq a) eg)) eg))) db)))) (fo (yx t db))) (fo (ii (cq a))))
 have al:Cal P w K mg base CX0 "block_turns" 5 (dSp K t6):=by exists i3 i ["stacks", "turns", "at", "stack", "many", "hours", "loss", "turn"] λr a t=>e7 (me (t.psF (jo eg))) (e7 (yy (zqc (cz (cq a) eg)) (mn t (mn t u3)) (fo (zob (kh (io aa r (cz (cq a) eg))) (mn t (mn t (mn t u3))) (e7 (ia t (nj (cz (cq a) (cz (cq a) (cz (cq a) (cz (cq a) eg)))))) (fo (ly (zoa (zql ag r (ztj (zyc (cz (cq a) eg)) a)) (cq a) a))))))) (fo (ii (cq a))))
 have an:Cal P w K mg base CX0 "told_order" 6 (fSp K zev):=by exists zww k ["stacks", "order", "at", "many", "hours", "loss"] λr a t=>e7 (me (t.psF (jo eg))) (e7 (zob (kh (io al r (cz (cq a) eg))) (mn t (mn t (mn t (mn t u3)))) (fo (ly (zjq (zwn (jo (cz (cq a) eg)) (cq a)) a)))) (fo (zs5 a)))
 have ao:Cal P w K mg base CX0 "check_known" 1 (dSp K zed):=by exists i3 l ["stacks", "at"] λr a t=>fo (jd (dt_w (qj (qk (cq a) db) (qy (pf (cq a) (jg a))))) (fo vj) je)
 have ap:Cal P w K mg base CX0 "check_whole" 1 (dSp K zef):=by exists i3 n ["stacks", "order", "left", "at"] λr a t=>e7 (me (vi a t (kh (cq a)) (λ_ _ _ _ _ _ _ a=>jg a))) (e7 (lj (kh (cq a)) t.pg (e7 (jd (my (gg (kw (cq a) db) a) db) (fo vj) je) (fo (zqg (kw (cq a) db) db a)))) (fo (jd (pf (zti a) db) (fo vj) je)))
 have ar:Cal P w K mg base CX0 "check_order" 2 (dSp K zeh):=by exists i3 o ["stacks", "order", "at"] λr a t=>e7 (lj (kh (cq a)) t.pg (fo (ly (io ao r (cz (cq a) (cz (cq a) eg)))))) (fo (ly (io ap r (cz (cq a) (cz (cq a) eg)))))
 have ax:Cal P w K mg base CX0 "taken_sacks" 3 (dSp K vy):=by exists i3 p ["stacks", "order", "taken", "sacks", "at"] λr a t=>e7 (ly (io ar r (cz (cq a) (cz (cq a) eg)))) (e7 (me (vi a t (kh (cq a)) (λ_ _ _ _ _ _ _ a=>db))) (e7 (me (t.psF (jo eg))) (e7 (lj (kh (cq a)) t.pg (e7 (ly (tx (oj (gg (kw (cq a) db) a) (gg (kw (cq a) db) a)) a)) (fo (zqf (kw (cq a) db) db a)))) (fo (ii (cq a))))))
 have V:Cal P w K mg base CX0 "order_cost" 4 (dSp K ua):=by exists i3 q ["stacks", "order", "cost", "hour", "sack"] λr a t=>e7 (ia t db) (e7 (ia t db) (e7 (lj (kh (io ax r (cz (cq a) (cz (cq a) eg)))) t.pg (e7 (yx t (io c1 r (cz (cq a) eg))) (fo (yx t (mh (io c2 r (cz (cq a) eg)) (cq a)))))) (fo (ii (cq a)))))
 have a1:Cal P w K mg base CX0 "least_cost" 7 (dSp K ze1):=by exists i3 s ["stacks"] λr a t=>fo (ii (io V r (cz (cq a) (cz (i9 (zny an r (cz (cq a) eg))) eg))))
 have a2:Cal P w K mg base CX0 "orders_of_heights" 10 (dSp K zb4):=by exists zyl 9 u ["heights", "orders", "place", "height", "rest"] λj m=>λcs r a t=>e7 (jd (my (u6 (cz (cq a) eg)) db) (fo (ii (i9 (jo (cz (i9 (jo eg)) eg))))) je) (e7 (me (t.psF (jo eg))) (e7 (yy (zth (cz (cq a) eg)) (mn t (mn t u3)) (fo (jd (pf (cq a) db) (e7 (ia t (i9 (u5 (i9 (u5 (i9 (ur (cq a) ve (vd (cq a)))) (i9 (jo (cz (kw (cq a) db) eg))))) (i9 (ur (cq a) (vd (j2 (cq a) db)) ve))))) (fo (ly (zjq (rc a (kh (io (hkj:=bg _) cs r (cz (cq a) eg))) (λ_ _ _ _ _ _ _ a=>i9 (u5 (i9 (jo (cz (j2 (cq a) db) eg))) (cq a)))) a)))) je))) (fo (ii (cq a)))))
 have a3:Cal P w K mg base CX0 "all_orders" 11 (dSp K ze6):=by exists i3 v ["stacks"] λr a t=>e7 (jd (pf (io c3 r (cz (cq a) eg)) (zqp z)) (fo vj) je) (fo (ii (io a2 r (cz (i9 (rc a (kh (cq a)) (λ_ _ _ _ _ _ _ a=>jg a))) eg))))
 have a4:Cal P w K mg base CX0 "least_of_all" 12 (dSp K zdx):=by exists i3 x ["stacks", "costs", "least"] λr a t=>e7 (zn6 (vi a t (kh (io a3 r (cz (cq a) eg))) (λ_ _ _ _ _ _ _ a=>io V r (cz (cq a) (cz (cq a) eg))))) (e7 (ia t (ztl (cz (cq a) eg))) (fo (ii (nj (cz (jg a) (cz (cq a) (cz (zqo (cq a) (cq a)) eg)))))))
 have Y:Cal P w K mg base CX0 "_law_whole" 1 (dSp K ud):=by exists i3 y ["_law_found"] λr a t=>fo (ii (zrg (oz zwm (cq a)) (zrf (zv6 (oz zta (cq a))))))
 have a5:Cal P w K mg base CX0 "_law_at" 1 (dSp K tw):=by exists i3 A ["_law_script", "_law_k"] λr a t=>e7 (jd (qk (cq a) (jg a)) (fo (ii (gg (cq a) a))) je) (fo (ii db))
 have a6:Cal P w K mg base CX0 "_law_draws" 2 (dSp K uc):=by exists i3 B ["_law_script", "_law_many", "_law_made", "_law_state", "_law_k", "_law_cell"] λr a t=>e7 (me (t.psF (jo eg))) (e7 (ia t db) (e7 (lj (n8 (cz (cq a) eg)) t.pg (e7 (ia t (io a5 r (cz (cq a) (cz (cq a) eg)))) (e7 (jd (my (ki (jg a) db) db) (e7 (ia t (ki (j2 (j2 (j2 (mh (cq a) db) (cq a)) (cq a)) db) db)) (fo (ia t (ki (mh (j2 (cq a) (cq a)) db) db)))) je) (fo (ly (tx (cq a) a)))))) (fo (ii (cq a)))))
 have a7:Cal P w K mg base CX0 "_law_more_below" 1 (dSp K qb):=by exists i3 C ["_law_stack", "_law_last"] λr a t=>e7 (jd (my (jg a) db) (fo (ii (i9 (jo eg)))) je) (e7 (ia t (gg (kw (jg a) db) a)) (fo (ii (i9 (u5 (i9 (ur (cq a) ve (vd (kw (jg a) db)))) (i9 (jo (cz (nj (cz (gg db a) (cz (gg db a) (cz (j2 (gg db a) db) eg)))) eg))))))))
 have a8:Cal P w K mg base CX0 "_law_stacks" 2 (dSp K vz):=by exists i3 E ["_law_draws_here", "_law_most", "_law_many", "_law_count", "_law_menu", "_law_turn", "_law_made", "_law_pool", "_law_k", "_law_cell", "_law_hours", "_law_loss", "_law_place", "_law_number"] λr a t=>e7 (ia t (oj (i9 (jo (cz db (cz db (cz db (cz db (cz db (cz db (cz db (cz db (cz db (cz db (cz db (cz db eg)))))))))))))) (ki (gg db a) db))) (e7 (ia t (kw (cq a) (ki (m4 (gg db a) db) (j2 (cq a) db)))) (e7 (ia t (ki (m4 (gg db a) db) db)) (e7 (ia t (ki (m4 (gg db a) db) db)) (e7 (zs7 (zp5 a t (n8 (cz (cq a) eg)) (λ_ _ _ _ _ _ _ a=>jo eg))) (e7 (me (t.psF (zkg (cz db (cz db eg))))) (e7 (lj (n8 (cz (mh (cq a) (zwc (cz (cq a) (cz db eg)))) eg)) t.pg (e7 (ia t (gg (j2 db (cq a)) a)) (e7 (ia t (j2 db (ki (cq a) db))) (e7 (ia t (ki (m4 (cq a) db) db)) (e7 (jd (my (cq a) db) (e7 (ia t (j2 db (ki (cq a) (kw db (mh db (cq a)))))) (fo (ia t (ki (m4 (cq a) db) (kw db (mh db (cq a))))))) je) (e7 (jd (my (cq a) db) (e7 (ia t (oj (i9 (jo (cz db (cz db (cz db (cz db eg)))))) (ki (cq a) db))) (fo (ia t (oj (i9 (jo (cz db (cz db (cz db (cz db eg)))))) (ki (m4 (cq a) db) db))))) je) (e7 (jd (my (cq a) db) (e7 (ia t (oj (i9 (jo (cz (cq a) (cz (j2 db (ki (cq a) db)) eg)))) (cq a))) (fo (ia t (cq a)))) je) (e7 (ia t (ki (oj (i9 (jo (cz (m4 (cq a) db) (cz (cq a) eg)))) (mh (m4 (cq a) db) (cq a))) (cq a))) (e7 (ia t (zp3 (ki (m4 (cq a) db) (jg a)) a)) (fo (ly (zml (cq a) (λ_ _=>nj (cz (cq a) (cz (cq a) (cz (cq a) eg)))) a)))))))))))) (e7 (jd (dt_w (so (my (cq a) db) (tp (my (cq a) db)))) (fo (zn6 (vi a t (kh (cq a)) (λ_ _ _ _ _ _ _ a=>io a7 r (cz (cq a) eg))))) je) (fo (ii (cq a))))))))))
 have Z:Cal P w K mg base CX0 "_law_same_row" 2 (dSp K ug):=by exists i3 F ["_law_found", "_law_due", "_law_k"] λr a t=>e7 (jd (dt_w (qj (mf (lx (oz zp7 (cq a)))) (qy (ut (jg a) (jg a))))) (fo (ii lw)) je) (e7 (lj (n8 (cz (jg a) eg)) t.pg (e7 (jd (dt_w (so (lx (oz yp (gg (cq a) a))) (tp (mf (lx (oz yp (gg (cq a) a))))))) (fo (ii lw)) je) (e7 (jd (dt_w (so (mf (lx (oz yp (gg (cq a) a)))) (tp (mf (lx (io Y r (cz (gg (cq a) a) eg))))))) (fo (ii lw)) je) (fo (jd (ut (gg (cq a) a) (gg (cq a) a)) (fo (ii lw)) je))))) (fo (ii lw)))
 have a9:Cal P w K mg base CX0 "_law_same_rows" 3 (dSp K xb):=by exists i3 G ["_law_found", "_law_due", "_law_k"] λr a t=>e7 (jd (dt_w (qj (mf (lx (oz zn8 (cq a)))) (qy (ut (jg a) (jg a))))) (fo (ii lw)) je) (e7 (lj (n8 (cz (jg a) eg)) t.pg (fo (jd (mf (lx (io Z r (cz (gg (cq a) a) (cz (gg (cq a) a) eg))))) (fo (ii lw)) je))) (fo (ii lw)))
 have bb:Cal P w K mg base CX0 "_law_same_stacks" 4 (dSp K zci):=by exists i3 H ["_law_found", "_law_due", "_law_k"] λr a t=>e7 (jd (dt_w (qj (mf (lx (oz zn8 (cq a)))) (qy (ut (jg a) (jg a))))) (fo (ii lw)) je) (e7 (lj (n8 (cz (jg a) eg)) t.pg (fo (jd (mf (lx (io a9 r (cz (gg (cq a) a) (cz (gg (cq a) a) eg))))) (fo (ii lw)) je))) (fo (ii lw)))
 have bd:Cal P w K mg base CX0 "_law_copy" 1 (fSp K zy):=by exists zww J ["_law_stacks_here"] λr a t=>fo (zs4 (rc a (kh (cq a)) (λ_ _ _ _ _ _ _ a=>i9 (zsz (cz (cq a) eg)))))
 have be:Cal P w K mg base CX0 "_law_least" 1 (dSp K ze8):=by exists i3 M ["_law_stacks_here", "_law_steps", "_law_stack", "_law_best", "_law_code", "_law_taken", "_law_hour", "_law_ways", "_law_least_here", "_law_same", "_law_k", "_law_ahead", "_law_total"] λr a t=>e7 (me (t.psF (jo (cz db eg)))) (e7 (lj (kh (cq a)) t.pg (fo (ly (tx (mh (gg (qr db) a) (j2 (jg a) db)) a)))) (e7 (me (t.psF (jo (cz (i9 (jo (cz db (cz db (cz db eg))))) eg)))) (e7 (lj (zn4 (cz db (cz (gg (qr db) a) eg))) t.pg (e7 (ia t (i9 (zqi a (zyb (n8 (cz (jg a) eg))) (λ_ _ _ _ _ _ _ a=>ki (m4 (cq a) (gg (cq a) a)) (j2 (zwa (cz (gg (cq a) a) eg)) db))))) (e7 (ia t (u6 (cz (i9 (rc a (n8 (cz (jg a) eg)) (λ_ _ _ _ _ _ _ a=>u6 (cz (i9 (rc a (kh (i9 (ur (gg (cq a) a) ve (vd (gg (cq a) a))))) (λ_ _ _ _ _ _ _ a=>gg db a))) eg)))) eg))) (e7 (ia t db) (e7 (ia t (qr db)) (e7 (ia t db) (e7 (lj (n8 (cz (jg a) eg)) t.pg (fo (jd (pf (gg (cq a) a) db) (e7 (ia t (gg (kw (cq a) (gg (cq a) a)) a)) (e7 (ia t (j2 (gg db a) (mh (oj (oj (gg (cq a) a) (kw (gg (cq a) a) db)) db) (cq a)))) (e7 (ia t (j2 (cq a) (gg db a))) (e7 (jd (dt_w (qj (qk (cq a) db) (qy (qk (cq a) (cq a))))) (e7 (ia t (cq a)) (fo (ia t db))) je) (fo (jd (my (cq a) (cq a)) (fo (ia t (j2 (cq a) (gg db a)))) je)))))) je))) (fo (ly (tx (i9 (jo (cz (cq a) (cz (cq a) (cz (cq a) eg))))) a)))))))))) (fo (ii (gg (qr db) a))))))
 exact zyk ["_law_script", "_law_stacks_here", "_law_handed", "_law_found", "_law_least_here", "_law_due"] λr a t=>e7 (ia t (io a8 r (cz (io a6 r (cz (cq a) (cz db eg))) (cz db eg)))) (e7 (ia t (i9 (zny bd r (cz (cq a) eg)))) (e7 (ia t (io a4 r (cz (cq a) eg))) (e7 (ia t (io a1 r (cz (cq a) eg))) (e7 (ia t (io be r (cz (cq a) eg))) (e7 (jd (dt_w (qj (mf (lx (io bb r (cz (cq a) (cz (cq a) eg))))) (qy (mf (lx (io Z r (cz (cq a) (cz (nj (cz (gg db a) (cz (gg db a) (cz (gg db a) eg)))) eg)))))))) (fo (ii lw)) je) (fo (ii (zrg (io Y r (cz (cq a) eg)) (zrf (zx1 (cq a) (gg db a)))))))))))
end SQ
namespace SQ
open PySem L2 LB
def ints_of(l:ci):ints? (l.map D.int)=↑l:=by
 induction l with
 |nil=>rfl |cons a l ih=>rw[bh,ints?,ih];rfl
def zl4:∀h:cd,(h.map λn:Nat=>(n:Int)).sum=(h.sum:Int)
 | []=>rfl |a::h=>by rw[bh,dw,dw,zl4 h];simp
theorem y2{α:Type}(B:Nat):∀l:List (List α),(∀r∈l,r.length<=B)->l.flatten.length<=l.length*B
 | [],_=>by simp |a::l,h=>by
   have h1:=h a au;have h2:=y2 B l λr z=>h r (ai _ z);rw[bw,aj,am,Nat.add_mul]
   lia
theorem y1:∀(f:Nat) (h:cd),h.length<=5->(wds f h).length<=5 ^ h.sum
 |0,_,_=>by simp[wds] |f+1,h,hl=>by
   unfold wds;split
   ·rename_i e;rw[e];simp
   ·rename_i e
    obtain⟨n,hn⟩:∃n,h.sum=n+1:=⟨h.sum-1,by lia⟩;have q:=y2 (5 ^ n) ((List.range h.length).map λj=>if 0<h.getD j 0 then(wds f (dec h j)).map ((j+1)::·) else[]) λr z=>by
     obtain⟨j,_,rfl⟩:=bj.mp z;split
     ·rename_i p
      have D:=lm h j p;rw[ac];have:=y1 f (dec h j) (by rw[o4];exact hl);rwa [show(dec h j).sum=n by lia] at this
     ·exact eo _
    rw[ac,ie] at q;rw[hn,Nat.pow_succ,Nat.mul_comm];exact bi q (Nat.mul_le_mul_right _ hl)
theorem zrw:∀(f:Nat) (h w:cd),w∈wds f h->w.length=h.sum
 |0,_,_,q=>by simp[wds] at q |f+1,h,w,q=>by
   unfold wds at q;split at q
   ·rename_i e;rw[df.mp q,e];rfl
   ·obtain⟨l,D,z⟩:=cj.mp q
    obtain⟨j,_,rfl⟩:=bj.mp D;split at z
    ·rename_i p
     obtain⟨v,I,rfl⟩:=bj.mp z;have:=zrw f _ v I;have L:=lm h j p;rw[am];lia
    ·exact absurd z ff
abbrev wD(w:cd):D:=.lst (iD w)
variable{n:Nat}
def zxc(h:n<=7):5 ^ n<=78125:=bi (j4 (by decide) h) (by decide)
abbrev rowF(f:Nat)(h:cd)(j:Nat):List cd:=if 0<h.getD j 0 then(wds f (dec h j)).map ((j+1)::·) else[]
theorem zj5:∀(f:Nat) (h:cd),h.length<=5->h.sum<f->h.sum<=7->recD 5 1 mr f [.lst (iD h)]=↑(.lst ((wds f h).map wD))
 |0,_,_,q,_=>by lia |f+1,h,hl,hf,h7=>by
   have t:bSum [.lst (iD h)]=↑(.int (h.sum:Int)):=by
    have:=sf (λn:Nat=>(n:Int)) h;rw[zl4] at this;exact this
   show runD 5 1 (mr (recD 5 1 mr f)) [.lst (iD h)]=_;have y:=λj (p:0<h.getD j 0)=>zj5 f (dec h j) (by rw[o4];exact hl) (by have:=lm h j p;lia) (by have:=lm h j p;lia);generalize M:recD 5 1 mr f=m at *;by_cases u:h.sum=0
   ·rw[wds,if_pos u]
    refine jv (e':=[↑(.sh (.lst (iD h))),none,none,none,none]) rfl ?_;show mr m [↑(.sh (.lst (iD h))),none,none,none,none]=_;have Z:decide ((h.sum:Int)=0)=true:=decide_eq_true (by lia);generalize iD h=HD at *;simp only[mr,sSeq,sIf,sRet,e8,bx,fNil,fVar,fC,fBin,fTst,fLst,gm,t,dEq,Z,am,cx,eo,show(0+1<=64)=True by simp,if_true,ah,af,ab,av];rfl
   ·have Z:decide ((h.sum:Int)=0)=false:=decide_eq_false (by lia)
    have a:wds (f+1) h=((List.range h.length).map (rowF f h)).flatten:=by rw[wds,if_neg u]
    have b:∀j,(rowF f h j).length<=15625:=λj=>by
     unfold rowF;split
     ·rename_i p
      have A:=lm h j p;rw[ac];refine bi (y1 f (dec h j) (by rw[o4];exact hl)) ?_;exact bi (j4 (by decide) (show(dec h j).sum<=6 by lia)) (by decide)
     ·exact eo _
    have hi:iEn 0 [.lst (iD h)]=↑((h.zipIdx 0).map λz:Nat×Nat=>D.tup [D.int (z.2:Nat),D.int (z.1:Int)]):=by
     show ↑(lh 0 (h.map λn:Nat=>D.int (n:Int)))=_;rw[zn]
    obtain⟨e',h1,V,Y,L,rfl⟩:=tq (ix:=[2,3]) (g:=rh m) (λz:Nat×Nat=>[D.int (z.2:Nat),D.int (z.1:Int)])
     (λp e=>∃V Y L,e=[↑(.sh (.lst (iD h))),↑(.ow ((((List.range p.length).map (rowF f h)).flatten).map wD)),V,Y,L]) (h.zipIdx 0) [↑(.sh (.lst (iD h))),↑(.ow []),none,none,none] ⟨none,none,none,rfl⟩ (λ_ _=>rfl) (by
       rintro p x q e d ⟨V,Y,L,rfl⟩;obtain⟨hi,rfl⟩:=zua d;have U:h.getD p.length 0=h[p.length]:=by rw[ae,ak hi];rfl
       have B:((List.range (p++[(h[p.length],p.length)]).length).map (rowF f h)).flatten=((List.range p.length).map (rowF f h)).flatten++rowF f h p.length:=by
        rw[aj,cu,fu,b7,d9];simp
       have fl:=y2 15625 ((List.range p.length).map (rowF f h)) λr C=>by
        obtain⟨j,_,rfl⟩:=bj.mp C;exact b j
       rw[ac,ie] at fl;have E:=bi fl (Nat.mul_le_mul_right 15625 (show p.length<=5 by lia));have N:=b p.length;rw[B,b7];have S:Few (((((List.range p.length).map (rowF f h)).flatten).map wD).length+((rowF f h p.length).map wD).length):=few (by rw[ac,ac];lia);generalize (((List.range p.length).map (rowF f h)).flatten).map wD=ACC at *;generalize O:p.length=k at *;by_cases c:0<h[k]
       ·have v:=y k (by rw[U];exact c)
        have I:rowF f h k=(wds f (dec h k)).map ((k+1)::·):=by unfold rowF;rw[if_pos (by rw[U];exact c)]
        rw[I] at S ⊢;have i:decide ((0:Int)<(h[k]:Int))=true:=decide_eq_true (by lia);have P:(iD h).length=h.length:=by unfold iD;rw[ac]
        have ct:=zl0 (iD h) k (by lia);have F:=zq2 (iD h) (k+1) (by lia);have G:(iD h).take k++[.int ((h[k]:Int)-1)]++(iD h).drop (k+1)=iD (dec h k):=by
         unfold dec iD;rw[U,<-r8,<-List.map_drop,List.set_eq_take_append_cons_drop,if_pos hi,b7,bh,show((h[k]:Int)-1)=((h[k]-1:Nat):Int) by lia,cb];rfl
        have l:Few (((iD h).take k).length+(0+1)):=few (by rw[dq];lia);have o:Few (((iD h).take k++[D.int ((h[k]:Int)-1)]).length+((iD h).drop (k+1)).length):=few (by rw[aj,dq,l8,cu];lia);have H:=ku (te:=fLst (fCat (fLst (gm (bx (fBin gq (fVar 1) (fC (.int 1))) fNil))) (fVar 0))) (base:=[↑(.sh (.int (k:Nat)))]) wD (λw=>wD ((k+1)::w)) (wds f (dec h k)) λw a=>by
         have Q:=zrw f (dec h k) w a;have A:=lm h k (by rw[U];exact c);have J:Few (0+1+(iD w).length):=few (by unfold iD;rw[ac];lia);refine⟨[↑(.sh (wD w)),↑(.sh (.int (k:Nat)))],?_⟩;rw[show wD ((k+1)::w)=.lst (.int ((k:Int)+1)::iD w) from rfl];unfold wD;generalize iD w=WL at *;simp only[fLst,fCat,gm,bx,fNil,fBin,fVar,fC,gq,J,am,cx,show(0+1<=64)=True by simp,if_true,ah,af,ab,av,fg,ng]
        have s:Few ((wds f (dec h k)).map wD).length:=few (by rw[ac];have:=b k;rw[I,ac] at this;lia);have K:((wds f (dec h k)).map ((k+1)::·)).map wD=(wds f (dec h k)).map λw=>wD ((k+1)::w):=by rw[dn];rfl
        rw[K] at S ⊢;generalize (wds f (dec h k)).map (λw=>wD ((k+1)::w))=NEW at *;generalize (wds f (dec h k)).map wD=OLD at *;refine⟨[↑(.sh (.lst (iD h))),↑(.ow (ACC++NEW)),↑(.sh (.int (k:Nat))),↑(.sh (.int (h[k]:Int))),↑(.sh (.lst (iD (dec h k))))],?_,_,_,_,rfl⟩;show rh m [↑(.sh (.lst (iD h))),↑(.ow ACC),↑(.sh (.int (k:Nat))),↑(.sh (.int (h[k]:Int))),L]=_;rw[<-G] at v ⊢;generalize (iD h).take k=TK at *;generalize (iD h).drop (k+1)=DR at *;generalize iD h=HD at *;generalize h[k]=hk2 at *;have kk:((k:Int)+1)=((k+1:Nat):Int):=by lia
        simp only[rh,sIf,sSeq,sSet,jm,fTst,fBin,fVar,fC,dGt,i,if_true,fLst,fCat,fSl,fO0,fO1,ct,gq,kk,F,gm,bx,fNil,dSub,l,o,am,cx,show(0+1<=64)=True by simp,q9,iw,fiS,e8,v,s,bh,dm,kf,List.getD_cons_succ,capt,H,um,S,ah,af,aw,az,ab,av]
       ·have I:rowF f h k=[]:=by unfold rowF;rw[if_neg (by rw[U];exact c)]
        rw[I,dm,ce];have i:decide ((0:Int)<(h[k]:Int))=false:=decide_eq_false (by lia);refine⟨[↑(.sh (.lst (iD h))),↑(.ow ACC),↑(.sh (.int (k:Nat))),↑(.sh (.int (h[k]:Int))),L],?_,_,_,_,rfl⟩;show rh m [↑(.sh (.lst (iD h))),↑(.ow ACC),↑(.sh (.int (k:Nat))),↑(.sh (.int (h[k]:Int))),L]=_;generalize iD h=HD at *;generalize h[k]=hk2 at *;simp only[rh,sIf,sNil,fTst,fBin,fVar,fC,dGt,i,cr,if_false,ah,af,ab,av])
    rw[List.length_zipIdx,<-a] at h1;refine jv (e':=[↑(.sh (.lst (iD h))),↑(.sh (.lst ((wds (f+1) h).map wD))),V,Y,L]) rfl ?_;show mr m [↑(.sh (.lst (iD h))),none,none,none,none]=_;generalize (wds (f+1) h).map wD=RES at *;generalize iD h=HD at *;generalize (h.zipIdx 0).map (λz:Nat×Nat=>D.tup [D.int (z.2:Nat),D.int (z.1:Int)])=EN at *;simp only[mr,sSeq,sIf,sRet,sNil,sOwn,ma,e8,gy,bx,fNil,fVar,fC,fBin,fTst,fLst,gm,t,dEq,Z,hi,h1,cx,eo,if_true,cr,if_false,ah,af,aw,az,ab,av]
variable{ss:fh}
def zi{w:cd}:WOf (ss.map List.length) w↔Whole ss w:=by
 constructor
 ·intro q
  refine⟨λa I=>by have:=q.1 a I;rwa [ac] at this,λj s z=>?_⟩;have D:=(aq.mp z).1;rw[q.2 j (by rw[ac];exact D),ae,bu,z];rfl
 ·intro q
  refine⟨λa I=>by rw[ac];exact q.lo a I,λj D=>?_⟩;rw[ac] at D;have z:ss[j]?=↑ss[j]:=ak D;rw[q.cnt j _ z,ae,bu,z];rfl
theorem u7:∀(f:Nat) (h:cd),h.sum<f->wds f h≠[]
 |0,_,q=>by lia |f+1,h,q=>by
   unfold wds;split
   ·simp
   ·rename_i D
    obtain⟨j,z,p⟩:∃j,j<h.length/\0<h.getD j 0:=by
     by_cases c:∃j,j<h.length/\0<h.getD j 0
     ·exact c
     ·exfalso
      apply D;rw[g7];intro a I;obtain⟨j,z⟩:=List.mem_iff_getElem?.mp I;have l:=(aq.mp z).1;by_cases e:a=0
      ·exact e
      ·exact absurd ⟨j,l,by rw[ae,z];show 0<a;lia⟩ c
    intro e;have S:=lm h j p;obtain⟨v,L⟩:=List.exists_mem_of_ne_nil _ (u7 f (dec h j) (by lia));have:(j+1)::v∈(((List.range h.length).map λj=>if 0<h.getD j 0 then(wds f (dec h j)).map ((j+1)::·) else[]).flatten):=by
     refine cj.mpr ⟨_,bj.mpr ⟨j,cy.mpr z,rfl⟩,?_⟩;rw[if_pos p];exact bj.mpr ⟨v,L,rfl⟩
    rw[e] at this;exact absurd this ff
theorem zl6:∀(f g:Nat) (h:cd),h.sum<f->h.sum<g->wds f h=wds g h
 |0,_,_,q,_=>by lia |_,0,_,_,q=>by lia |f+1,g+1,h,q1,q2=>by
   unfold wds;split
   ·rfl
   ·congr 1
    refine e9 λj _=>?_;split
    ·rename_i p
     have z:=lm h j p;rw[zl6 f g (dec h j) (by lia) (by lia)]
    ·rfl
theorem zxd(I:ss.length<=5)(U:ss.flatten.length<=7):ze6 [ssL ss]=↑(.lst ((wds 9 (ss.map List.length)).map wD)):=by
 have sm:(ss.map List.length).sum=ss.flatten.length:=by rw[d8]
 have z:=zj5 9 (ss.map List.length) (by rw[ac];exact I) (by lia) (by lia);have sk:wv [ssL ss]=↑(.int (ss.flatten.length:Int)):=zo8 ss (by lia);have c:=ku (te:=g5 0) (base:=[]) (λs:ez=>D.lst (s.map sD)) (λs:ez=>D.int (s.length:Int)) ss λs _=>⟨[↑(.sh (.lst (s.map sD)))],by simp[g5]⟩;have L:Few (ss.map λs=>D.lst (s.map sD)).length:=few (by rw[ac];lia);have e:iD (ss.map List.length)=ss.map λs:ez=>D.int (s.length:Int):=by unfold iD;rw[dn];rfl
 have S:decide ((7:Int)<(ss.flatten.length:Int))=false:=decide_eq_false (by lia);refine jv (e':=[↑(.sh (ssL ss))]) rfl ?_;show ze5 [↑(.sh (ssL ss))]=_;rw[e] at z;generalize (wds 9 (ss.map List.length)).map wD=RES at *;unfold ze5;rw[show zb4=recD 5 1 mr 9 from rfl];generalize recD 5 1 mr 9=mo at *;unfold ssL at *;generalize (ss.map λs:ez=>D.int (s.length:Int))=LN at *;generalize (ss.map λs=>D.lst (s.map sD))=SL at *;simp only[sSeq,sIf,sRet,sNil,fTst,fBin,e8,bx,fNil,fVar,fC,fLst,iw,fiS,sk,dGt,S,L,c,z,dm,if_true,cr,if_false,ah,ab,av]
theorem zj6(S:ss.length<=5)(Z:ss.flatten.length<=7)(a:∀x∈ss.flatten,f9 x) :
  ∃w m k,St (CL ss 9 (ss.map List.length)) w m k/\zdx [ssL ss]=↑(.tup [.int w,.int m,.int k]):=by
 have sm:(ss.map List.length).sum=ss.flatten.length:=by rw[d8]
 have b:=zxd S Z;have L:=u7 9 (ss.map List.length) (by lia);have c:=o3 9 (ss.map List.length) (by lia);have I:=y1 9 (ss.map List.length) (by rw[ac];exact S);have I:=bi I (zxc (show(ss.map List.length).sum<=7 by lia));have d:=zuc (f:=9) (h:=ss.map List.length) (by lia);have g:((wds 9 (ss.map List.length)).map λo=>gf 0 (tk ss o)).Perm (CL ss 9 (ss.map List.length)):=by
  have:=d.map λo=>gf 0 (tk ss o);rw[dn] at this;exact this
 generalize wds 9 (ss.map List.length)=WS at *;have U:=ku (te:=e8 ua (bx (fVar 1) (bx (fVar 0) fNil))) (base:=[↑(.sh (ssL ss))]) wD (λo=>D.int (gf 0 (tk ss o))) WS λo i=>by
  have V:=zi.mp ((c o).mp i);have oc:=zfy V a (by lia) (by rw[V.len];lia);exact⟨[↑(.sh (wD o)),↑(.sh (ssL ss))],by simp only[e8,bx,fNil,fVar,oc,ah,af,ab,av]⟩
 have j:Few (WS.map wD).length:=few (by rw[ac];lia);have l:(WS.map λo=>D.int (gf 0 (tk ss o)))=(WS.map λo=>gf 0 (tk ss o)).map D.int:=by rw[dn];rfl
 rw[l] at U;have z:(WS.map λo=>gf 0 (tk ss o))≠[]:=λe=>L (d7.mp e);generalize n:(WS.map λo=>gf 0 (tk ss o))=cs at *;obtain⟨M,Y⟩:=zjs z;obtain⟨p,q⟩:=yw Y;have r:qf [.lst (cs.map D.int)]=↑(.int M):=by
  unfold qf;dsimp only;rw[ints_of,ab,Y];rfl
 have s:pv (.lst (cs.map D.int)) (.int M)=↑(.int (cs.count M:Nat)):=by
  unfold pv;dsimp only;rw[ints_of];rfl
 have st:St cs (cs.length:Int) M (cs.count M:Nat):=⟨rfl,λe=>absurd e z,λ_=>⟨p,q,rfl⟩⟩;refine⟨_,_,_,st.perm g,?_⟩;refine jv (e':=[↑(.sh (ssL ss)),↑(.sh (.lst (cs.map D.int))),↑(.sh (.int M))]) rfl ?_;show zdw [↑(.sh (ssL ss)),none,none]=_;have t:((cs.map D.int).length:Int)=(cs.length:Int):=by rw[ac]
 generalize cs.map D.int=CD at *;generalize WS.map wD=WD at *;generalize ssL ss=SS at *;simp only[zdw,sSeq,sSet,sRet,fLst,iw,fiS,e8,bx,fNil,fVar,fBin,fTup,g5,b,j,bh,dm,kf,capt,U,r,t,s,am,cx,show(0+1+1+1<=64)=True by simp,if_true,ah,af,aw,az,ab,av]
def pr(p:fh):Nat:=(p.map λs=>s.length+1).prod
def zug(p:fh)(s:ez):pr (p++[s])=pr p*(s.length+1):=by unfold pr;simp
def qv(p:fh):0<pr p:=by
 induction p with
 |nil=>decide |cons s p ih=>unfold pr at ih ⊢;rw[bh,List.prod_cons];exact Nat.mul_pos (gp _) ih
def sy(s:ez)(p:fh):pr (s::p)=(s.length+1)*pr p:=by unfold pr;rw[bh,List.prod_cons]
def dg:fh->Nat->cd
 | [],_=>[] |s::p,c=>c % (s.length+1)::dg p (c / (s.length+1))
def pi:∀(p:fh) (c:Nat),(dg p c).length=p.length
 | [],_=>rfl |s::p,c=>by rw[dg,am,pi p,am]
theorem xh:∀(p:fh) (c k:Nat),k<p.length->(dg p c).getD k 0=c / pr (p.take k) % ((p.getD k []).length+1)
 | [],_,_,h=>by cases h
 |s::p,c,0,_=>by
   rw[List.take_zero,show pr []=1 from rfl,Nat.div_one];rfl
 |s::p,c,k+1,h=>by
   rw[am] at h;rw[List.take_succ_cons,sy,<-Nat.div_div_eq_div_mul];show(dg p (c / (s.length+1))).getD k 0=_;rw[xh p _ k (by lia)];rfl
theorem xg(p:fh)(c k:Nat):(dg p c).getD k 0<=(p.getD k []).length:=by
 by_cases h:k<p.length
 ·rw[xh p c k h]
  have:=o6 (c / pr (p.take k)) (gp (p.getD k []).length)
  lia
 ·rw[ae,ca (by rw[pi];lia)]
  exact eo _
def dg_0:∀p:fh,(dg p 0).sum=0
 | []=>rfl |s::p=>by rw[dg,dw,Nat.zero_mod,Nat.zero_div,dg_0 p]
theorem zrx:∀p:fh,dg p (pr p-1)=p.map List.length
 | []=>rfl |s::p=>by
   have h:=qv p;obtain⟨q,hq⟩:∃q,pr p=q+1:=⟨pr p-1,by lia⟩;have z:=zrx p;rw[hq] at z;rw[dg,sy,hq,bh];have e:(s.length+1)*(q+1)-1=s.length+(s.length+1)*q:=by rw[Nat.mul_add];lia
   rw[e,i8,l0 (d3 _),j5 _ _ (gp _),l3 (d3 _),iz];rw[show q+1-1=q by lia] at z;rw[z]
theorem zry:∀(p:fh) (c k:Nat),k<p.length->0<(dg p c).getD k 0->pr (p.take k)<=c/\dg p (c-pr (p.take k))=dec (dg p c) k
 | [],_,_,h,_=>by cases h
 |s::p,c,0,_,h=>by
   have h:0<c % (s.length+1):=h;rw[List.take_zero,show pr []=1 from rfl];have h2:=m9 c (s.length+1);have D:c % (s.length+1)<s.length+1:=o6 _ (gp _);have U:1<=c:=by
    by_cases z:c=0
    ·subst z;simp at h
    ·lia
   refine⟨U,?_⟩;obtain⟨r,hr⟩:∃r,c % (s.length+1)=r+1:=⟨c % (s.length+1)-1,by lia⟩;have e:c-1=r+(s.length+1)*(c / (s.length+1)):=by lia
   rw[dg,dg];have V:(c-1) % (s.length+1)=r:=by rw[e,i8,l0 (by lia)]
   have Y:(c-1) / (s.length+1)=c / (s.length+1):=by
    rw[e,j5 _ _ (gp _),l3 (show r<s.length+1 by lia),iz]
   rw[V,Y,hr];rfl
 |s::p,c,k+1,h,I=>by
   rw[am] at h;have I:0<(dg p (c / (s.length+1))).getD k 0:=I;obtain⟨S,Z⟩:=zry p (c / (s.length+1)) k (by lia) I;rw[List.take_succ_cons,sy];have h2:=m9 c (s.length+1);generalize hP:pr (p.take k)=P at *;have L:(s.length+1)*P<=c:=by
    have:=Nat.mul_le_mul_left (s.length+1) S
    lia
   refine⟨L,?_⟩;have e:c-(s.length+1)*P=c % (s.length+1)+(s.length+1)*(c / (s.length+1)-P):=by
    rw[Nat.mul_sub];have:=Nat.mul_le_mul_left (s.length+1) S
    lia
   rw[dg,dg];have D:c % (s.length+1)<s.length+1:=o6 _ (gp _);rw[e,i8,l0 D,j5 _ _ (gp _),l3 D,iz,Z];rfl
theorem zrz:∀(p:fh) (c:Nat),c<pr p->(dg p c).sum=0->c=0
 | [],c,h,_=>by have:c<1:=h;lia |s::p,c,h,e=>by
   rw[dg,dw] at e;rw[sy] at h;have h1:c / (s.length+1)=0:=zrz p _ (Nat.div_lt_of_lt_mul h) (by lia);have h2:=m9 c (s.length+1);rw[h1] at h2
   lia
theorem yc:∀(p:fh) (c:Nat),(dg p c).sum<=p.flatten.length
 | [],_=>bg 0 |s::p,c=>by
   rw[dg,dw,bw,aj];have:=yc p (c / (s.length+1));have:=o6 c (gp s.length)
   lia
def zxe:∀(p:fh),(∀s∈p,s.length<=7)->pr p<=8 ^ p.length
 | [],_=>bg 1 |s::p,h=>by
   rw[sy,am,Nat.pow_succ,Nat.mul_comm];exact Nat.mul_le_mul (zxe p λt z=>h t (ai _ z)) (lz (h s au))
theorem zpe:∀(X:ez) (h:Int),0<=h->(∀x∈X,0<=x.2.1/\0<=x.2.2)->0<=gf h X
 | [],_,_,_=>g9 0 |x::X,h,h0,hg=>by
   have z:=hg x au;have I:=zpe X (h+x.2.1) (by lia) λy D=>hg y (ai _ D);rw[gf];have:=j9 z.2 (show 0<=h+x.2.1 by lia)
   lia
theorem xf(D:∀x∈ss.flatten,f9 x)(j c:Nat):0<=((ss.getD j []).getD c (0,0,0)).2.1/\0<=((ss.getD j []).getD c (0,0,0)).2.2/\((ss.getD j []).getD c (0,0,0)).2.2<=100:=by
 by_cases h:c<(ss.getD j []).length
 ·have I:j<ss.length:=by
   by_cases z:j<ss.length
   ·exact z
   ·rw[ae,ca (by lia)] at h;cases h
  have L:ss[j]?=↑(ss.getD j []):=by rw[ae,ak I];rfl
  have S:(ss.getD j []).getD c (0,0,0)∈ss.getD j []:=by rw[ae (l:=ss.getD j []),ak h];exact il h
  have:=D _ (cj.mpr ⟨_,bn L,S⟩);unfold f9 at this
  lia
 ·rw[ae (l:=ss.getD j []),ca (by lia)]
  exact⟨g9 0,g9 0,by decide⟩
def zyv(D:∀x∈ss.flatten,f9 x)(f:Nat)(h:cd):∀x∈CL ss f h,0<=x:=λx I=>by
 obtain⟨w,_,rfl⟩:=bj.mp I;refine zpe _ 0 (g9 0) λy z=>?_;unfold tk at z;obtain⟨i,_,rfl⟩:=bj.mp z;have:=xf D ((w.reverse.getD i 0)-1) ((w.reverse.take i).count (w.reverse.getD i 0));exact⟨this.1,this.2.1⟩
def zuk(D:∀x∈ss.flatten,f9 x)(h:cd):0<=ka ss h:=zo7 _ _ λk z=>uz _ λx I=>by
 have z:=cy.mp z;have L:ss[k]?=↑(ss.getD k []):=by rw[ae,ak z];rfl
 exact D x (cj.mpr ⟨_,bn L,j8 I⟩)
abbrev dOf(ss:fh)(h:cd)(j:Nat):Int:=((ss.getD j []).getD (h.getD j 0-1) (0,0,0)).2.2*ka ss h
abbrev rwF(ss:fh)(h:cd)(j:Nat):ci:=if 0<h.getD j 0 then(CL ss 8 (dec h j)).map (· + dOf ss h j) else[]
abbrev Tr:=Int×Int×Int
abbrev trD(r:Tr):D:=.lst [.int r.1,.int r.2.1,.int r.2.2]
abbrev stp(p:fh):em:=(List.range (p.length+1)).map λi=>D.int ((pr (p.take i):Nat):Int)
theorem zr0{p:fh}{k:Nat}(h:k<=p.length):atI (stp p) (k:Int)=↑(.int ((pr (p.take k):Nat):Int)):=j1 (λi=>D.int ((pr (p.take i):Nat):Int)) (iy (by lia))
def stp_last(p:fh):atI (stp p) (-1)=↑(.int ((pr p:Nat):Int)):=by
 unfold stp;rw[fu,b7,i4,zo9,ji]
theorem zxf(G:∀x∈ss.flatten,f9 x)(hn:ss.length<=5){c:Nat}{I:List Tr}{v2:et}(hc:I.length=c)(hr:∀(i:Nat) (r:Tr),I[i]?=↑r->St (CL ss 9 (dg ss i)) r.1 r.2.1 r.2.2)(h7:ss.flatten.length<=7)(Z a b:et):∃w m q V L S,St (((List.range ss.length).map (rwF ss (dg ss c))).flatten) w m q /\
  forL 10 m8 (rngD 0 ss.length) [↑(.sh (ssL ss)),↑(.ow (stp ss)),v2,↑(.ow (I.map trD)),↑(.sh (.int (c:Int))),↑(.sh (.lst (iD (dg ss c)))),↑(.sh (.int (ka ss (dg ss c)))),↑(.sh (.int 0)),↑(.sh (.int (-1))),↑(.sh (.int 0)),Z,a,b] =
   ↑(.nx,[↑(.sh (ssL ss)),↑(.ow (stp ss)),v2,↑(.ow (I.map trD)),↑(.sh (.int (c:Int))),↑(.sh (.lst (iD (dg ss c)))),↑(.sh (.int (ka ss (dg ss c)))),↑(.sh (.int w)),↑(.sh (.int m)),↑(.sh (.int q)),V,L,S]):=by
 obtain⟨e',h1,w,m,q,V,L,S,st,rfl⟩:=ny (i:=10) (g:=m8) (λk e=>∃w m q V L S,St (((List.range k).map (rwF ss (dg ss c))).flatten) w m q/\e=[↑(.sh (ssL ss)),↑(.ow (stp ss)),v2,↑(.ow (I.map trD)),↑(.sh (.int (c:Int))),↑(.sh (.lst (iD (dg ss c)))),↑(.sh (.int (ka ss (dg ss c)))),↑(.sh (.int w)),↑(.sh (.int m)),↑(.sh (.int q)),V,L,S])
  (rngD 0 ss.length) [↑(.sh (ssL ss)),↑(.ow (stp ss)),v2,↑(.ow (I.map trD)),↑(.sh (.int (c:Int))),↑(.sh (.lst (iD (dg ss c)))),↑(.sh (.int (ka ss (dg ss c)))),↑(.sh (.int 0)),↑(.sh (.int (-1))),↑(.sh (.int 0)),Z,a,b] ⟨0,-1,0,Z,a,b,St.nil,rfl⟩ (by
    rintro k d e T ⟨w,m,q,V,L,S,st,rfl⟩;obtain⟨rfl,W⟩:=nr T;rw[en];have X:k<(dg ss c).length:=by rw[pi];exact W
    have Y:atI (iD (dg ss c)) (k:Int)=↑(.int ((dg ss c).getD k 0:Nat)):=by
     have e0:(dg ss c)[k]?=↑((dg ss c).getD k 0):=by rw[ae,ak X];rfl
     exact j1 (λn:Nat=>D.int (n:Int)) e0
    have ef:((List.range (k+1)).map (rwF ss (dg ss c))).flatten=((List.range k).map (rwF ss (dg ss c))).flatten++rwF ss (dg ss c) k:=by
     rw[fu,b7,d9];simp
    have nn:∀x∈((List.range k).map (rwF ss (dg ss c))).flatten,0<=x:=λx v=>by
     obtain⟨l,hl,v⟩:=cj.mp v;obtain⟨j,_,rfl⟩:=bj.mp hl;unfold rwF at v;split at v
     ·obtain⟨y,hy,rfl⟩:=bj.mp v
      have:=zyv G 8 _ y hy;have:=j9 (xf G j ((dg ss c).getD j 0-1)).2.1 (zuk G (dg ss c));unfold dOf
      lia
     ·exact absurd v ff
    rw[ef];by_cases H:0<(dg ss c).getD k 0
    ·obtain⟨d1,d2⟩:=zry ss c k W H
     have pk:=qv (ss.take k);have J:=zr0 (p:=ss) (k:=k) (by lia);have aa:c-pr (ss.take k)<I.length:=by lia
     obtain⟨r,hre⟩:∃r,I[c-pr (ss.take k)]?=↑r:=⟨_,ak aa⟩;have f:=hr _ r hre;rw[d2] at f;have sd:=lm (dg ss c) k H;have ds:=yc ss c;have fe:CL ss 9 (dec (dg ss c) k)=CL ss 8 (dec (dg ss c) k):=by unfold CL;rw[zl6 9 8 _ (by lia) (by lia)]
     rw[fe] at f;have B:CL ss 8 (dec (dg ss c) k)≠[]:=λe=>u7 8 (dec (dg ss c) k) (by lia) (d7.mp e);have K:rwF ss (dg ss c) k=(CL ss 8 (dec (dg ss c) k)).map (· + dOf ss (dg ss c) k):=by unfold rwF;rw[if_pos H]
     have C:=f.add B (dOf ss (dg ss c) k);rw[<-K] at C;have h:=st.app C (by rw[K];exact λe=>B (d7.mp e)) nn;have E:atI (I.map trD) ((c:Int)-((pr (ss.take k):Nat):Int))=↑(trD r):=by
      rw[show(c:Int)-((pr (ss.take k):Nat):Int)=((c-pr (ss.take k):Nat):Int) by lia];exact j1 trD hre
     have hs:ss[k]?=↑(ss.getD k []):=by rw[ae,ak W];rfl
     have M:atI (ss.map λs=>D.lst (s.map sD)) (k:Int)=↑(.lst ((ss.getD k []).map sD)):=j1 (λs:ez=>D.lst (s.map sD)) hs;have dl:=xg ss c k;have F:atI ((ss.getD k []).map sD) (((dg ss c).getD k 0:Nat)-1:Int)=↑(sD ((ss.getD k []).getD ((dg ss c).getD k 0-1) (0,0,0))):=by
      rw[show(((dg ss c).getD k 0:Nat)-1:Int)=(((dg ss c).getD k 0-1:Nat):Int) by lia];refine j1 sD ?_;rw[ae (l:=ss.getD k []),ak (by lia)];rfl
     have lb:=xf G k ((dg ss c).getD k 0-1);unfold dOf at h;generalize (ss.getD k []).getD ((dg ss c).getD k 0-1) (0,0,0)=x at *;have mm:dMul (.int x.2.2) (.int (ka ss (dg ss c)))=↑(.int (x.2.2*ka ss (dg ss c))):=ot (kz (by lia));have gt:decide ((0:Int)<((dg ss c).getD k 0:Nat))=true:=decide_eq_true (by lia);obtain⟨o,U,t⟩:=r;have N:atI [D.int o,.int U,.int t] 0=↑(.int o):=rfl;have O:atI [D.int o,.int U,.int t] 1=↑(.int U):=rfl;have R2:atI [D.int o,.int U,.int t] 2=↑(.int t):=rfl;have P:atI [D.int x.1,.int x.2.1,.int x.2.2] 2=↑(.int x.2.2):=rfl;rw[show sD x=.tup [.int x.1,.int x.2.1,.int x.2.2] from rfl] at F;rw[show trD (o,U,t)=.lst [.int o,.int U,.int t] from rfl] at E;dsimp only at h;generalize x.2.2*ka ss (dg ss c)=dd at *;refine⟨_,?_,_,_,_,↑(.sh (.int (k:Int))),↑(.sh (.lst [.int o,.int U,.int t])),↑(.sh (.int (U+dd))),h,rfl⟩;show m8 [↑(.sh (ssL ss)),↑(.ow (stp ss)),v2,↑(.ow (I.map trD)),↑(.sh (.int (c:Int))),↑(.sh (.lst (iD (dg ss c)))),↑(.sh (.int (ka ss (dg ss c)))),↑(.sh (.int w)),↑(.sh (.int m)),↑(.sh (.int q)),↑(.sh (.int (k:Int))),L,S]=_;unfold ssL;generalize iD (dg ss c)=TD at *;generalize ((dg ss c).getD k 0:Nat)=tk0 at *;generalize ka ss (dg ss c)=HO at *;generalize I.map trD=RD at *;generalize stp ss=SD at *;generalize (ss.map λs=>D.lst (s.map sD))=SL at *;by_cases u:m<0\/U+dd<m
     ·rw[if_pos u,if_pos u]
      by_cases c0:m<0
      ·have A:decide (m<0)=true:=decide_eq_true c0
       simp only[m8,sIf,sSeq,sSet,sNil,fTst,fBin,fIxV,ixSl,fVar,fC,dGt,gt,Y,J,dSub,E,N,O,R2,dIx,M,F,P,mm,gq,fOr,dLt,A,dEq,decide_true,en,if_true,ah,af,aw,az,ab,av]
      ·have A:decide (m<0)=false:=decide_eq_false c0
       have Q:decide (U+dd<m)=true:=decide_eq_true (u.resolve_left c0);simp only[m8,sIf,sSeq,sSet,sNil,fTst,fBin,fIxV,ixSl,fVar,fC,dGt,gt,Y,J,dSub,E,N,O,R2,dIx,M,F,P,mm,gq,fOr,dLt,A,Q,dEq,decide_true,en,if_true,cr,if_false,ah,af,aw,az,ab,av]
     ·rw[if_neg u,if_neg u]
      have A:decide (m<0)=false:=decide_eq_false λz=>u (.inl z);have Q:decide (U+dd<m)=false:=decide_eq_false λz=>u (.inr z);by_cases R:U+dd=m
      ·have b3:decide (U+dd=m)=true:=decide_eq_true R
       rw[if_pos R];simp only[m8,sIf,sSeq,sSet,sNil,fTst,fBin,fIxV,ixSl,fVar,fC,dGt,gt,Y,J,dSub,E,N,O,R2,dIx,M,F,P,mm,gq,fOr,dLt,A,Q,b3,dEq,if_true,cr,if_false,ah,af,aw,az,ab,av]
      ·have b3:decide (U+dd=m)=false:=decide_eq_false R
       rw[if_neg R];simp only[m8,sIf,sSeq,sSet,sNil,fTst,fBin,fIxV,ixSl,fVar,fC,dGt,gt,Y,J,dSub,E,N,O,R2,dIx,M,F,P,mm,gq,fOr,dLt,A,Q,b3,dEq,if_true,cr,if_false,ah,af,aw,az,ab,av]
    ·have K:rwF ss (dg ss c) k=[]:=by unfold rwF;rw[if_neg H]
     rw[K,ce];have gt:decide ((0:Int)<((dg ss c).getD k 0:Nat))=false:=decide_eq_false (by lia);refine⟨[↑(.sh (ssL ss)),↑(.ow (stp ss)),v2,↑(.ow (I.map trD)),↑(.sh (.int (c:Int))),↑(.sh (.lst (iD (dg ss c)))),↑(.sh (.int (ka ss (dg ss c)))),↑(.sh (.int w)),↑(.sh (.int m)),↑(.sh (.int q)),↑(.sh (.int (k:Int))),L,S],?_,w,m,q,_,_,_,st,rfl⟩;show m8 [↑(.sh (ssL ss)),↑(.ow (stp ss)),v2,↑(.ow (I.map trD)),↑(.sh (.int (c:Int))),↑(.sh (.lst (iD (dg ss c)))),↑(.sh (.int (ka ss (dg ss c)))),↑(.sh (.int w)),↑(.sh (.int m)),↑(.sh (.int q)),↑(.sh (.int (k:Int))),L,S]=_;generalize iD (dg ss c)=TD at *;simp only[m8,sIf,sNil,fTst,fBin,fIxV,ixSl,fVar,fC,dGt,gt,Y,cr,if_false,ah,af,aw,az,ab,av])
 rw[n4] at st;exact⟨w,m,q,V,L,S,st,h1⟩
def zpf(n:Nat):rngD 0 n=(List.range n).map λi:Nat=>D.int (0+(i:Int)):=rfl
theorem zm7(a:pr ss<=100000)(c:Nat):j0 fYes (fBin dMod (fBin dDiv (fVar 1) (fIxV 2 (fVar 0))) (fBin gq (e8 bLen (bx (fIxV 3 (fVar 0)) fNil)) (fC (.int 1)))) [↑(.sh (.int (c:Int))),↑(.sh (.lst (stp ss))),↑(.sh (ssL ss))] (rngD 0 ss.length)=↑(iD (dg ss c)):=by
 rw[zpf];have I:=ku (te:=fBin dMod (fBin dDiv (fVar 1) (fIxV 2 (fVar 0))) (fBin gq (e8 bLen (bx (fIxV 3 (fVar 0)) fNil)) (fC (.int 1)))) (base:=[↑(.sh (.int (c:Int))),↑(.sh (.lst (stp ss))),↑(.sh (ssL ss))]) (λi:Nat=>D.int (0+(i:Int))) (λi:Nat=>D.int (((dg ss c).getD i 0:Nat):Int)) (List.range ss.length) λj z=>by
  have z:=cy.mp z;have L:ss[j]?=↑(ss.getD j []):=by rw[ae,ak z];rfl
  have S:atI (ss.map λs=>D.lst (s.map sD)) (0+(j:Int))=↑(.lst ((ss.getD j []).map sD)):=by rw[en];exact j1 (λs:ez=>D.lst (s.map sD)) L
  have U:atI (stp ss) (0+(j:Int))=↑(.int ((pr (ss.take j):Nat):Int)):=by rw[en];exact zr0 (by lia)
  have b:=qv (ss.take j);have pl:pr (ss.take j)<=pr ss:=by
   have:pr ss=pr (ss.take j)*pr (ss.drop j):=by
    conv=>lhs;rw[<-jw j ss]
    unfold pr;rw[b7,List.prod_append]
   rw[this];exact Nat.le_mul_of_pos_right _ (qv _)
  have V:dDiv (.int (c:Int)) (.int ((pr (ss.take j):Nat):Int))=↑(.int ((c:Int) / ((pr (ss.take j):Nat):Int))):=ztn (by lia) (by lia);have Y:((((ss.getD j []).map sD).length:Nat):Int)=((ss.getD j []).length:Int):=by rw[ac]
  have mo:dMod (.int ((c:Int) / ((pr (ss.take j):Nat):Int))) (.int (((ss.getD j []).length:Int)+1))=↑(.int ((c:Int) / ((pr (ss.take j):Nat):Int) % (((ss.getD j []).length:Int)+1))):=ztm (by lia);have Z:(c:Int) / ((pr (ss.take j):Nat):Int) % (((ss.getD j []).length:Int)+1)=(((dg ss c).getD j 0:Nat):Int):=by
   rw[xh ss c j z];rfl
  rw[Z] at mo;refine⟨[↑(.sh (.int (0+(j:Int)))),↑(.sh (.int (c:Int))),↑(.sh (.lst (stp ss))),↑(.sh (ssL ss))],?_⟩;unfold ssL;generalize stp ss=SD at *;generalize (ss.map λs=>D.lst (s.map sD))=SL at *;simp only[fBin,fVar,fIxV,ixSl,e8,bx,fNil,fC,U,V,S,bLen,Y,gq,mo,ah,af,aw,az,ab,av]
 rw[I];congr 1;unfold iD;apply List.ext_getElem
 ·rw[ac,ac,ie,pi]
 ·intro i h1 h2
  rw[List.getElem_map,List.getElem_map,List.getElem_range,ae,ak (by simpa using h2)];rfl
theorem zpg(Z:ss.flatten.length<=7)(c:Nat):j0 fYes (e8 bSum (bx (fLst (iw (fiS (fLst (fSl (fIxV 1 (fVar 0)) fO0 (fO1 (fIxV 2 (fVar 0)))))) [] fYes (fIxV 0 (fC (.int 1))))) fNil)) [↑(.sh (ssL ss)),↑(.sh (.lst (iD (dg ss c))))] (rngD 0 ss.length)=↑((List.range ss.length).map λi=>D.int (hrs ((ss.getD i []).take ((dg ss c).getD i 0)))):=by
 rw[zpf];refine ku (λi:Nat=>D.int (0+(i:Int))) (λi:Nat=>D.int (hrs ((ss.getD i []).take ((dg ss c).getD i 0)))) (List.range ss.length) λj z=>?_;have z:=cy.mp z;have I:ss[j]?=↑(ss.getD j []):=by rw[ae,ak z];rfl
 have L:atI (ss.map λs=>D.lst (s.map sD)) (0+(j:Int))=↑(.lst ((ss.getD j []).map sD)):=by rw[en];exact j1 (λs:ez=>D.lst (s.map sD)) I
 have S:atI (iD (dg ss c)) (0+(j:Int))=↑(.int (((dg ss c).getD j 0:Nat):Int)):=by
  rw[en];have U:(dg ss c)[j]?=↑((dg ss c).getD j 0):=by rw[ae,ak (by rw[pi];exact z)];rfl
  exact j1 (λn:Nat=>D.int (n:Int)) U
 have dl:=xg ss c j;have ct:=zl0 ((ss.getD j []).map sD) ((dg ss c).getD j 0) (by rw[ac];exact dl);rw[<-r8] at ct;have a:=(cg (bn I)).length_le;have V:Few (((ss.getD j []).take ((dg ss c).getD j 0)).map sD).length:=few (by rw[ac,dq];lia);have Y:=ku (te:=fIxV 0 (fC (.int 1))) (base:=[]) sD (λx:Sk=>D.int x.2.1) ((ss.getD j []).take ((dg ss c).getD j 0)) λs _=>⟨_,by simp[sD,o9];rfl⟩;have bs:=sf (λx:Sk=>x.2.1) ((ss.getD j []).take ((dg ss c).getD j 0));refine⟨[↑(.sh (.int (0+(j:Int)))),↑(.sh (ssL ss)),↑(.sh (.lst (iD (dg ss c))))],?_⟩;unfold ssL;rw[show hrs ((ss.getD j []).take ((dg ss c).getD j 0))=(((ss.getD j []).take ((dg ss c).getD j 0)).map λx:Sk=>x.2.1).sum from rfl];generalize ((ss.getD j []).take ((dg ss c).getD j 0)).map (λx:Sk=>D.int x.2.1)=H1 at *;generalize ((ss.getD j []).take ((dg ss c).getD j 0)).map sD=H2 at *;generalize (((ss.getD j []).take ((dg ss c).getD j 0)).map λx:Sk=>x.2.1).sum=H3 at *;generalize iD (dg ss c)=TD at *;generalize (ss.map λs=>D.lst (s.map sD))=SL at *;simp only[e8,bx,fNil,fLst,iw,fiS,fSl,fO0,fO1,fVar,fIxV,ixSl,fC,L,S,ct,V,Y,bs,dm,if_true,ah,af,aw,az,ab,av]
theorem zq4(C:∀x∈ss.flatten,f9 x)(E:ss.length<=5)(B:ss.flatten.length<=7)(F:pr ss<=100000)(v2:et) :
  ∃(z:List Tr) (l U V Y Z a I L S:et),z.length=pr ss/\(∀(i:Nat) (r:Tr),z[i]?=↑r->St (CL ss 9 (dg ss i)) r.1 r.2.1 r.2.2) /\
  forL 4 ue (rngD 1 (pr ss-1)) [↑(.sh (ssL ss)),↑(.ow (stp ss)),v2,↑(.ow [trD (1,0,1)]),none,none,none,none,none,none,none,none,none] =
   ↑(.nx,[↑(.sh (ssL ss)),↑(.ow (stp ss)),v2,↑(.ow (z.map trD)),l,U,V,Y,Z,a,I,L,S]):=by
 have P:=qv ss;obtain⟨e',h1,z,l,U,V,Y,Z,a,I,L,S,n,o,rfl⟩:=ny (i:=4) (g:=ue) (λi e=>∃(z:List Tr) (l U V Y Z a I L S:et),z.length=i+1/\(∀(j:Nat) (r:Tr),z[j]?=↑r->St (CL ss 9 (dg ss j)) r.1 r.2.1 r.2.2)/\e=[↑(.sh (ssL ss)),↑(.ow (stp ss)),v2,↑(.ow (z.map trD)),l,U,V,Y,Z,a,I,L,S])
  (rngD 1 (pr ss-1)) [↑(.sh (ssL ss)),↑(.ow (stp ss)),v2,↑(.ow [trD (1,0,1)]),none,none,none,none,none,none,none,none,none] ⟨[(1,0,1)],none,none,none,none,none,none,none,none,none,rfl,λj r h=>by
    have b:j=0:=by have:=(aq.mp h).1;simpa using this
    subst b;cases h;have G:CL ss 9 (dg ss 0)=[0]:=by
     unfold CL;rw[wds,if_pos (dg_0 ss)];rfl
    rw[G];exact⟨rfl,λe=>(by cases e),λ_=>⟨by simp,λx H=>by cases df.mp H;exact g9 0,rfl⟩⟩,rfl⟩ (by
    rintro i d e p ⟨z,l,U,V,Y,Z,a,I,L,S,n,o,rfl⟩;obtain⟨rfl,hi⟩:=nr p;rw[show(1:Int)+(i:Int)=((i+1:Nat):Int) by lia];have tc:=zm7 F (i+1);have J:=zpg B (i+1);have bs:=sf (λk:Nat=>hrs ((ss.getD k []).take ((dg ss (i+1)).getD k 0))) (List.range ss.length);rw[show((List.range ss.length).map λk:Nat=>hrs ((ss.getD k []).take ((dg ss (i+1)).getD k 0))).sum=ka ss (dg ss (i+1)) from rfl] at bs;have t:=md ss.length (by lia);have K:Few (rngD 0 ss.length).length:=few (by rw[n4];lia);have u:(iD (dg ss (i+1))).all qg=true:=by
     unfold iD;rw[List.all_map];exact fj.mpr λ_ _=>rfl
    obtain⟨w,m,q,v,y,A,st,h2⟩:=zxf (v2:=v2) C E n o B I L S;have ds:=yc ss (i+1);have M:(dg ss (i+1)).sum≠0:=λe=>by
     have:=zrz ss (i+1) (by lia) e
     lia
    have cs:=zue (ss:=ss) (f:=8) (h:=dg ss (i+1)) (pi ss _) (λk=>xg ss (i+1) k) (by lia) M;rw[pi] at cs;rw[show((List.range ss.length).map (rwF ss (dg ss (i+1)))).flatten=CL ss 9 (dg ss (i+1)) from cs.symm] at st;have fa:Few ((z.map trD).length+1):=few (by rw[ac];lia);refine⟨[↑(.sh (ssL ss)),↑(.ow (stp ss)),v2,↑(.ow ((z++[(w,m,q)]).map trD)),↑(.sh (.int ((i+1:Nat):Int))),↑(.sh (.lst (iD (dg ss (i+1))))),↑(.sh (.int (ka ss (dg ss (i+1))))),↑(.sh (.int w)),↑(.sh (.int m)),↑(.sh (.int q)),v,y,A],?_,z++[(w,m,q)],_,_,_,_,_,_,_,_,_,by rw[aj,cu];lia,λj r b=>?_,rfl⟩
    ·show ue [↑(.sh (ssL ss)),↑(.ow (stp ss)),v2,↑(.ow (z.map trD)),↑(.sh (.int ((i+1:Nat):Int))),U,V,Y,Z,a,I,L,S]=_
     rw[b7,i4];have lss:(((ss.map λs=>D.lst (s.map sD)).length:Nat):Int)=(ss.length:Int):=by rw[ac]
     unfold ssL at *;generalize ((List.range ss.length).map λk:Nat=>D.int (hrs ((ss.getD k []).take ((dg ss (i+1)).getD k 0))))=HL at *;generalize iD (dg ss (i+1))=TD at *;generalize ka ss (dg ss (i+1))=HO at *;generalize z.map trD=RD at *;generalize stp ss=SD at *;generalize (ss.map λs=>D.lst (s.map sD))=SL at *;generalize rngD 0 ss.length=RN at *;simp only[ue,sSeq,sSet,sFor,jm,fLst,pw,iw,gy,e8,bx,fNil,g5,lss,t,K,if_true,bh,dm,kf,List.getD_cons_succ,lg,capt,tc,u,J,bs,fC,fUn,dNeg,h2,ky,pd,gm,fVar,fa,am,cx,show(0+1+1+1<=64)=True by simp,ah,af,aw,az,ab,av]
    ·by_cases c:j<z.length
     ·rw[b9 c] at b
      exact o j r b
     ·have N:=(aq.mp b).1
      rw[aj,cu] at N;have O:j=i+1:=by lia
      subst O;rw[<-n,og] at b;cases b;exact st)
 rw[n4] at n;exact⟨z,l,U,V,Y,Z,a,I,L,S,by lia,o,h1⟩
theorem zq5(p:fh)(s:ez):stp (p++[s])=stp p++[.int ((pr (p++[s]):Nat):Int)]:=by
 unfold stp;rw[aj,cu,fu,b7,i4];congr 1
 ·refine e9 λi hi=>?_
  have:=cy.mp hi;rw[ip (by lia)]
 ·rw[ic (by simp)]
theorem ir2(h1:0<n)(h2:n<=100000):iR2 [.int 1,.int (n:Int)]=↑(rngD 1 (n-1)):=by
 unfold iR2;dsimp only;rw[if_pos ⟨⟨by decide,by decide⟩,⟨by lia,by lia⟩⟩,show((n:Int)-1).toNat=n-1 by lia]
theorem zj7(h:∀x∈ss.flatten,f9 x)(Y:ss.length<=5)(Z:ss.flatten.length<=7) :
  ∃w m k,St (CL ss 9 (ss.map List.length)) w m k/\ze8 [ssL ss]=↑(.lst [.int w,.int m,.int k]):=by
 have a:∀s∈ss,s.length<=7:=λs j=>bi (cg j).length_le Z;have b:pr ss<=100000:=bi (zxe ss a) (bi (j4 (by decide) Y) (by decide));have l:=qv ss;obtain⟨J,h1,v2,rfl⟩:=p8 (i:=2) (g:=zdy) (λs:ez=>D.lst (s.map sD)) (λp e=>∃v2,e=[↑(.sh (ssL ss)),↑(.ow (stp p)),v2,none,none,none,none,none,none,none,none,none,none]) ss [↑(.sh (ssL ss)),↑(.ow [.int 1]),none,none,none,none,none,none,none,none,none,none,none] ⟨none,rfl⟩ (by
  rintro p s q e I ⟨v2,rfl⟩;have n:=a s (by rw[I];simp);have pl:p.length<=5:=by have:=congrArg List.length I;simp at this;lia
  have o:=stp_last p;have t:(((s.map sD).length:Nat):Int)=(s.length:Int):=by rw[ac]
  have mm:dMul (.int ((pr p:Nat):Int)) (.int ((s.length:Int)+1))=↑(.int (((pr p:Nat):Int)*((s.length:Int)+1))):=yg (kz (by lia));have u:((pr p:Nat):Int)*((s.length:Int)+1)=((pr (p++[s]):Nat):Int):=by rw[zug];simp
  rw[u] at mm;have fa:Few ((stp p).length+1):=few (by unfold stp;rw[ac,ie];lia);refine⟨[↑(.sh (ssL ss)),↑(.ow (stp (p++[s]))),↑(.sh (.lst (s.map sD))),none,none,none,none,none,none,none,none,none,none],?_,_,rfl⟩;rw[zq5];generalize stp p=SP at *;generalize s.map sD=SL at *;simp only[zdy,jm,ky,pd,fBin,fIxV,ixSl,fUn,dNeg,fC,g5,o,t,gq,mm,fa,if_true,ah,af,aw,az,ab,av])
 obtain⟨z,v,y,A,B,C,E,L,S,U,c,F,h2⟩:=zq4 h Y Z b v2;obtain⟨r,hre⟩:∃r,z[pr ss-1]?=↑r:=⟨_,ak (by lia)⟩;have st:=F _ r hre;rw[zrx] at st;obtain⟨d,hR0⟩:∃d,z=d++[r]:=by
  have V:z≠[]:=λe=>by rw[e] at c;simp at c;lia
  refine⟨z.dropLast,?_⟩;have:z.getLast V=r:=by
   rw[List.getLast_eq_getElem];have:=(aq.mp hre).2;rw[<-this];congr 1
   lia
  rw[<-this,List.dropLast_concat_getLast]
 have f:atI (z.map trD) (-1)=↑(trD r):=by rw[hR0,b7,i4];exact zo9 _ _
 have G:=stp_last ss;have H:=ir2 l b;obtain⟨w,m,k⟩:=r;refine⟨w,m,k,st,?_⟩;refine jv (e':=[↑(.sh (ssL ss)),↑(.ow (stp ss)),v2,↑(.ow (z.map trD)),v,y,A,B,C,E,L,S,U]) rfl ?_;show ze7 [↑(.sh (ssL ss)),none,none,none,none,none,none,none,none,none,none,none,none]=_;rw[show trD (1,0,1)=D.lst [.int 1,.int 0,.int 1] from rfl] at h2;rw[show trD (w,m,k)=D.lst [.int w,.int m,.int k] from rfl] at f;unfold ssL at *;generalize z.map trD=RD at *;generalize stp ss=SD at *;generalize rngD 1 (pr ss-1)=RN at *;generalize (ss.map λs=>D.lst (s.map sD))=SL at *;simp only[ze7,sSeq,sOwn,sFor,sRet,gm,bx,fNil,fC,fiS,fVar,fLst,h1,gy,fIxV,ixSl,fUn,dNeg,G,H,h2,f,am,cx,show(0+1<=64)=True by simp,show(0+1+1+1<=64)=True by simp,if_true,ah,af,aw,az,ab,av]
theorem zul{l:ci}{w m k D z I:Int}(h:St l w m k)(h':St l D z I)(L:l≠[]):w=D/\m=z/\k=I:=by
 obtain⟨S,U,V⟩:=h.n L;obtain⟨Y,Z,b3⟩:=h'.n L;have e:m=z:=by
  have:=U z Y;have:=Z m S
  lia
 subst e;exact⟨by rw[h.w,h'.w],rfl,by rw[V,b3]⟩
theorem good(ns:ci)(i:ns.length<=63):zxb [.lst (ns.map D.int)]=↑(.bl true):=by
 obtain⟨cs,j,hd⟩:=zqt ns 15 (by lia);obtain⟨ss,Y,z⟩:=zol cs 7 (by lia) (by lia);rw[zyr] at z;have hd:uc [.lst (ns.map D.int),.int 15]=↑(.lst (cs.map D.int)):=hd;have z:vz [.lst (cs.map D.int),.int 7]=↑(ssL ss):=z;have f:=Y.many;have g:=Y.tot;have I:=Y.good;have Z:=zt0 ss (by lia);have a:=zhq ss (by lia) λs h=>bi (cg h).length_le (by lia);obtain⟨ts,ok,b⟩:=zhp ss I (by lia);have L:=ziu ok b I (by lia) (by lia);obtain⟨w,m,k,st,l⟩:=zj6 f g I;obtain⟨E,F,G,c,o⟩:=zj7 I f g;have sm:(ss.map List.length).sum=ss.flatten.length:=by rw[d8]
 have S:CL ss 9 (ss.map List.length)≠[]:=λe=>u7 9 (ss.map List.length) (by lia) (d7.mp e);obtain⟨rfl,rfl,rfl⟩:=zul st c S;obtain⟨p,q,_⟩:=st.n S;have U:=o3 9 (ss.map List.length) (by lia);have r:gf 0 (tk ss (iu ts))=m:=by
  have t:gf 0 (tk ss (iu ts))∈CL ss 9 (ss.map List.length):=bj.mpr ⟨(iu ts).reverse,(U _).mpr (u9.mpr (zi.mpr ok.whole)),by rw[j7]⟩;have u:=q _ t;obtain⟨v,x,y⟩:=bj.mp p;have A:=zi.mp (u9.mpr ((U v).mp x));have B:=least ok I A;rw[show flat ts=tk ss (iu ts) from(zt7 ok).symm] at B;rw[<-y] at u ⊢
  lia
 rw[r] at L;have C:=zlm m;have d:=zg9 [w,m,k] (by simp);have d:ug [.tup [.int w,.int m,.int k],.tup [.int w,.int m,.int k]]=↑(.bl true):=d;have V:D.lst (ss.map λs=>D.lst (s.map sD))=ssL ss:=rfl;refine jv (e':=[↑(.sh (.lst (ns.map D.int))),↑(.sh (ssL ss)),↑(.sh (ssL ss)),↑(.sh (.tup [.int w,.int m,.int k])),↑(.sh (.int m)),↑(.sh (.lst [.int w,.int m,.int k]))]) rfl ?_;show xi [↑(.sh (.lst (ns.map D.int))),none,none,none,none,none]=_;generalize ns.map D.int=NS at *;generalize cs.map D.int=CS at *;generalize (ss.map λs=>D.lst (s.map sD))=SD at *;generalize ssL ss=SL at *;simp only[xi,sSeq,sSet,sIf,sRet,sNil,e8,gy,bx,fNil,fVar,fC,fLst,hd,z,Z,V,l,L,o,fOr,fNot,fTst,a,fTup,fIxV,ixSl,xo,o9,qe,d,C,ql,fBin,dEq,decide_true,am,cx,show(0+1+1+1<=64)=True by simp,if_true,Bool.not_true,cr,if_false,ah,af,aw,az,ab,av]
end SQ
end
open PySem PySem.W PyProof.Rows
open L2 (us1 us2 us3 us4 us5)
theorem PySem.Challenge.cw_rotstacks_k14_least_of_all_holds : PySem.Challenge.rw_rotstacks_k14_least_of_all.Holds := by
 refine headO ?_
 k_fill
 refine L2.walkD (k:=13) (s:="_law_script") (l:=PySem.Challenge.rw_rotstacks_k14_least_of_all) ⟨rfl,by decide,by decide⟩ rfl rfl (λw h Y=>PySem.W.kIn_of Y) ?F;case F =>
  intro w mg fa h KX G hmg;refine' L2.law_mk KX G hmg ?a ?l ?c ?k ?b (SQ.ok_all _ _ _ _ _ _ _ _ _ _ _ _ _ _ _ _ _ _ _ _ _ _ _ _ _ _ _ _ _ _ _ _ _ _ _ _ _ _ _ _ _ _ _ _ _) SQ.good
  (case a=>k_is)
  (case l=>k_is)
  (case c=>k_is)
  (case k=>k_is)
  (case b=>exact λv=>rfl)
  all_goals first | (refine' L2.def_mk (by assumption) (by assumption) ?a ?l ?c ?k ?b;(case a=>k_is);(case l=>k_is);(case c=>k_is);(case k=>k_is);(case b=>first |exact us1 λ_=>rfl |exact us2 λ_ _=>rfl |exact us3 λ_ _ _=>rfl |exact us4 λ_ _ _ _=>rfl |exact us5 λ_ _ _ _ _=>rfl)) |exact PySem.W.mg_none_of KX G (by k_is) | (refine' L2.con_mk KX G ?a;(case a=>k_is)) |k_is

