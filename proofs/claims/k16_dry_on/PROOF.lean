import PyProof.Rows.All
import Wide.All
import OpenK.AllK
import Wide.FinOn
import Lean
import PyProof.EqAt
import PyProof.EqKinds
import PyProof.TupleCall
import PyProof.Draws
import PyProof.ZipIter
import PyProof.EnumMake
import PyProof.AttrMissHeap
import KE.KDictOf
import PyProof.Rows.SeqMore2
import PyProof.Rows.SortWalk
import PySem.Challenge.RW_rotstacks_k16_dry_on
set_option Elab.async false
set_option linter.all false
set_option maxRecDepth 100000
namespace L2
open PySem PySem.Spec PyProof.Rows
abbrev Key:=Sum Int Str
def keyIs:Key→Value→Bool
  | .inl k,v=>Value.isInt k v
  | .inr x,v=>Value.isStrOf x v
def keyH (w:World):Key→Int
  | .inl k=>hashInt k
  | .inr x=>hashStr w x
theorem keyIs_shape:∀ {k:Key} {v:Value},keyIs k v=true→(∃ i t,k=Sum.inl i∧v=Value.int i t)∨(∃ x t,k=Sum.inr x∧v=Value.str x t)
  | .inl i,v,h=>by
    obtain ⟨t,e⟩:=Value.isInt_shape (k:=i) (v:=v) h
    exact .inl ⟨i,t,rfl,e⟩
  | .inr x,v,h=>by
    obtain ⟨t,e⟩:=Value.isStrOf_shape (x:=x) (v:=v) h
    exact .inr ⟨x,t,rfl,e⟩
theorem key_ll (a b:Int):decide ((Sum.inl a:Key)=Sum.inl b)=(a==b):=by
  by_cases e:a=b
  · subst e; simp
  · have h:¬ (Sum.inl a:Key)=Sum.inl b:=fun q=>e (Sum.inl.inj q)
    rw [decide_eq_false h]
    exact (beq_eq_false_iff_ne.mpr e).symm
theorem key_rr (a b:Str):decide ((Sum.inr a:Key)=Sum.inr b)=decide (a=b):=by
  by_cases e:a=b
  · subst e; simp
  · have h:¬ (Sum.inr a:Key)=Sum.inr b:=fun q=>e (Sum.inr.inj q)
    rw [decide_eq_false h,decide_eq_false e]
theorem key_lr (a:Int) (b:Str):decide ((Sum.inl a:Key)=Sum.inr b)=false:=decide_eq_false (fun q=>nomatch q)
theorem key_rl (a:Str) (b:Int):decide ((Sum.inr a:Key)=Sum.inl b)=false:=decide_eq_false (fun q=>nomatch q)
def mixKind (prog:Program) (w:World):PySem.KeyKind prog w Key where
  is:=keyIs
  hash:=keyH w
  inj:=fun v a b ha hb=>by
    rcases keyIs_shape ha with ⟨i,t,rfl,rfl⟩ | ⟨x,t,rfl,rfl⟩
    · rcases keyIs_shape hb with ⟨j,u,rfl,e⟩ | ⟨y,u,rfl,e⟩
      · injection e with e1 _; rw [e1]
      · exact nomatch e
    · rcases keyIs_shape hb with ⟨j,u,rfl,e⟩ | ⟨y,u,rfl,e⟩
      · exact nomatch e
      · injection e with e1 _; rw [e1]
  byValue:=fun k v h=>by
    rcases keyIs_shape h with ⟨i,t,rfl,rfl⟩ | ⟨x,t,rfl,rfl⟩ <;> rfl
  pyHash:=fun hv h=>by
    rcases keyIs_shape hv with ⟨i,t,rfl,rfl⟩ | ⟨x,t,rfl,rfl⟩
    · exact wpAny_pyHash_int h
    · exact wpAny_pyHash_str h
  eqBool:=fun hu hv h=>by
    rcases keyIs_shape hu with ⟨i,t,rfl,rfl⟩ | ⟨x,t,rfl,rfl⟩
    · rcases keyIs_shape hv with ⟨j,u,rfl,rfl⟩ | ⟨y,u,rfl,rfl⟩
      · rw [key_ll] at h; exact wpAny_eqBool_int h
      · rw [key_lr] at h; exact SeqAt.EqAt.int_str i t y u _ _ _ _ h
    · rcases keyIs_shape hv with ⟨j,u,rfl,rfl⟩ | ⟨y,u,rfl,rfl⟩
      · rw [key_rl] at h; exact SeqAt.EqAt.str_int x t j u _ _ _ _ h
      · rw [key_rr] at h; exact wpAny_eqBool_str h
  «strs»:=fun k x t v h=>by
    rcases keyIs_shape h with ⟨i,u,rfl,e⟩ | ⟨y,u,rfl,e⟩
    · exact nomatch e
    · injection e with e1 _
      subst e1
      cases v <;> rfl
end L2
namespace L2
open PySem PySem.Spec PyProof.Rows
inductive V where
  | non | bl (b:Bool) | int (i:Int) | str (x:Str) | byt (b:Array UInt8) | flt (b:UInt64) | ref (a:Addr) | ty (n:String)
  deriving DecidableEq
def RelV:V→Value→Prop
  | .non,u=>u=Value.none
  | .bl b,u=>u=Value.bool b
  | .int i,u=>∃ t,u=Value.int i t
  | .str x,u=>∃ t,u=Value.str x t
  | .byt b,u=>∃ t,u=Value.bytes b t
  | .flt b,u=>∃ t,u=Value.float b t
  | .ref a,u=>u=Value.ref a
  | .ty n,u=>u=Value.type n
abbrev Vals:List V→List Value→Prop:=Paired RelV
theorem Vals.length {xs:List V} {us:List Value} (r:Vals xs us):xs.length=us.length:=Paired.length r
theorem Vals.get:∀ {xs:List V} {us:List Value} {i:Nat} {x:V},Vals xs us→xs[i]?=some x→∃ u,us[i]?=some u∧RelV x u
  | _,_,_,_,.nil,e=>by simp at e
  | _,_,0,_,.cons r _,e=>by simp at e; subst e; exact ⟨_,rfl,r⟩
  | _,_,i + 1,x,.cons _ t,e=>by
    obtain ⟨u,h1,h2⟩:=Vals.get (i:=i) (x:=x) t (by simpa using e)
    exact ⟨u,by simpa using h1,h2⟩
theorem Vals.set {x:V} {u:Value} (r:RelV x u):∀ {xs:List V} {us:List Value} (i:Nat),Vals xs us→Vals (xs.set i x) (us.set i u)
  | _,_,_,.nil=>.nil
  | _,_,0,.cons _ t=>.cons r t
  | _,_,i + 1,.cons q t=>.cons q (Vals.set r i t)
theorem Vals.append:∀ {xs ys:List V} {us ws:List Value},Vals xs us→Vals ys ws→Vals (xs++ys) (us++ws)
  | _,_,_,_,.nil,s=>s
  | _,_,_,_,.cons r t,s=>.cons r (Vals.append t s)
theorem Vals.take:∀ {xs:List V} {us:List Value} (n:Nat),Vals xs us→Vals (xs.take n) (us.take n)
  | _,_,0,_=>.nil
  | _,_,_ + 1,.nil=>.nil
  | _,_,n + 1,.cons r t=>.cons r (Vals.take n t)
theorem Vals.drop:∀ {xs:List V} {us:List Value} (n:Nat),Vals xs us→Vals (xs.drop n) (us.drop n)
  | _,_,0,r=>r
  | _,_,_ + 1,.nil=>.nil
  | _,_,n + 1,.cons _ t=>Vals.drop n t
def RelO:Option V→Option Value→Prop
  | some v,some u=>RelV v u
  | none,none=>True
  | _,_=>False
def KV {κ:Type}:List (κ × V)→List (κ × Value)→Prop:=Paired fun (p:κ × V) (q:κ × Value)=>p.1=q.1∧RelV p.2 q.2
def kV:Key→V
  | .inl i=>.int i
  | .inr x=>.str x
inductive HO where
  | lst (xs:List V)
  | tup (xs:List V)
  | dK (kvs:List (Key × V)) | dT (kvs:List (List Key × V))
  | set (S:Int→Bool) (n:Nat)
  | ins (C dx:Addr) (fs:List (Str × V))
  | own (x:Addr)
  | xd (fs:List (Str × V))
  | met (f x:Addr)
  | rng (lo hi:Int)
  | frz (o:Obj) (u:HO)
  | tbl (ps:Array Value)
  | ext (φ:Heap→Prop)
abbrev Hp:=Addr→Option HO
def upd (H:Hp) (a:Addr) (o:HO):Hp:=fun b=>if b=a then some o else H b
theorem upd_same {H:Hp} {a:Addr} {o:HO}:upd H a o a=some o:=by unfold upd; rw [if_pos rfl]
theorem upd_ne {H:Hp} {a b:Addr} {o:HO} (h:b ≠ a):upd H a o b=H b:=by unfold upd; rw [if_neg h]
theorem ne_of_none {H:Hp} {a b:Addr} {o:HO} (h:H a=some o) (h':H b=none):a ≠ b:=by
  intro e; subst e; rw [h] at h'; cases h'
section
variable (P:Program) (w:World)
def ObjOk (H:Hp) (h:Heap) (a:Addr):HO→Prop
  | .lst xs=>xs.length≤sizeLine∧∃ (its:List Value) (n:Nat),Vals xs its∧h.get? a=some { cls:=.type "list",data:=.seq its.toArray n }
  | .tup xs=>xs.length≤sizeLine∧∃ its:List Value,Vals xs its∧IsTup h a its.toArray
  | .dK kvs=>kvs.length≤sizeLine∧(a==sysModules)=false∧∃ vs,KV kvs vs∧h.DictOf (mixKind P w) a vs
  | .dT kvs=>kvs.length≤sizeLine∧(a==sysModules)=false∧∃ xs:List (List Key × Addr × Value),
      Paired (fun (p:List Key × V) (q:List Key × Addr × Value)=>p.1=q.1∧H q.2.1=some (.tup (p.1.map kV))∧RelV p.2 q.2.2) kvs xs ∧
      ∃ o es ep,h.get? a=some o∧o.ExactDict∧o.data=.dict es ep∧es.toList=xs.map (entryOfKey (tupleKind (mixKind P w)))∧(xs.map (·.1)).Nodup
  | .set S n=>h.SetOf (intKind P w) a S n
  | .ins C dx fs=>H dx=some (.own a)∧fs.length≤1000∧dx ≠ a∧h.get? a=some (PySem.W.instObj C dx) ∧
      ∃ mA,h.Ns1 dx mA∧(∀ f,RelO (fs.lookup f) (mA f))∧PySem.Within mA (fs.map (·.1))
  | .own _=>∃ o,h.get? a=some o
  | .xd fs=>∃ mA,h.Ns1 a mA∧∀ f,RelO (fs.lookup f) (mA f)
  | .rng lo hi=>∃ t u v,h.get? a=some { cls:=.type "range",data:=.fields #[.int lo t,.int hi u,.int 1 v] }
  | .frz o u=>h.get? a=some o∧ObjOk H h a u
  | .tbl ps=>h.get? a=some { cls:=.none,data:=.fields ps }
  | .met f x=>h.get? a=some (PySem.W.methodObj (.ref f) (.ref x))
  | .ext φ=>φ h∧(∃ o,h.get? a=some o)∧∀ h1 h2:Heap,φ h1→(∀ o,h1.get? a=some o→h2.get? a=some o)→φ h2
def HOk (H:Hp) (h:Heap):Prop:=∀ a o,H a=some o→ObjOk P w H h a o
end
section
variable {P:Program} {w:World} {H H':Hp} {h h':Heap} {a:Addr} {o:HO}
theorem ObjOk.lt (x:ObjOk P w H h a o):a < h.objs.size:=by
  cases o with
  | lst xs=>obtain ⟨_,_,_,_,e⟩:=x; exact Heap.lt_size e
  | tup xs=>obtain ⟨_,_,_,p⟩:=x; exact p.lt
  | dK kvs=>obtain ⟨_,_,_,_,o,_,_,e,_⟩:=x; exact Heap.lt_size e
  | dT kvs=>obtain ⟨_,_,_,_,o,_,_,e,_⟩:=x; exact Heap.lt_size e
  | set S n=>obtain ⟨o,_,_,_,e,_⟩:=x; exact Heap.lt_size e
  | ins C dx fs=>obtain ⟨_,_,_,e,_⟩:=x; exact Heap.lt_size e
  | own y=>obtain ⟨_,e⟩:=x; exact Heap.lt_size e
  | xd fs=>obtain ⟨_,⟨_,_,_,e,_⟩,_⟩:=x; exact Heap.lt_size e
  | rng lo hi=>obtain ⟨_,_,_,e⟩:=x; exact Heap.lt_size e
  | frz ob u=>obtain ⟨e,_⟩:=x; exact Heap.lt_size e
  | tbl ps=>exact Heap.lt_size (show h.get? a=some _ from x)
  | met f y=>exact Heap.lt_size (show h.get? a=some _ from x)
  | ext φ=>obtain ⟨_,⟨_,e⟩,_⟩:=x; exact Heap.lt_size e
theorem Paired.mapP {α β:Type} {F G:α→β→Prop}:∀ {l₁:List α} {l₂:List β},Paired F l₁ l₂→(∀ a b,F a b→G a b)→Paired G l₁ l₂
  | _,_,.nil,_=>.nil
  | _,_,.cons r t,f=>.cons (f _ _ r) (Paired.mapP t f)
theorem ObjOk.stay (x:ObjOk P w H h a o) (k:∀ b u,(b=a∨H b=some (.own a))→h.get? b=some u→h'.get? b=some u)
    (ho:∀ b,H b=some (.own a)→H' b=some (.own a)) (ht:∀ b xs,H b=some (.tup xs)→H' b=some (.tup xs)):ObjOk P w H' h' a o:=by
  induction o with
  | lst xs=>obtain ⟨z,its,n,r,e⟩:=x; exact ⟨z,its,n,r,k _ _ (.inl rfl) e⟩
  | tup xs=>obtain ⟨z,its,r,ob,e,c⟩:=x; exact ⟨z,its,r,ob,k _ _ (.inl rfl) e,c⟩
  | dK kvs=>obtain ⟨z,y,vs,r,ob,es,ep,e,c⟩:=x; exact ⟨z,y,vs,r,ob,es,ep,k _ _ (.inl rfl) e,c⟩
  | dT kvs =>
    obtain ⟨z,y,xs,r,ob,es,ep,e,c⟩:=x
    exact ⟨z,y,xs,Paired.mapP r fun p q z=>⟨z.1,ht _ _ z.2.1,z.2.2⟩,ob,es,ep,k _ _ (.inl rfl) e,c⟩
  | set S n=>obtain ⟨ob,es,ep,t,e,c⟩:=x; exact ⟨ob,es,ep,t,k _ _ (.inl rfl) e,c⟩
  | ins C dx fs =>
    obtain ⟨d,z,ne,e,mA,⟨od,es,ep,e2,c⟩,r⟩:=x
    exact ⟨ho _ d,z,ne,k _ _ (.inl rfl) e,mA,⟨od,es,ep,k _ _ (.inr d) e2,c⟩,r⟩
  | own y=>obtain ⟨ob,e⟩:=x; exact ⟨ob,k _ _ (.inl rfl) e⟩
  | xd fs=>obtain ⟨mA,⟨od,es,ep,e,c⟩,r⟩:=x; exact ⟨mA,⟨od,es,ep,k _ _ (.inl rfl) e,c⟩,r⟩
  | rng lo hi=>obtain ⟨t,u,v,e⟩:=x; exact ⟨t,u,v,k _ _ (.inl rfl) e⟩
  | frz ob u ih=>obtain ⟨e,q⟩:=x; exact ⟨k _ _ (.inl rfl) e,ih q⟩
  | tbl ps =>
    have e:h.get? a=some { cls:=.none,data:=.fields ps }:=x
    show h'.get? a=some { cls:=.none,data:=.fields ps }
    exact k a _ (.inl rfl) e
  | met f y =>
    have e:h.get? a=some (PySem.W.methodObj (.ref f) (.ref y)):=x
    show h'.get? a=some (PySem.W.methodObj (.ref f) (.ref y))
    exact k a _ (.inl rfl) e
  | ext φ=>obtain ⟨p,⟨o,e⟩,st⟩:=x; exact ⟨st _ _ p fun o q=>k _ _ (.inl rfl) q,⟨o,k _ _ (.inl rfl) e⟩,st⟩
theorem HOk.lt (x:HOk P w H h) (e:H a=some o):a < h.objs.size:=(x a o e).lt
theorem HOk.fresh (x:HOk P w H h) (e:h.objs.size≤a):H a=none:=by
  cases q:H a with
  | none=>rfl
  | some u=>exact absurd (Nat.lt_of_lt_of_le (x.lt q) e) (Nat.lt_irrefl _)
theorem HOk.kept (x:HOk P w H h) (k:∀ b u,h.get? b=some u→h'.get? b=some u):HOk P w H h':=fun a o e =>
  (x a o e).stay (fun b u _ q=>k b u q) (fun _ q=>q) fun _ _ q=>q
theorem HOk.laid (x:HOk P w H h) (k:∀ b u,h.get? b=some u→h'.get? b=some u) (hp:h.objs.size≤a) (new:ObjOk P w (upd H a o) h' a o):HOk P w (upd H a o) h':=fun b u e=>by
  have hn:=x.fresh hp
  by_cases hb:b=a
  · subst hb; rw [upd_same] at e; cases e; exact new
  · rw [upd_ne hb] at e
    exact (x b u e).stay (fun c v _ q=>k c v q) (fun c q=>by rw [upd_ne (ne_of_none q hn)]; exact q) fun c xs q=>by rw [upd_ne (ne_of_none q hn)]; exact q
end
def Rd (H:Hp) (a:Addr) (u:HO):Prop:=H a=some u∨∃ o,H a=some (.frz o u)
theorem Rd.of {H:Hp} {a:Addr} {u:HO} (h:H a=some u):Rd H a u:=.inl h
theorem Rd.ok {P:Program} {w:World} {H:Hp} {h:Heap} {a:Addr} {u:HO} (r:Rd H a u) (x:HOk P w H h):ObjOk P w H h a u:=by
  rcases r with r | ⟨o,r⟩
  · exact x a u r
  · obtain ⟨_,q⟩:=x a _ r
    exact q
def Mut:Option HO→Prop
  | some (.lst _)=>True
  | some (.dK _)=>True
  | some (.dT _)=>True
  | some (.set _ _)=>True
  | some (.ins _ _ _)=>True
  | some (.ext _)=>True
  | _=>False
section
variable {P:Program} {w:World} {H:Hp} {h h':Heap} {x e:Addr} {o':HO}
theorem HOk.write (ok:HOk P w H h) (mu:Mut (H x)) (he:e=x∨H e=some (.own x)) (k:∀ b u,b ≠ e→h.get? b=some u→h'.get? b=some u) (heo:∃ u,h'.get? e=some u)
    (new:ObjOk P w (upd H x o') h' x o'):HOk P w (upd H x o') h':=fun b u q=>by
  have nown:∀ c y,H c=some (.own y)→c ≠ x:=fun c y r z=>by subst z; rw [r] at mu; exact mu
  have ntup:∀ c xs,H c=some (.tup xs)→c ≠ x:=fun c xs r z=>by subst z; rw [r] at mu; exact mu
  by_cases hb:b=x
  · subst hb; rw [upd_same] at q; cases q; exact new
  · rw [upd_ne hb] at q
    by_cases hbe:b=e
    · have q':H b=some (.own x):=by
        rcases he with z | z
        · exact absurd (hbe.trans z) hb
        · rw [hbe]; exact z
      rw [q] at q'; cases q'
      obtain ⟨v,hv⟩:=heo
      exact ⟨v,by rw [hbe]; exact hv⟩
    · refine (ok b u q).stay (fun c v hc r=>k c v ?_ r) (fun c r=>by rw [upd_ne (nown c b r)]; exact r) fun c xs r=>by rw [upd_ne (ntup c xs r)]; exact r
      rcases hc with rfl | hc
      · exact hbe
      · rintro rfl
        rcases he with z | z
        · exact nown c b hc z
        · rw [hc] at z; cases z; exact hb rfl
end
structure Un (fs ex:List Addr) (H H':Hp) (h h':Heap):Prop where
  keep:∀ b o,h.get? b=some o→H b=none→b ∉ fs→b ∉ ex→h'.get? b=some o
  slot:∀ b o,h.get? b=some o→H b=none→b∈fs→b ∉ ex→∃ sl,h'.get? b=some { o with slots:=sl }
  free:∀ b o,h.get? b=some o→H b=none→b ∉ ex→H' b=none
  there:∀ b o,h.get? b=some o→b ∉ ex→∃ o',h'.get? b=some o'
  tups:∀ b xs,H b=some (.tup xs)→H' b=some (.tup xs)
  frzs:∀ b o u,H b=some (.frz o u)→H' b=some (.frz o u)
  tbls:∀ b ps,H b=some (.tbl ps)→∃ more,H' b=some (.tbl (ps++more))
section
variable {fs fs' ex ex':List Addr} {H H1 H2:Hp} {h h1 h2 h':Heap} {a x e:Addr} {o:HO}
theorem Un.any (u:Un fs ex H H1 h h1) {b:Addr} {ob:Obj} (q:h.get? b=some ob) (n:H b=none) (hx:b ∉ ex):∃ sl,h1.get? b=some { ob with slots:=sl }:=by
  by_cases hb:b∈fs
  · exact u.slot b ob q n hb hx
  · exact ⟨ob.slots,u.keep b ob q n hb hx⟩
theorem Un.trans (a:Un fs ex H H1 h h1) (b:Un fs ex H1 H2 h1 h2):Un fs ex H H2 h h2 where
  keep:=fun c ob q n hc hx=>b.keep c ob (a.keep c ob q n hc hx) (a.free c ob q n hx) hc hx
  slot:=fun c ob q n hc hx=>by
    obtain ⟨sl,e1⟩:=a.slot c ob q n hc hx
    obtain ⟨sl',e2⟩:=b.slot c _ e1 (a.free c ob q n hx) hc hx
    exact ⟨sl',e2⟩
  free:=fun c ob q n hx=>by
    obtain ⟨o',e1⟩:=a.there c ob q hx
    exact b.free c o' e1 (a.free c ob q n hx) hx
  there:=fun c ob q hx=>by
    obtain ⟨o',e1⟩:=a.there c ob q hx
    exact b.there c o' e1 hx
  tups:=fun c xs q=>b.tups c xs (a.tups c xs q)
  frzs:=fun c ob xs q=>b.frzs c ob xs (a.frzs c ob xs q)
  tbls:=fun c ps q=>by
    obtain ⟨m1,e1⟩:=a.tbls c ps q
    obtain ⟨m2,e2⟩:=b.tbls c _ e1
    exact ⟨m1++m2,by rw [e2,Array.append_assoc]⟩
theorem Un.kept (k:∀ b u,h.get? b=some u→h'.get? b=some u):Un fs ex H H h h' :=
  ⟨fun b ob q _ _ _=>k b ob q,fun b ob q _ _ _=>⟨ob.slots,k b ob q⟩,fun _ _ _ n _=>n,fun b ob q _=>⟨ob,k b ob q⟩,fun _ _ q=>q,fun _ _ _ q=>q,fun _ ps q=>⟨#[],by rw [q]; simp⟩⟩
theorem Un.refl:Un fs ex H H h h:=Un.kept fun _ _ q=>q
theorem Un.laid (k:∀ b u,h.get? b=some u→h'.get? b=some u) (hp:h.objs.size≤a) (hn:H a=none):Un fs ex H (upd H a o) h h' where
  keep:=fun b u q _ _ _=>k b u q
  slot:=fun b u q _ _ _=>⟨u.slots,k b u q⟩
  free:=fun b u q n _=>by rw [upd_ne (Nat.ne_of_lt (Nat.lt_of_lt_of_le (Heap.lt_size q) hp))]; exact n
  there:=fun b u q _=>⟨u,k b u q⟩
  tups:=fun b xs q=>by rw [upd_ne (ne_of_none q hn)]; exact q
  frzs:=fun b u xs q=>by rw [upd_ne (ne_of_none q hn)]; exact q
  tbls:=fun b ps q=>⟨#[],by rw [upd_ne (ne_of_none q hn),q]; simp⟩
theorem Un.write (mu:Mut (H x)) (he:e=x∨H e=some (.own x)) (k:∀ b u,b ≠ e→h.get? b=some u→h'.get? b=some u) (heo:∃ u,h'.get? e=some u):Un fs ex H (upd H x o) h h':=by
  have hx:∀ b,H b=none→b ≠ x:=fun b n z=>by subst z; rw [n] at mu; exact mu
  have hb:∀ b,H b=none→b ≠ e:=fun b n z=>by
    subst z
    rcases he with r | r
    · exact hx b n r
    · rw [n] at r; cases r
  have hm:∀ b u,H b=some u→¬ Mut (some u)→b ≠ x:=fun b u q nm z=>by subst z; rw [q] at mu; exact nm mu
  refine ⟨fun b u q n _ _=>k b u (hb b n) q,fun b u q n _ _=>⟨u.slots,k b u (hb b n) q⟩,fun b u q n _=>by rw [upd_ne (hx b n)]; exact n,fun b u q _=>?_,
    fun b xs q=>by rw [upd_ne (hm b _ q fun z=>z)]; exact q,fun b u xs q=>by rw [upd_ne (hm b _ q fun z=>z)]; exact q,fun b ps q=>⟨#[],by rw [upd_ne (hm b _ q fun z=>z),q]; simp⟩⟩
  by_cases hbe:b=e
  · subst hbe; exact heo
  · exact ⟨u,k b u hbe q⟩
theorem Un.mono (u:Un fs ex H H1 h h1) (hs:∀ b∈fs,b∈fs') (hx:∀ b∈ex,b∈ex'):Un fs' ex' H H1 h h1 :=
  ⟨fun b ob q n hb he=>u.keep b ob q n (fun z=>hb (hs b z)) fun z=>he (hx b z),fun _ _ q n _ he=>u.any q n fun z=>he (hx _ z),fun b ob q n he=>u.free b ob q n fun z=>he (hx b z),fun b ob q he=>u.there b ob q fun z=>he (hx b z),u.tups,u.frzs,u.tbls⟩
end
def trk (h:Heap) (H:Hp):List Addr:=(List.range h.objs.size).filter fun a=>(H a).isSome
def hidT (h:Heap) (H:Hp):Heap:=PySem.W.hideAll h (trk h H)
theorem hidT_size (h:Heap) (H:Hp):(hidT h H).objs.size=h.objs.size:=PySem.W.hideAll_size _ _
theorem hidT_get {h:Heap} {H:Hp} {b:Addr} {o:Obj} (e:h.get? b=some o) (n:H b=none):(hidT h H).get? b=some o :=
  PySem.W.hideAll_get _ e fun hm=>by
    have q:(H b).isSome=true:=(List.mem_filter.mp hm).2
    rw [n] at q; simp at q
theorem of_hidT {h:Heap} {H:Hp} {b:Addr} {o:Obj} (e:(hidT h H).get? b=some o):h.get? b=some o∧H b=none:=by
  have e':h.get? b=some o:=PySem.W.of_hideAll (trk h H) e
  refine ⟨e',?_⟩
  cases q:H b with
  | none=>rfl
  | some x =>
    have hm:b∈trk h H:=List.mem_filter.mpr ⟨List.mem_range.mpr (Heap.lt_size e'),by simp [q]⟩
    have z:(hidT h H).get? b=none:=PySem.W.hideAll_none (trk h H) hm
    rw [z] at e; cases e
def allNews (g h:Heap) (L:Addr):List (Addr × Obj):=(List.range h.objs.size).filterMap fun a=>if a=L∨(g.get? a).isSome=true then none else (h.get? a).map fun o=>(a,o)
def rest (g h:Heap) (L d:Addr):List (Addr × Obj):=(allNews g h L).filter fun p=>decide (p.1 ≠ d)
end L2
namespace L2
open PySem PySem.Spec PyProof.Rows
structure Mod (K:PySem.W.Frag) (mg:Str→Option Value) (base:Heap):Prop where
  kin:K.In base
  glob:base.Ns mainGlobals mg
  blt:∃ mb,base.Ns builtinsNs mb∧∀ x:Str,x ≠ "__name__"→mb x=bootBuiltins x
  nolimit:base.NoLimit
structure Cx where
  prog:Program
  w:World
  K:PySem.W.Frag
  mg:Str→Option Value
  base:Heap
  A:Around
  N:List Str
  s₀:Shared
  H₀:Hp
  env:Env
  outer:List Env
  stack:List Env
  ex:List Addr
  fn:Str→Bool
  calm:Bool
  pn:List (Addr × Obj)
  xe:Value→Shared→Prop
def frs (l:List Env):List Addr:=l.filterMap (·.frame)
abbrev Cx.fs (X:Cx):List Addr:=frs X.outer
def Vis (sc:Scope) (x:Str):Prop:=sc.names.lookup x=some .local∨sc.names.lookup x=some .cell∨sc.names.lookup x=some .free
def Loc (sc:Scope) (x:Str):Prop:=sc.names.lookup x=some .local∨sc.names.lookup x=some .cell
def Look (env:Env) (h:Heap) (m:Str→Option Value) (x:Str) (u:Value):Prop :=
  (env.kindOf x=some .local∧m x=some u)∨((env.kindOf x=some .cell∨env.kindOf x=some .free)∧∃ c,env.cells.lookup x=some c∧h.IsCell c (some u))
structure Cx.Ok (X:Cx):Prop where
  mod:Mod X.K X.mg X.base
  kind:X.env.scope.kind=.function
  glob:X.env.globals=mainGlobals
  blt:X.env.builtins=builtinsNs
  above:X.s₀.heap.objs.size≤X.env.locals
  inj:∀ x y c,X.env.cells.lookup x=some c→X.env.cells.lookup y=some c→x=y
  has:∀ x,(X.env.kindOf x=some .cell∨X.env.kindOf x=some .free)→∃ c,X.env.cells.lookup x=some c
  cab:∀ x c,X.fn x=true→X.env.cells.lookup x=some c→X.s₀.heap.objs.size≤c
  hd:X.calm=true→X.A.handled=none
  frames:X.A.frames=some X.stack
  stk:X.stack=X.outer∨(X.stack=X.env::X.outer∧X.env.frame=some X.env.locals)
  exf:∀ b∈X.ex,b ≠ X.env.locals∧∀ x c,X.env.cells.lookup x=some c→c ≠ b
  bs:∀ b o,X.base.get? b=some o→X.s₀.heap.get? b=some o∧X.H₀ b=none
  bsz:X.base.objs.size≤X.s₀.heap.objs.size
  noex:∀ b o,X.base.get? b=some o→b ∉ X.ex
  exfs:∀ b∈X.ex,b ∉ X.fs
  funs:X.s₀.heap.FunFrames X.base X.outer
  frf:∀ b∈X.fs,X.H₀ b=none
structure Inv (X:Cx) (pins:List (Addr × Obj)) (σ:List (Option V)) (H:Hp) (s:Shared):Prop where
  ok:X.Ok
  os:s.os=X.s₀.os
  bare:AllBare s.gens
  base:Un X.fs X.ex X.H₀ H X.s₀.heap s.heap
  loc:∃ m,s.heap.Ns X.env.locals m∧∀ (i:Nat) (x:Str) (v:V),X.N[i]?=some x→σ[i]?=some (some v)→Vis X.env.scope x→∃ u,RelV v u∧Look X.env s.heap m x u
  cell:∀ x c,X.env.cells.lookup x=some c→∃ v,s.heap.IsCell c v
  free:H X.env.locals=none
  freeC:∀ x c,X.env.cells.lookup x=some c→H c=none
  pin:∀ p∈X.pn++pins,s.heap.get? p.1=some p.2∧H p.1=none∧p.1 ≠ X.env.locals∧p.1 ∉ X.fs∧∀ v,p.2.data ≠ .cell v
  hok:HOk X.prog X.w H s.heap
  len:σ.length=X.N.length
section
variable {X:Cx} {pins:List (Addr × Obj)} {σ:List (Option V)} {H H':Hp} {s:Shared} {h':Heap}
theorem Cx.Ok.nofr (ok:X.Ok) {b:Addr} {o:Obj} (e:X.base.get? b=some o):b ∉ X.fs:=fun hb=>by
  have:=(ok.funs.mem hb).1
  rw [e] at this; cases this
theorem Inv.bs (I:Inv X pins σ H s):∀ b o,X.base.get? b=some o→s.heap.get? b=some o∧H b=none:=fun b o e =>
  ⟨I.base.keep b o (I.ok.bs b o e).1 (I.ok.bs b o e).2 (I.ok.nofr e) (I.ok.noex b o e),I.base.free b o (I.ok.bs b o e).1 (I.ok.bs b o e).2 (I.ok.noex b o e)⟩
theorem Inv.bk (I:Inv X pins σ H s):∀ b o,X.base.get? b=some o→s.heap.get? b=some o:=fun b o e=>(I.bs b o e).1
theorem Inv.mod (I:Inv X pins σ H s):Mod X.K X.mg X.base:=I.ok.mod
theorem Inv.kIn (I:Inv X pins σ H s):X.K.In s.heap:=I.ok.mod.kin.keeps I.bk
theorem Inv.nolimit (I:Inv X pins σ H s):s.heap.NoLimit:=I.ok.mod.nolimit.keeps I.bk
theorem Inv.lt (I:Inv X pins σ H s):X.env.locals < s.heap.objs.size:=let ⟨_,hn,_⟩:=I.loc; hn.lt
theorem Inv.sz (I:Inv X pins σ H s):X.s₀.heap.objs.size≤s.heap.objs.size:=Nat.le_trans I.ok.above (Nat.le_of_lt I.lt)
theorem Inv.nofs (I:Inv X pins σ H s) {a:Addr} (h:s.heap.objs.size≤a):a ∉ X.fs:=fun hb=>by
  obtain ⟨_,o,ho,_⟩:=I.ok.funs.mem hb
  exact absurd (Nat.lt_of_lt_of_le (Heap.lt_size ho) (Nat.le_trans I.sz h)) (Nat.lt_irrefl _)
theorem Inv.cne (I:Inv X pins σ H s):∀ x c,X.env.cells.lookup x=some c→c ≠ X.env.locals:=fun x c e z=>by
  obtain ⟨v,o,ho,hd⟩:=I.cell x c e
  obtain ⟨m,⟨o',es,ep,ho',hd',_⟩,_⟩:=I.loc
  rw [z,ho'] at ho; cases ho; rw [hd'] at hd; cases hd
theorem Inv.funs (I:Inv X pins σ H s):s.heap.FunFrames X.base X.outer:=by
  have all:∀ (l:List Env),(∀ b∈frs l,b∈X.fs)→X.s₀.heap.FunFrames X.base l→s.heap.FunFrames X.base l:=by
    intro l
    induction l with
    | nil=>intro _ _; trivial
    | cons env r ih =>
      intro hs hl
      obtain ⟨hk,⟨L,o,hf,hn,ho,hd⟩,hr⟩:=hl
      have hL:L∈X.fs:=hs L (by unfold frs; rw [List.filterMap_cons,hf]; exact List.mem_cons_self)
      obtain ⟨sl,e⟩:=I.base.slot L o ho (I.ok.frf L hL) hL fun z=>I.ok.exfs L z hL
      exact ⟨hk,⟨L,_,hf,hn,e,hd⟩,ih (fun b hb=>hs b (by unfold frs; rw [List.filterMap_cons,hf]; exact List.mem_cons_of_mem _ hb)) hr⟩
  exact all X.outer (fun _ hb=>hb) I.ok.funs
theorem Inv.stack (I:Inv X pins σ H s):s.heap.FunFrames X.base X.stack:=by
  rcases I.ok.stk with e | ⟨e,hf⟩
  · rw [e]; exact I.funs
  · rw [e]
    obtain ⟨m,hn,_⟩:=I.loc
    refine .cons (by rw [I.ok.kind]; decide) hf hn ?_ I.funs
    exact Heap.get?_none_of_le (Nat.le_trans I.ok.bsz I.ok.above)
theorem Inv.stkSub (I:Inv X pins σ H s):∀ b∈frs X.stack,b∈X.env.locals::X.fs:=fun b hb=>by
  rcases I.ok.stk with e | ⟨e,hf⟩
  · rw [e] at hb; exact List.mem_cons_of_mem _ hb
  · rw [e] at hb
    unfold frs at hb
    rw [List.filterMap_cons,hf] at hb
    exact hb
theorem Inv.stkFree (I:Inv X pins σ H s):∀ b∈frs X.stack,H b=none:=fun b hb=>by
  rcases List.mem_cons.mp (I.stkSub b hb) with e | hb
  · rw [e]; exact I.free
  · obtain ⟨_,o,ho,_⟩:=I.ok.funs.mem hb
    exact I.base.free b o ho (I.ok.frf b hb) fun z=>I.ok.exfs b z hb
theorem Inv.step {g':Array GenState} {t':Nat} {d':Drawn} {ch:List Addr} (I:Inv X pins σ H s)
    (hch:∀ b∈ch,(b∈X.ex∨X.s₀.heap.objs.size≤b)∧b ≠ X.env.locals∧(∀ x c,X.env.cells.lookup x=some c→c ≠ b)∧∀ p∈X.pn++pins,p.1 ≠ b)
    (keep:∀ b o,b ≠ X.env.locals→b ∉ X.fs→b ∉ ch→s.heap.get? b=some o→H b=none→h'.get? b=some o)
    (slot:∀ b o,b ≠ X.env.locals→b∈X.fs→b ∉ ch→s.heap.get? b=some o→H b=none→∃ sl,h'.get? b=some { o with slots:=sl }) (free:∀ b o,b ∉ ch→s.heap.get? b=some o→H b=none→H' b=none)
    (there:∀ b o,b ∉ ch→s.heap.get? b=some o→∃ o',h'.get? b=some o')
    (tups:∀ b xs,H b=some (.tup xs)→H' b=some (.tup xs)) (frzs:∀ b o u,H b=some (.frz o u)→H' b=some (.frz o u)) (tbls:∀ b ps,H b=some (.tbl ps)→∃ more,H' b=some (.tbl (ps++more)))
    (ns:∀ m,s.heap.Ns X.env.locals m→h'.Ns X.env.locals m) (hok:HOk X.prog X.w H' h') (hg:AllBare g') :
    Inv X pins σ H' { s with heap:=h',gens:=g',drawn:=d',toks:=t' }:=by
  have neL:∀ b o,X.s₀.heap.get? b=some o→b ≠ X.env.locals:=fun b o e=>Nat.ne_of_lt (Nat.lt_of_lt_of_le (Heap.lt_size e) I.ok.above)
  have neC:∀ b o,X.s₀.heap.get? b=some o→b ∉ X.ex→b ∉ ch:=fun b o e hx hb=>by
    rcases (hch b hb).1 with z | z
    · exact hx z
    · exact absurd (Nat.lt_of_lt_of_le (Heap.lt_size e) z) (Nat.lt_irrefl _)
  have cellK:∀ x c,X.env.cells.lookup x=some c→∀ v,s.heap.IsCell c v→h'.IsCell c v:=fun x c e v ⟨o,ho,hd⟩=>by
    have nch:c ∉ ch:=fun z=>(hch c z).2.2.1 x c e rfl
    by_cases hc:c∈X.fs
    · obtain ⟨sl,q⟩:=slot c o (I.cne x c e) hc nch ho (I.freeC x c e)
      exact ⟨_,q,hd⟩
    · exact ⟨o,keep c o (I.cne x c e) hc nch ho (I.freeC x c e),hd⟩
  refine ⟨I.ok,I.os,hg,⟨fun b o e n hb hx=>?_,fun b o e n hb hx=>?_,fun b o e n hx=>?_,fun b o e hx=>?_,fun b xs e=>tups b xs (I.base.tups b xs e),fun b o xs e=>frzs b o xs (I.base.frzs b o xs e),fun b ps e=>?_⟩,?_,fun x c e=>?_,?_,fun x c e=>?_,fun p hp=>?_,hok,I.len⟩
  · exact keep b o (neL b o e) hb (neC b o e hx) (I.base.keep b o e n hb hx) (I.base.free b o e n hx)
  · obtain ⟨sl,e1⟩:=I.base.slot b o e n hb hx
    obtain ⟨sl',e2⟩:=slot b _ (neL b o e) hb (neC b o e hx) e1 (I.base.free b o e n hx)
    exact ⟨sl',e2⟩
  · obtain ⟨o',e1⟩:=I.base.there b o e hx
    exact free b o' (neC b o e hx) e1 (I.base.free b o e n hx)
  · obtain ⟨o',e1⟩:=I.base.there b o e hx
    exact there b o' (neC b o e hx) e1
  · obtain ⟨m1,e1⟩:=I.base.tbls b ps e
    obtain ⟨m2,e2⟩:=tbls b _ e1
    exact ⟨m1++m2,by rw [e2,Array.append_assoc]⟩
  · obtain ⟨m,hn,hl⟩:=I.loc
    refine ⟨m,ns m hn,fun i x v e1 e2 e3=>?_⟩
    obtain ⟨u,r,l⟩:=hl i x v e1 e2 e3
    refine ⟨u,r,?_⟩
    rcases l with l | ⟨k,c,e,z⟩
    · exact .inl l
    · exact .inr ⟨k,c,e,cellK x c e _ z⟩
  · obtain ⟨v,z⟩:=I.cell x c e
    exact ⟨v,cellK x c e v z⟩
  · obtain ⟨m,⟨o,_,_,ho,_⟩,_⟩:=I.loc
    exact free _ o (fun z=>(hch _ z).2.1 rfl) ho I.free
  · obtain ⟨v,o,ho,hd⟩:=I.cell x c e
    exact free c o (fun z=>(hch c z).2.2.1 x c e rfl) ho (I.freeC x c e)
  · obtain ⟨e,n,ne,nf,d⟩:=I.pin p hp
    have nch:p.1 ∉ ch:=fun z=>(hch p.1 z).2.2.2 p hp rfl
    exact ⟨keep p.1 p.2 ne nf nch e n,free p.1 p.2 nch e n,ne,nf,d⟩
theorem Inv.un {t':Nat} (I:Inv X pins σ H s) (u:Un X.fs [] H H' s.heap h') (hok:HOk X.prog X.w H' h'):Inv X pins σ H' { s with heap:=h',toks:=t' }:=by
  obtain ⟨m,⟨o,es,ep,ho,r⟩,_⟩:=id I.loc
  obtain ⟨sl,hL⟩:=u.any ho I.free (by simp)
  exact I.step (g':=s.gens) (d':=s.drawn) (ch:=[]) (fun _ z=>nomatch z) (fun b o _ hb _ e n=>u.keep b o e n hb (by simp)) (fun b o _ hb _ e n=>u.slot b o e n hb (by simp)) (fun b o _ e n=>u.free b o e n (by simp)) (fun b o _ e=>u.there b o e (by simp)) u.tups u.frzs u.tbls (fun m' hm=>by
    obtain ⟨o',es',ep',ho',r'⟩:=hm
    rw [ho] at ho'; cases ho'
    exact ⟨_,es',ep',hL,r'⟩) hok I.bare
theorem Inv.call {g':Array GenState} {t':Nat} {d':Drawn} {ch:List Addr} (I:Inv X pins σ H s) (u:Un (frs X.stack) ch H H' s.heap h') (hok:HOk X.prog X.w H' h') (hg:AllBare g')
    (hch:∀ b∈ch,(b∈X.ex∨X.s₀.heap.objs.size≤b)∧b ≠ X.env.locals∧(∀ x c,X.env.cells.lookup x=some c→c ≠ b)∧∀ p∈X.pn++pins,p.1 ≠ b) :
    Inv X pins σ H' { s with heap:=h',gens:=g',drawn:=d',toks:=t' }:=by
  obtain ⟨m,⟨o,es,ep,ho,r⟩,_⟩:=id I.loc
  obtain ⟨sl,hL⟩:=u.any ho I.free fun z=>(hch _ z).2.1 rfl
  exact I.step (ch:=ch) hch (fun b o hL hb hc e n=>u.keep b o e n (fun z=>(List.mem_cons.mp (I.stkSub b z)).elim hL hb) hc) (fun b o _ _ hc e n=>u.any e n hc) (fun b o hc e n=>u.free b o e n hc) (fun b o hc e=>u.there b o e hc) u.tups u.frzs u.tbls (fun m' hm=>by
    obtain ⟨o',es',ep',ho',r'⟩:=hm
    rw [ho] at ho'; cases ho'
    exact ⟨_,es',ep',hL,r'⟩) hok hg
theorem Inv.turned {t':Nat} {it:Addr} (I:Inv X pins σ H s) (k:∀ b o,b ≠ it→s.heap.get? b=some o→h'.get? b=some o) (hn:H it=none) (hL:it ≠ X.env.locals)
    (h1:it∈X.ex∨X.s₀.heap.objs.size≤it) (h2:∀ x c,X.env.cells.lookup x=some c→c ≠ it) (h3:∀ p∈X.pn++pins,p.1 ≠ it):Inv X pins σ H { s with heap:=h',toks:=t' }:=by
  have nit:∀ b u,H b=some u→b ≠ it:=fun b u e z=>by rw [z,hn] at e; cases e
  refine I.step (g':=s.gens) (d':=s.drawn) (ch:=[it]) (fun b hb=>?_) (fun b o _ _ hc e _=>k b o (fun z=>hc (by simp [z])) e) (fun b o _ _ hc e _=>⟨o.slots,k b o (fun z=>hc (by simp [z])) e⟩) (fun _ _ _ _ n=>n)
    (fun b o hc e=>⟨o,k b o (fun z=>hc (by simp [z])) e⟩) (fun _ _ e=>e) (fun _ _ _ e=>e) (fun b ps e=>⟨#[],by rw [e]; simp⟩) (fun m hm=>?_) (fun b u e=>?_) I.bare
  · have e:b=it:=by simpa using hb
    subst e
    exact ⟨h1,hL,h2,h3⟩
  · obtain ⟨o,es,ep,ho,r⟩:=hm
    exact ⟨o,es,ep,k _ o (Ne.symm hL) ho,r⟩
  · refine (I.hok b u e).stay (fun c v hc q=>k c v ?_ q) (fun _ q=>q) fun _ _ q=>q
    rcases hc with z | z
    · rw [z]; exact nit b u e
    · exact nit c _ z
theorem Inv.tok (I:Inv X pins σ H s) (t:Nat):Inv X pins σ H { s with toks:=t }:=I.un (h':=s.heap) (t':=t) Un.refl I.hok
theorem Inv.kept {t':Nat} (I:Inv X pins σ H s) (k:∀ b u,s.heap.get? b=some u→h'.get? b=some u):Inv X pins σ H { s with heap:=h',toks:=t' }:=I.un (Un.kept k) (I.hok.kept k)
theorem Inv.laid {a:Addr} {o:HO} {t':Nat} (I:Inv X pins σ H s) (k:∀ b u,s.heap.get? b=some u→h'.get? b=some u) (hp:s.heap.objs.size≤a) (new:ObjOk X.prog X.w (upd H a o) h' a o) :
    Inv X pins σ (upd H a o) { s with heap:=h',toks:=t' }:=I.un (Un.laid k hp (I.hok.fresh hp)) (I.hok.laid k hp new)
theorem Inv.write {x e:Addr} {o:HO} {t':Nat} (I:Inv X pins σ H s) (mu:Mut (H x)) (he:e=x∨H e=some (.own x)) (k:∀ b u,b ≠ e→s.heap.get? b=some u→h'.get? b=some u) (heo:∃ u,h'.get? e=some u)
    (new:ObjOk X.prog X.w (upd H x o) h' x o):Inv X pins σ (upd H x o) { s with heap:=h',toks:=t' }:=I.un (Un.write mu he k heo) (I.hok.write mu he k heo new)
theorem Inv.pins_of {pins':List (Addr × Obj)} (I:Inv X pins σ H s) (h:∀ p∈pins',s.heap.get? p.1=some p.2∧H p.1=none∧p.1 ≠ X.env.locals∧p.1 ∉ X.fs∧∀ v,p.2.data ≠ .cell v):Inv X pins' σ H s :=
  ⟨I.ok,I.os,I.bare,I.base,I.loc,I.cell,I.free,I.freeC,fun p hp=>(List.mem_append.mp hp).elim (fun z=>I.pin p (List.mem_append_left _ z)) (h p),I.hok,I.len⟩
theorem nodup_ix {N:List Str} (hN:N.Nodup) {i j:Nat} {x:Str} (a:N[i]?=some x) (b:N[j]?=some x):i=j:=by
  obtain ⟨h1,e1⟩:=List.getElem?_eq_some_iff.mp a
  obtain ⟨h2,e2⟩:=List.getElem?_eq_some_iff.mp b
  exact (List.getElem_inj hN).mp (e1.trans e2.symm)
theorem store_ok2 {M:Model} {A:Around} {E:Value→Shared→Prop} {i:Nat} {x:Str} {v:V} {u:Value} {Q:Unit→Shared→Prop} (I:Inv X pins σ H s) (hN:X.N.Nodup) (hi:X.N[i]?=some x) (hx:Loc X.env.scope x) (r:RelV v u)
    (h:∀ s',Inv X pins (σ.set i (some v)) H s'→(∃ a,Heap.SameBut a s.heap s'.heap∧(a=X.env.locals∨X.env.cells.lookup x=some a))→Q () s') (hf:X.fn x=true∨X.env.scope.names.lookup x=some .local:=by first | exact .inl rfl | exact .inr rfl | assumption):wpAny M A (storeName X.env x u) Q E s:=by
  obtain ⟨m,hn,hl⟩:=id I.loc
  have hcls:(X.env.scope.kind==.class || (X.env.scope.kind==.module && X.env.locals != X.env.globals))=false:=by rw [I.ok.kind]; rfl
  have hiσ:i < σ.length:=by rw [I.len]; exact (List.getElem?_eq_some_iff.mp hi).1
  have cne:=I.cne
  have tracked:∀ {a:Addr} {h':Heap},(∃ o,s.heap.get? a=some o∧H a=none)→Heap.SameBut a s.heap h'→HOk X.prog X.w H h':=fun {a h'} ha hs b ob e=>by
    obtain ⟨_,_,hfree⟩:=ha
    refine (I.hok b ob e).stay (fun c w' hc q=>(hs.2 c ?_).trans q) (fun _ q=>q) fun _ _ q=>q
    rintro rfl
    rcases hc with rfl | hc
    · rw [hfree] at e; cases e
    · rw [hfree] at hc; cases hc
  rcases hx with hk | hk
  · refine wpAny_storeName_local hk hn (fun h' hn' hs=>?_) hcls
    obtain ⟨oL,_,_,hoL,_⟩:=id hn
    refine h _ ⟨I.ok,I.os,I.bare,⟨fun b o e n hb hx=>?_,fun b o e n hb hx=>?_,I.base.free,fun b o e hx=>?_,I.base.tups,I.base.frzs,I.base.tbls⟩,⟨_,hn',fun j y v' e1 e2 e3=>?_⟩,fun y c e=>?_,I.free,I.freeC,fun p hp=>?_,tracked ⟨oL,hoL,I.free⟩ hs,by simpa using I.len⟩ ⟨_,hs,.inl rfl⟩
    · exact (hs.2 b (Nat.ne_of_lt (Nat.lt_of_lt_of_le (Heap.lt_size e) I.ok.above))).trans (I.base.keep b o e n hb hx)
    · obtain ⟨sl,e1⟩:=I.base.slot b o e n hb hx
      exact ⟨sl,(hs.2 b (Nat.ne_of_lt (Nat.lt_of_lt_of_le (Heap.lt_size e) I.ok.above))).trans e1⟩
    · obtain ⟨o',e1⟩:=I.base.there b o e hx
      exact ⟨o',(hs.2 b (Nat.ne_of_lt (Nat.lt_of_lt_of_le (Heap.lt_size e) I.ok.above))).trans e1⟩
    · by_cases hj:j=i
      · subst hj
        rw [hi] at e1; cases e1
        rw [List.getElem?_set_self hiσ] at e2
        cases e2
        exact ⟨u,r,.inl ⟨hk,by simp⟩⟩
      · rw [List.getElem?_set_ne (Ne.symm hj)] at e2
        obtain ⟨u',r',q⟩:=hl j y v' e1 e2 e3
        refine ⟨u',r',?_⟩
        rcases q with ⟨k,e⟩ | ⟨k,c,e,z⟩
        · refine .inl ⟨k,?_⟩
          have:y ≠ x:=fun e=>hj (nodup_ix hN e1 (e ▸ hi))
          simp [this,e]
        · exact .inr ⟨k,c,e,z.sameBut hs (cne y c e)⟩
    · obtain ⟨w',z⟩:=I.cell y c e
      exact ⟨w',z.sameBut hs (cne y c e)⟩
    · obtain ⟨e,n,ne,nf,d⟩:=I.pin p hp
      exact ⟨(hs.2 p.1 ne).trans e,n,ne,nf,d⟩
  · have hfn:X.fn x=true:=by
      rcases hf with z | z
      · exact z
      · rw [z] at hk; cases hk
    obtain ⟨c,hc⟩:=I.ok.has x (.inl hk)
    obtain ⟨w',z⟩:=I.cell x c hc
    refine wpAny_storeName_cell I.ok.kind hk hc z (fun h' hc' hs=>?_)
    obtain ⟨oc,hoc,hocd⟩:=id z
    refine h { s with heap:=h' } ⟨I.ok,I.os,I.bare,⟨fun b o e n hb hx=>?_,fun b o e n hb hx=>?_,I.base.free,fun b o e hx=>?_,I.base.tups,I.base.frzs,I.base.tbls⟩,⟨m,hn.sameBut hs (Ne.symm (cne x c hc)),fun j y v' e1 e2 e3=>?_⟩,fun y c' e=>?_,I.free,I.freeC,fun p hp=>?_,tracked ⟨oc,hoc,I.freeC x c hc⟩ hs,by simpa using I.len⟩ ⟨c,hs,.inr hc⟩
    · exact (hs.2 b (Nat.ne_of_lt (Nat.lt_of_lt_of_le (Heap.lt_size e) (I.ok.cab x c hfn hc)))).trans (I.base.keep b o e n hb hx)
    · obtain ⟨sl,e1⟩:=I.base.slot b o e n hb hx
      exact ⟨sl,(hs.2 b (Nat.ne_of_lt (Nat.lt_of_lt_of_le (Heap.lt_size e) (I.ok.cab x c hfn hc)))).trans e1⟩
    · obtain ⟨o',e1⟩:=I.base.there b o e hx
      exact ⟨o',(hs.2 b (Nat.ne_of_lt (Nat.lt_of_lt_of_le (Heap.lt_size e) (I.ok.cab x c hfn hc)))).trans e1⟩
    · by_cases hj:j=i
      · subst hj
        rw [hi] at e1; cases e1
        rw [List.getElem?_set_self hiσ] at e2
        cases e2
        exact ⟨u,r,.inr ⟨.inl hk,c,hc,hc'⟩⟩
      · rw [List.getElem?_set_ne (Ne.symm hj)] at e2
        obtain ⟨u',r',q⟩:=hl j y v' e1 e2 e3
        refine ⟨u',r',?_⟩
        rcases q with q | ⟨k,c',e,z'⟩
        · exact .inl q
        · refine .inr ⟨k,c',e,z'.sameBut hs ?_⟩
          rintro rfl
          exact hj (nodup_ix hN e1 (I.ok.inj _ _ _ e hc ▸ hi))
    · by_cases hcc:c'=c
      · subst hcc; exact ⟨_,hc'⟩
      · obtain ⟨w2,z2⟩:=I.cell y c' e
        exact ⟨w2,z2.sameBut hs hcc⟩
    · obtain ⟨e,n,ne,nf,d⟩:=I.pin p hp
      refine ⟨(hs.2 p.1 ?_).trans e,n,ne,nf,d⟩
      intro q
      rw [q,hoc] at e
      have q':oc=p.2:=Option.some.inj e
      exact d w' (by rw [← q']; exact hocd)
theorem store_ok {M:Model} {A:Around} {E:Value→Shared→Prop} {i:Nat} {x:Str} {v:V} {u:Value} {Q:Unit→Shared→Prop} (I:Inv X pins σ H s) (hN:X.N.Nodup) (hi:X.N[i]?=some x) (hx:Loc X.env.scope x) (r:RelV v u)
    (h:∀ s',Inv X pins (σ.set i (some v)) H s'→Q () s') (hf:X.fn x=true∨X.env.scope.names.lookup x=some .local:=by first | exact .inl rfl | exact .inr rfl | assumption):wpAny M A (storeName X.env x u) Q E s :=
  store_ok2 I hN hi hx r (fun s' I' _=>h s' I') hf
theorem Inv.call' {s':Shared} {ch:List Addr} (I:Inv X pins σ H s) (ho:s'.os=s.os) (u:Un (frs X.stack) ch H H' s.heap s'.heap) (hok:HOk X.prog X.w H' s'.heap) (hg:AllBare s'.gens)
    (hch:∀ b∈ch,(b∈X.ex∨X.s₀.heap.objs.size≤b)∧b ≠ X.env.locals∧(∀ x c,X.env.cells.lookup x=some c→c ≠ b)∧∀ p∈X.pn++pins,p.1 ≠ b):Inv X pins σ H' s':=by
  obtain ⟨h',g',d',t',o'⟩:=s'
  have e:o'=s.os:=ho
  subst e
  exact I.call (g':=g') (t':=t') (d':=d') u hok hg hch
end
abbrev XK:=Value→Option Addr→Hp→Prop
abbrev St:=List (Option V)
abbrev VK:=V→Hp→Prop
abbrev TE:=St→Hp→VK→Prop
abbrev TT:=St→Hp→(Bool→Hp→Prop)→Prop
abbrev TA:=St→Hp→(List V→Hp→Prop)→Prop
structure Ends where
  nx:St→Hp→Prop
  rt:VK
  bk:St→Hp→Prop:=fun _ _=>False
  ct:St→Hp→Prop:=fun _ _=>False
abbrev TS:=Ends→St→Hp→Prop
def EP (X:Cx) (pins:List (Addr × Obj)) (σ:St) (Q:VK) (u:Value) (s':Shared):Prop:=∃ v H',Inv X pins σ H' s'∧RelV v u∧Q v H'
def TP (X:Cx) (pins:List (Addr × Obj)) (σ:St) (Q:Bool→Hp→Prop) (b:Bool) (s':Shared):Prop:=∃ H',Inv X pins σ H' s'∧Q b H'
def AP (X:Cx) (pins:List (Addr × Obj)) (σ:St) (Q:List V→Hp→Prop) (us:List Value) (s':Shared):Prop:=∃ vs H',Inv X pins σ H' s'∧Vals vs us∧Q vs H'
def SP (X:Cx) (pins:List (Addr × Obj)) (D:Ends) (f:Flow) (s':Shared):Prop :=
  match f with
  | .next=>∃ σ' H',Inv X pins σ' H' s'∧D.nx σ' H'
  | .brk=>∃ σ' H',Inv X pins σ' H' s'∧D.bk σ' H'
  | .cont=>∃ σ' H',Inv X pins σ' H' s'∧D.ct σ' H'
  | .ret u=>∃ v σ' H',Inv X pins σ' H' s'∧RelV v u∧D.rt v H'
def PE (X:Cx) (e:Expr) (t:TE):Prop :=
  ∀ (pins:List (Addr × Obj)) (s:Shared) (σ:St) (H:Hp) (Q:VK),Inv X pins σ H s→t σ H Q→wpAny (model X.prog X.w) X.A (eval e X.env) (EP X pins σ Q) X.xe s
def PT (X:Cx) (e:Expr) (t:TT):Prop :=
  ∀ (pins:List (Addr × Obj)) (s:Shared) (σ:St) (H:Hp) (Q:Bool→Hp→Prop),Inv X pins σ H s→t σ H Q→wpAny (model X.prog X.w) X.A (isTrue e X.env (eval e X.env)) (TP X pins σ Q) X.xe s
def PW (X:Cx) (e:Expr) (t:TT):Prop :=
  ∀ (whole:Sem Value) (pins:List (Addr × Obj)) (s:Shared) (σ:St) (H:Hp) (Q:Bool→Hp→Prop),Inv X pins σ H s→t σ H Q→wpAny (model X.prog X.w) X.A (isTrue e X.env whole) (TP X pins σ Q) X.xe s
theorem PW.pt {X:Cx} {e:Expr} {t:TT} (h:PW X e t):PT X e t:=h _
def PA (X:Cx) (es:List Expr) (t:TA):Prop :=
  ∀ (pos:Pos) (pins:List (Addr × Obj)) (s:Shared) (σ:St) (H:Hp) (Q:List V→Hp→Prop),Inv X pins σ H s→t σ H Q→wpAny (model X.prog X.w) X.A (spliced (backTo pos (starEach es X.env))) (AP X pins σ Q) X.xe s
def PS (X:Cx) (st:Stmt) (t:TS):Prop :=
  ∀ (pins:List (Addr × Obj)) (s:Shared) (σ:St) (H:Hp) (D:Ends),Inv X pins σ H s→t D σ H→wpAny (model X.prog X.w) X.A (exec st X.env) (SP X pins D) X.xe s
def PSs (X:Cx) (st:List Stmt) (t:TS):Prop :=
  ∀ (pins:List (Addr × Obj)) (s:Shared) (σ:St) (H:Hp) (D:Ends),Inv X pins σ H s→t D σ H→wpAny (model X.prog X.w) X.A (execs st X.env) (SP X pins D) X.xe s
theorem thn {α:Type} {t:Sem α} {Q Q':α→Shared→Prop} {M:Model} {A:Around} {E:Value→Shared→Prop} {s:Shared} (h:wpAny M A t Q E s) (hQ:∀ a s,Q a s→Q' a s):wpAny M A t Q' E s:=wpAny_mono h hQ fun _ _ x=>x
end L2
namespace L2
open PySem PySem.Spec PyProof.Rows
section
variable {X:Cx}
def tVar (i:Nat):TE:=fun σ H Q=>∃ v,σ[i]?=some (some v)∧Q v H
def tC (v:V):TE:=fun _ H Q=>Q v H
theorem pe_var {i:Nat} {x:Str} {pos:Pos} (hN:X.N[i]?=some x) (hv:Vis X.env.scope x) (hd:(x==("__debug__" : Str))=false:=by decide) (hcd:(x==("__classdict__" : Str))=false:=by decide):PE X (.Name x pos) (tVar i):=by
  intro pins s σ H Q I h
  obtain ⟨v,e,h⟩:=h
  obtain ⟨m,hn,hl⟩:=I.loc
  obtain ⟨u,r,l⟩:=hl i x v hN e hv
  have fin:EP X pins σ Q u s:=⟨v,H,I,r,h⟩
  rcases l with ⟨hk,hm⟩ | ⟨hk,c,hc,hcell⟩
  · exact wpAny_Name (wpAny_loadName_local I.ok.kind hk hn hm fin) hd
  · rcases hk with hk | hk
    · exact wpAny_Name (wpAny_loadName_cell I.ok.kind hk hc hcell fin) hd
    · exact wpAny_Name (wpAny_loadName_free I.ok.kind hk hc hcell fin hcd) hd
theorem pe_int {i j pos}:PE X (.Constant (.int i) j pos) (tC (.int i)):=fun _ _ _ H _ I h=>wpAny_Constant_int ⟨.int i,H,I.tok _,⟨_,rfl⟩,h⟩
theorem pe_bl {b j pos}:PE X (.Constant (.bool b) j pos) (tC (.bl b)):=fun _ _ _ H _ I h=>Constant_bool ⟨.bl b,H,I,rfl,h⟩
def Gl (X:Cx) (x:Str):Prop:=X.env.kindOf x=some .globalImplicit
theorem ld_glob {E:Value→Shared→Prop} {pins:List (Addr × Obj)} {s:Shared} {σ:St} {H:Hp} {x:Str} {u:Value} {pos:Pos} {Q:Value→Shared→Prop} (I:Inv X pins σ H s) (hg:Gl X x) (hm:X.mg x=some u) (h:Q u s)
    (hd:(x==("__debug__" : Str))=false:=by decide):wpAny (model X.prog X.w) X.A (eval (.Name x pos) X.env) Q E s :=
  Calls.Name_function_global I.ok.kind hg (Calls.loadGlobal_global (by rw [I.ok.glob]; exact I.mod.glob.keeps I.bk) hm h) hd
theorem ld_blt {E:Value→Shared→Prop} {pins:List (Addr × Obj)} {s:Shared} {σ:St} {H:Hp} {x:Str} {u:Value} {pos:Pos} {Q:Value→Shared→Prop} (I:Inv X pins σ H s) (hg:Gl X x) (hm:X.mg x=none) (hv:bootBuiltins x=some u) (h:Q u s)
    (hn:x ≠ "__name__":=by decide) (hd:(x==("__debug__" : Str))=false:=by decide):wpAny (model X.prog X.w) X.A (eval (.Name x pos) X.env) Q E s:=by
  obtain ⟨mb,h1,h2⟩:=I.mod.blt
  exact Calls.Name_function_global I.ok.kind hg (Calls.loadGlobal_builtin (by rw [I.ok.glob]; exact I.mod.glob.keeps I.bk) hm (by rw [I.ok.blt]; exact h1.keeps I.bk) ((h2 x hn).trans hv) h) hd
theorem pe_bltn {x:Str} {v:V} {u:Value} {pos:Pos} (hg:Gl X x) (hm:X.mg x=none) (hv:bootBuiltins x=some u) (r:RelV v u) (hn:x ≠ "__name__":=by decide) (hd:(x==("__debug__" : Str))=false:=by decide):PE X (.Name x pos) (tC v) :=
  fun _ _ _ H _ I h=>ld_blt I hg hm hv ⟨v,H,I,r,h⟩ hn hd
variable {a b:Expr} {ta tb:TE} {pos:Pos}
def tB (t:TE):TT:=fun σ H Q=>t σ H fun x H1=>∃ c,x=.bl c∧Q c H1
theorem pt_val {e:Expr} {t:TE} (h:PE X e t) (he:∀ whole,isTrue e X.env whole=(do let v ← whole; standAt e.pos; holding [v] (truthy v)):=by intro _; rfl):PT X e (tB t):=by
  intro pins s σ H Q I hw
  refine isTrue_plain (thn (h pins s σ H _ I hw) fun v s1 ⟨x,H1,I1,r1,q1⟩=>?_) (he _)
  obtain ⟨d,rfl,q⟩:=q1
  cases r1
  exact wpAny_truthy_bool ⟨H1,I1,q⟩
variable {tA tB':TT} {rest:List Expr}
def tAnd (t u:TT):TT:=fun σ H Q=>t σ H fun c H1=>if c=true then u σ H1 Q else Q false H1
def tOr (t u:TT):TT:=fun σ H Q=>t σ H fun c H1=>if c=true then Q true H1 else u σ H1 Q
def tNot (t:TT):TT:=fun σ H Q=>t σ H fun c H1=>Q (!c) H1
theorem pw_and1 (ha:PT X a tA):PW X (.BoolOp .And [a] pos) tA:=by
  intro wh pins s σ H Q I h
  refine isTrue_and (thn (ha pins s σ H Q I h) fun c s1 e=>?_)
  cases c with
  | true=>exact isTrue_and_nil e
  | false=>exact e
theorem pw_or1 (ha:PT X a tA):PW X (.BoolOp .Or [a] pos) tA:=by
  intro wh pins s σ H Q I h
  refine isTrue_or (thn (ha pins s σ H Q I h) fun c s1 e=>?_)
  cases c with
  | false=>exact isTrue_or_nil e
  | true=>exact e
theorem pw_and (ha:PT X a tA) (hb:PW X (.BoolOp .And (b::rest) pos) tB'):PW X (.BoolOp .And (a::b::rest) pos) (tAnd tA tB'):=by
  intro wh pins s σ H Q I h
  refine isTrue_and (thn (ha pins s σ H _ I h) fun c s1 ⟨H1,I1,q1⟩=>?_)
  cases c with
  | true=>exact hb wh pins s1 σ H1 Q I1 q1
  | false=>exact ⟨H1,I1,q1⟩
theorem pw_or (ha:PT X a tA) (hb:PW X (.BoolOp .Or (b::rest) pos) tB'):PW X (.BoolOp .Or (a::b::rest) pos) (tOr tA tB'):=by
  intro wh pins s σ H Q I h
  refine isTrue_or (thn (ha pins s σ H _ I h) fun c s1 ⟨H1,I1,q1⟩=>?_)
  cases c with
  | true=>exact ⟨H1,I1,q1⟩
  | false=>exact hb wh pins s1 σ H1 Q I1 q1
theorem pt_not (ha:PT X a tA):PT X (.UnaryOp .Not a pos) (tNot tA):=by
  intro pins s σ H Q I h
  exact isTrue_not (ha pins s σ H (fun c H1=>Q (!c) H1) I h)
def tAndV (ta tb:TE):TE:=fun σ H Q=>ta σ H fun x H1=>∃ c,x=.bl c∧if c=true then tb σ H1 Q else Q (.bl false) H1
def tNotV (ta:TE):TE:=fun σ H Q=>ta σ H fun x H1=>∃ c,x=.bl c∧Q (.bl (!c)) H1
theorem pe_one {op} {t:TE} (h:PE X a t):PE X (.BoolOp op [a] pos) t:=fun pins s σ H Q I hw=>BoolOp_one (h pins s σ H Q I hw)
theorem pe_and (ha:PE X a ta) (hb:PE X (.BoolOp .And (b::rest) pos) tb):PE X (.BoolOp .And (a::b::rest) pos) (tAndV ta tb):=by
  intro pins s σ H Q I h
  refine BoolOp_and (thn (ha pins s σ H _ I h) fun v s1 ⟨x,H1,I1,r1,q1⟩=>?_)
  obtain ⟨c,rfl,q1⟩:=q1
  cases r1
  refine wpAny_truthy_bool ?_
  cases c with
  | true=>exact hb pins s1 σ H1 Q I1 q1
  | false=>exact ⟨.bl false,H1,I1,rfl,q1⟩
theorem pe_not (ha:PE X a ta):PE X (.UnaryOp .Not a pos) (tNotV ta):=by
  intro pins s σ H Q I h
  refine UnaryOp_ (thn (ha pins s σ H _ I h) fun v s1 ⟨x,H1,I1,r1,q1⟩=>?_)
  obtain ⟨c,rfl,q1⟩:=q1
  cases r1
  exact not_of (wpAny_truthy_bool ⟨.bl (!c),H1,I1,rfl,q1⟩)
end
end L2
namespace L2
open PySem PySem.Spec PyProof.Rows
def SqL (K:PySem.W.Frag) (H:Hp) (a:Addr) (xs:List V):Prop :=
  Rd H a (.lst xs) ∨
    ∃ (o:Obj) (its:Array Value) (n:Nat),K.lookup a=some o∧o.cls=.type "list"∧o.dict=none∧o.data=.seq its n∧its.size≤sizeLine∧Vals xs its.toList
def SqT (K:PySem.W.Frag) (H:Hp) (a:Addr) (xs:List V):Prop :=
  Rd H a (.tup xs) ∨
    ∃ (o:Obj) (its:Array Value) (n:Nat),K.lookup a=some o∧o.cls=.type "tuple"∧o.data=.seq its n∧its.size≤sizeLine∧Vals xs its.toList
def absV:Value→Option V
  | .none=>some .non
  | .bool b=>some (.bl b)
  | .int i _=>some (.int i)
  | .str x _=>some (.str x)
  | .bytes b _=>some (.byt b)
  | .float b _=>some (.flt b)
  | .ref a=>some (.ref a)
  | .type n=>some (.ty n)
  | _=>none
theorem RelV.abs {x:V} {u:Value} (r:RelV x u):absV u=some x:=by
  cases x with
  | non=>cases r; rfl
  | bl _=>cases r; rfl
  | int _=>obtain ⟨t,rfl⟩:=r; rfl
  | str _=>obtain ⟨t,rfl⟩:=r; rfl
  | byt _=>obtain ⟨t,rfl⟩:=r; rfl
  | flt _=>obtain ⟨t,rfl⟩:=r; rfl
  | ref _=>cases r; rfl
  | ty _=>cases r; rfl
theorem RelV.inj {x y:V} {u:Value} (r:RelV x u) (q:RelV y u):x=y:=Option.some.inj (r.abs.symm.trans q.abs)
theorem Vals.inj:∀ {xs ys:List V} {us:List Value},Vals xs us→Vals ys us→xs=ys
  | _,_,_,.nil,.nil=>rfl
  | _,_,_,.cons r t,.cons r' t'=>by rw [r.inj r',Vals.inj t t']
section
variable {X:Cx} {pins:List (Addr × Obj)} {σ:St} {H:Hp} {s:Shared} {a:Addr} {xs ys:List V}
theorem SqL.of {K:PySem.W.Frag} (h:H a=some (.lst xs)):SqL K H a xs:=.inl (.inl h)
theorem SqT.of {K:PySem.W.Frag} (h:H a=some (.tup xs)):SqT K H a xs:=.inl (.inl h)
theorem Inv.list (I:Inv X pins σ H s) (h:SqL X.K H a xs):∃ its:List Value,Vals xs its∧PlainL s.heap a its.toArray∧xs.length≤sizeLine:=by
  rcases h with h | ⟨o,its,n,hk,hc,hd,hs,hz,r⟩
  · obtain ⟨z,its,n,r,e⟩:=h.ok I.hok
    exact ⟨its,r,⟨_,n,e,rfl,rfl,rfl⟩,z⟩
  · refine ⟨its.toList,r,⟨o,n,I.kIn a o hk,hc,hd,by simpa using hs⟩,?_⟩
    have e:=r.length
    simp only [Array.length_toList] at e
    omega
theorem Inv.tuple (I:Inv X pins σ H s) (h:SqT X.K H a xs):∃ its:List Value,Vals xs its∧IsTup s.heap a its.toArray∧xs.length≤sizeLine:=by
  rcases h with h | ⟨o,its,n,hk,hc,hs,hz,r⟩
  · obtain ⟨z,its,r,p⟩:=h.ok I.hok
    exact ⟨its,r,p,z⟩
  · refine ⟨its.toList,r,⟨o,I.kIn a o hk,hc,n,by simpa using hs⟩,?_⟩
    have e:=r.length
    simp only [Array.length_toList] at e
    omega
theorem Inv.list_inj (I:Inv X pins σ H s) (h:SqL X.K H a xs) (h':SqL X.K H a ys):xs=ys:=by
  obtain ⟨its,r,⟨o,n,e,_,_,d⟩,_⟩:=I.list h
  obtain ⟨its',r',⟨o',n',e',_,_,d'⟩,_⟩:=I.list h'
  rw [e] at e'; cases e'
  rw [d] at d'
  injection d' with d1 _
  have:its=its':=by simpa using congrArg Array.toList d1
  subst this
  exact r.inj r'
theorem Inv.tuple_inj (I:Inv X pins σ H s) (h:SqT X.K H a xs) (h':SqT X.K H a ys):xs=ys:=by
  obtain ⟨its,r,⟨o,e,_,n,d⟩,_⟩:=I.tuple h
  obtain ⟨its',r',⟨o',e',_,n',d'⟩,_⟩:=I.tuple h'
  rw [e] at e'; cases e'
  rw [d] at d'
  injection d' with d1 _
  have:its=its':=by simpa using congrArg Array.toList d1
  subst this
  exact r.inj r'
end
abbrev Cx.wish (X:Cx) (E:Value→Shared→Prop):Cx:={ X with xe:=E }
abbrev Cx.nox (X:Cx):Cx:=X.wish fun _ _=>False
theorem Cx.Ok.wish {X:Cx} (ok:X.Ok) (E:Value→Shared→Prop):(X.wish E).Ok :=
  ⟨ok.mod,ok.kind,ok.glob,ok.blt,ok.above,ok.inj,ok.has,ok.cab,ok.hd,ok.frames,ok.stk,ok.exf,ok.bs,ok.bsz,ok.noex,ok.exfs,ok.funs,ok.frf⟩
theorem Cx.Ok.unwish {X:Cx} {E:Value→Shared→Prop} (ok:(X.wish E).Ok):X.Ok :=
  ⟨ok.mod,ok.kind,ok.glob,ok.blt,ok.above,ok.inj,ok.has,ok.cab,ok.hd,ok.frames,ok.stk,ok.exf,ok.bs,ok.bsz,ok.noex,ok.exfs,ok.funs,ok.frf⟩
section
variable {X:Cx} {pins:List (Addr × Obj)} {σ:St} {H:Hp} {s:Shared} {E:Value→Shared→Prop}
theorem Inv.wish (I:Inv X pins σ H s) (E:Value→Shared→Prop):Inv (X.wish E) pins σ H s:=⟨I.ok.wish E,I.os,I.bare,I.base,I.loc,I.cell,I.free,I.freeC,I.pin,I.hok,I.len⟩
theorem Inv.unwish (I:Inv (X.wish E) pins σ H s):Inv X pins σ H s:=⟨I.ok.unwish,I.os,I.bare,I.base,I.loc,I.cell,I.free,I.freeC,I.pin,I.hok,I.len⟩
theorem SP.unwish {D:Ends} {f:Flow} {s':Shared} (h:SP (X.wish E) pins D f s'):SP X pins D f s':=by
  cases f with
  | next=>obtain ⟨σ',H',I,q⟩:=h; exact ⟨σ',H',I.unwish,q⟩
  | brk=>obtain ⟨σ',H',I,q⟩:=h; exact ⟨σ',H',I.unwish,q⟩
  | cont=>obtain ⟨σ',H',I,q⟩:=h; exact ⟨σ',H',I.unwish,q⟩
  | ret u=>obtain ⟨v,σ',H',I,r,q⟩:=h; exact ⟨v,σ',H',I.unwish,r,q⟩
theorem PE.nox {e:Expr} {t:TE} (h:PE X.nox e t):PE X e t:=fun pins s σ H Q I hw =>
  wpAny_mono (h pins s σ H Q (I.wish _) hw) (fun _ _ ⟨v,H',I',r,q⟩=>⟨v,H',I'.unwish,r,q⟩) fun _ _ z=>False.elim z
theorem PT.nox {e:Expr} {t:TT} (h:PT X.nox e t):PT X e t:=fun pins s σ H Q I hw =>
  wpAny_mono (h pins s σ H Q (I.wish _) hw) (fun _ _ ⟨H',I',q⟩=>⟨H',I'.unwish,q⟩) fun _ _ z=>False.elim z
theorem PSs.nox {st:List Stmt} {t:TS} (h:PSs X.nox st t):PSs X st t:=fun pins s σ H D I hw =>
  wpAny_mono (h pins s σ H D (I.wish _) hw) (fun _ _ q=>q.unwish) fun _ _ z=>False.elim z
end
section
variable {X:Cx} {st:Stmt} {rest:List Stmt} {t u:TS} {e:Expr} {te:TE} {pos:Pos}
def tNext:TS:=fun D σ H=>D.nx σ H
def tSeq (t u:TS):TS:=fun D σ H=>t { D with nx:=u D } σ H
theorem pss_nil:PSs X [] tNext:=fun _ _ σ H _ I h=>wpAny_execs_nil ⟨σ,H,I,h⟩
theorem pss_cons (h1:PS X st t) (h2:PSs X rest u):PSs X (st::rest) (tSeq t u):=by
  intro pins s σ H D I h
  refine wpAny_execs_cons (thn (h1 pins s σ H { D with nx:=u D } I h) fun f s1 q=>?_)
  cases f with
  | next =>
    obtain ⟨σ',H',I',q⟩:=q
    exact h2 pins s1 σ' H' D I' q
  | ret v=>exact q
  | brk=>exact q
  | cont=>exact q
theorem pss_one (h1:PS X st t):PSs X [st] t:=by
  intro pins s σ H D I h
  refine wpAny_execs_cons (thn (h1 pins s σ H D I h) fun f s1 q=>?_)
  cases f with
  | next=>exact wpAny_execs_nil q
  | ret v=>exact q
  | brk=>exact q
  | cont=>exact q
theorem Inv.quiet {pins:List (Addr × Obj)} {σ:St} {H:Hp} {s:Shared} (I:Inv X pins σ H s):interactive X.env=false:=by simp [interactive,I.ok.kind]
def tDrop (te:TE):TS:=fun D σ H=>te σ H fun _ H1=>D.nx σ H1
theorem ps_expr (he:PE X e te) (hs:swapsWith e none pos.line X.env=pure false:=by rfl):PS X (.Expr e pos) (tDrop te):=by
  intro pins s σ H D I h
  exact wpAny_Expr_any (thn (he pins s σ H _ I h) fun v s1 ⟨x,H1,I1,r1,q1⟩=>⟨σ,H1,I1,q1⟩) I.quiet hs
def tRet (te:TE):TS:=fun D σ H=>te σ H D.rt
theorem ps_ret (he:PE X e te):PS X (.Return (some e) pos) (tRet te):=by
  intro pins s σ H D I h
  exact wpAny_Return_some (thn (he pins s σ H _ I h) fun v s1 ⟨x,H1,I1,r1,q1⟩=>⟨x,σ,H1,I1,r1,q1⟩)
def tIfS (c:TT) (t u:TS):TS:=fun D σ H=>c σ H fun b H1=>if b=true then t D σ H1 else u D σ H1
theorem ps_if {c:Expr} {a b:List Stmt} {tc:TT} (hc:PT X c tc) (ha:PSs X a t) (hb:PSs X b u):PS X (.If c a b pos) (tIfS tc t u):=by
  intro pins s σ H D I h
  refine wpAny_If (thn (hc pins s σ H _ I h) fun d s1 ⟨H1,I1,q1⟩=>?_)
  cases d with
  | true=>exact ha pins s1 σ H1 D I1 q1
  | false=>exact hb pins s1 σ H1 D I1 q1
def tNever:TS:=fun _ _ _=>False
theorem ps_never:PS X st tNever:=fun _ _ _ _ _ _ h=>h.elim
end
abbrev TG:=V→St→Hp→(St→Hp→Prop)→Prop
abbrev TGs:=List V→St→Hp→(St→Hp→Prop)→Prop
def PG (X:Cx) (target:Expr) (t:TG):Prop :=
  ∀ (pins:List (Addr × Obj)) (s:Shared) (σ:St) (H:Hp) (v:V) (u:Value) (Q:St→Hp→Prop),Inv X pins σ H s→RelV v u→t v σ H Q →
    wpAny (model X.prog X.w) X.A (assign target X.env u) (fun _ s'=>∃ σ' H',Inv X pins σ' H' s'∧Q σ' H') X.xe s
def PGs (X:Cx) (ts:List Expr) (t:TGs):Prop :=
  ∀ (pins:List (Addr × Obj)) (s:Shared) (σ:St) (H:Hp) (vs:List V) (us:List Value) (Q:St→Hp→Prop),Inv X pins σ H s→Vals vs us→t vs σ H Q →
    wpAny (model X.prog X.w) X.A (assignInOrder ((assignEach ts X.env).map (·.2)) us) (fun _ s'=>∃ σ' H',Inv X pins σ' H' s'∧Q σ' H') X.xe s
abbrev TSet:=V→V→V→Hp→(Hp→Prop)→Prop
def PSet (X:Cx) (t:TSet):Prop :=
  ∀ (pins:List (Addr × Obj)) (s:Shared) (σ:St) (H:Hp) (o i v:V) (ov iv u:Value) (Q:Hp→Prop),Inv X pins σ H s→RelV o ov→RelV i iv→RelV v u→t o i v H Q →
    wpAny (model X.prog X.w) X.A (setItem ov iv u) (fun _ s'=>∃ H',Inv X pins σ H' s'∧Q H') X.xe s
abbrev TIp:=V→V→Hp→VK→Prop
def PIp (X:Cx) (op:Operator) (t:TIp):Prop :=
  ∀ (pins:List (Addr × Obj)) (s:Shared) (σ:St) (H:Hp) (x y:V) (v u:Value) (Q:VK),Inv X pins σ H s→RelV x v→RelV y u→t x y H Q →
    wpAny (model X.prog X.w) X.A (inplaceOp op v u) (EP X pins σ Q) X.xe s
section
variable {X:Cx} {pos:Pos}
def gName (i:Nat):TG:=fun v σ H Q=>Q (σ.set i (some v)) H
theorem pg_name {i:Nat} {x:Str} (hN:X.N.Nodup) (hi:X.N[i]?=some x) (hx:Loc X.env.scope x) (hf:X.fn x=true∨X.env.scope.names.lookup x=some .local:=by first | exact .inl rfl | exact .inr rfl | assumption):PG X (.Name x pos) (gName i):=by
  intro pins s σ H v u Q I r h
  exact wpAny_assign_Name (store_ok I hN hi hx r (fun s' I'=>⟨_,H,I',h⟩) hf)
def gNil:TGs:=fun vs σ H Q=>vs=[]∧Q σ H
def gCons (t:TG) (u:TGs):TGs:=fun vs σ H Q=>∃ v r,vs=v::r∧t v σ H fun σ' H'=>u r σ' H' Q
theorem pgs_nil:PGs X [] gNil:=by
  intro pins s σ H vs us Q I r h
  obtain ⟨e,h⟩:=h
  subst e
  cases r
  exact assignInOrder_nil ⟨σ,H,I,h⟩
theorem pgs_cons {e:Expr} {es:List Expr} {t:TG} {u:TGs} (h1:PG X e t) (h2:PGs X es u)
    (hs:(assignEach (e::es) X.env).map (·.2)=assign e X.env::(assignEach es X.env).map (·.2):=by rfl):PGs X (e::es) (gCons t u):=by
  intro pins s σ H vs us Q I r h
  obtain ⟨v,vr,e1,h⟩:=h
  subst e1
  cases r with
  | cons r rr =>
    rw [hs]
    refine assignInOrder_cons (thn (h1 pins s σ H _ _ _ I r h) fun _ s1 ⟨σ1,H1,I1,q1⟩=>?_)
    exact h2 pins s1 σ1 H1 _ _ Q I1 rr q1
def gTup (K:PySem.W.Frag) (n:Nat) (t:TGs):TG:=fun v σ H Q=>∃ a xs,v=.ref a∧SqT K H a xs∧xs.length=n∧t xs σ H Q
theorem pg_tup {es:List Expr} {k:Nat} {t:TGs} {n:Nat} (hc:X.calm=true) (h:PGs X es t)
    (hn:(assignEach es X.env).length=n:=by rfl) (hst:(assignEach es X.env).findIdx? (·.1)=none:=by rfl):PG X (.Tuple es k pos) (gTup X.K n t):=by
  intro pins s σ H v u Q I r hw
  obtain ⟨a,xs,e1,hq,hl,hw⟩:=hw
  subst e1
  cases r
  obtain ⟨its,rv,ht,hz⟩:=I.tuple hq
  refine assign_Tuple_tuple (I.ok.hd hc) ht (by simp [hn,← hl,rv.length]) hst fun h' hx=>?_
  have I1:Inv X pins σ H { s with heap:=h' }:=I.kept (t':=s.toks) fun b o e=>hx b o (Nat.ne_of_lt (Heap.lt_size e)) e
  exact h pins _ σ H xs _ Q I1 (by simpa using rv) hw
def gSub (to ti:TE) (t:TSet):TG:=fun v σ H Q=>to σ H fun o H1=>ti σ H1 fun i H2=>t o i v H2 fun H3=>Q σ H3
theorem pg_sub {o i:Expr} {to ti:TE} {t:TSet} (ho:PE X o to) (hi:PE X i ti) (hs:PSet X t)
    (ha:∀ v,assign (.Subscript o i pos) X.env v=(do
      let ov ← holding [v] (eval o X.env)
      let iv ← holding [v,ov] (eval i X.env)
      standAt pos
      holding [v,ov,iv] (setItem ov iv v)
      release [v,ov,iv] []):=by intro _; rfl):PG X (.Subscript o i pos) (gSub to ti t):=by
  intro pins s σ H v u Q I r h
  rw [ha]
  refine wpAny_bind (wpAny_holding (thn (ho pins s σ H _ I h) fun ov s1 ⟨x,H1,I1,r1,q1⟩=>?_))
  refine wpAny_bind (wpAny_holding (thn (hi pins s1 σ H1 _ I1 q1) fun iv s2 ⟨y,H2,I2,r2,q2⟩=>?_))
  refine wpAny_bind (wpAny_standAt (wpAny_bind (wpAny_holding (thn (hs pins s2 σ H2 x y v ov iv u _ I2 r1 r2 r q2) fun _ s3 ⟨H3,I3,q3⟩=>?_))))
  exact wpAny_release ⟨σ,H3,I3,q3⟩
def tAsg (te:TE) (g:TG):TS:=fun D σ H=>te σ H fun x H1=>g x σ H1 D.nx
theorem ps_asg {tg e:Expr} {te:TE} {g:TG} (he:PE X e te) (hg:PG X tg g) (hs:swapsWithSole [tg] e pos.line X.env=pure false:=by rfl) (hw:swappedStores [tg] e X.env=pure none:=by rfl)
    (h1:(assignEach [tg] X.env).map (·.2)=[assign tg X.env]:=by rfl):PS X (.Assign [tg] e pos) (tAsg te g):=by
  intro pins s σ H D I h
  refine wpAny_Assign_stores (thn (he pins s σ H _ I h) fun v s1 ⟨x,H1,I1,r1,q1⟩=>?_) hs hw
  rw [h1]
  exact thn (hg pins s1 σ H1 x v _ I1 r1 q1) fun _ s2 q=>q
theorem ps_set {i:Nat} {x:Str} {e:Expr} {te:TE} {pos':Pos} (hN:X.N.Nodup) (hi:X.N[i]?=some x) (hx:Loc X.env.scope x) (he:PE X e te) (hs:swapsWith e (some (.Name x pos')) pos.line X.env=pure false:=by rfl) (hf:X.fn x=true∨X.env.scope.names.lookup x=some .local:=by first | exact .inl rfl | exact .inr rfl | assumption) :
    PS X (.Assign [.Name x pos'] e pos) (tAsg te (gName i)):=by
  intro pins s σ H D I h
  refine wpAny_Assign_Name (thn (he pins s σ H _ I h) fun v s1 ⟨y,H1,I1,r1,q1⟩=>?_) hs
  exact store_ok I1 hN hi hx r1 (fun s2 I2=>⟨_,H1,I2,q1⟩) hf
def tAug (i:Nat) (te:TE) (ti:TIp):TS:=fun D σ H=>∃ x,σ[i]?=some (some x)∧te σ H fun y H1=>ti x y H1 fun z H2=>D.nx (σ.set i (some z)) H2
theorem ps_aug {i:Nat} {x:Str} {e:Expr} {te:TE} {op:Operator} {ti:TIp} {pos':Pos} (hN:X.N.Nodup) (hi:X.N[i]?=some x) (hx:Loc X.env.scope x) (he:PE X e te) (ho:PIp X op ti) (hf:X.fn x=true∨X.env.scope.names.lookup x=some .local:=by first | exact .inl rfl | exact .inr rfl | assumption) :
    PS X (.AugAssign (.Name x pos') op e pos) (tAug i te ti):=by
  intro pins s σ H D I h
  obtain ⟨v,e1,h⟩:=h
  obtain ⟨m,hn,hl⟩:=I.loc
  have vis:Vis X.env.scope x:=by rcases hx with k | k; exact .inl k; exact .inr (.inl k)
  obtain ⟨u,r,l⟩:=hl i x v hi e1 vis
  refine wpAny_AugAssign_Name ?_
  have go:wpAny (model X.prog X.w) X.A (eval e X.env) (fun w s₂=>wpAny (model X.prog X.w) X.A (inplaceOp op u w) (fun r s₃=>wpAny (model X.prog X.w) X.A (storeName X.env x r) (fun _=>SP X pins D .next) X.xe s₃) X.xe s₂) X.xe s:=by
    refine thn (he pins s σ H _ I h) fun w s1 ⟨y,H1,I1,r1,q1⟩=>?_
    refine thn (ho pins s1 σ H1 v y u w _ I1 r r1 q1) fun z s2 ⟨zv,H2,I2,r2,q2⟩=>?_
    exact store_ok I2 hN hi hx r2 (fun s3 I3=>⟨_,H2,I3,q2⟩) hf
  rcases l with ⟨hk,hm⟩ | ⟨hk,c,hc,hcell⟩
  · exact wpAny_loadName_local I.ok.kind hk hn hm go
  · rcases hk with hk | hk
    · exact wpAny_loadName_cell I.ok.kind hk hc hcell go
    · rcases hx with k | k
      · have:X.env.scope.names.lookup x=some .free:=hk
        rw [k] at this; cases this
      · have:X.env.scope.names.lookup x=some .free:=hk
        rw [k] at this; cases this
def tAugS (to ti te:TE) (tget:V→V→Hp→VK→Prop) (tip:TIp) (tset:TSet):TS:=fun D σ H=>to σ H fun o H1=>ti σ H1 fun i H2=>tget o i H2 fun x H3=>te σ H3 fun y H4=>tip x y H4 fun z H5=>tset o i z H5 fun H6=>D.nx σ H6
def PGet (X:Cx) (t:V→V→Hp→VK→Prop):Prop :=
  ∀ (pins:List (Addr × Obj)) (s:Shared) (σ:St) (H:Hp) (o i:V) (ov iv:Value) (Q:VK),Inv X pins σ H s→RelV o ov→RelV i iv→t o i H Q →
    wpAny (model X.prog X.w) X.A (getItem ov iv) (EP X pins σ Q) X.xe s
theorem ps_augS {o i e:Expr} {to ti te:TE} {tget:V→V→Hp→VK→Prop} {tip:TIp} {tset:TSet} {op:Operator} {tpos:Pos} (ho:PE X o to) (hi:PE X i ti) (hg:PGet X tget) (he:PE X e te) (hp:PIp X op tip) (hs:PSet X tset)
    (ha:∀ ov iv new,augStore i ov iv new=(do holding [new,ov,iv] (setItem ov iv new); release [new,ov,iv] []; pure .next):=by intros; rfl):PS X (.AugAssign (.Subscript o i tpos) op e pos) (tAugS to ti te tget tip tset):=by
  intro pins s σ H D I h
  refine wpAny_AugAssign_SubscriptAny (thn (ho pins s σ H _ I h) fun ov s1 ⟨x1,H1,I1,r1,q1⟩=>?_) ha
  refine thn (hi pins s1 σ H1 _ I1 q1) fun iv s2 ⟨x2,H2,I2,r2,q2⟩=>?_
  refine thn (hg pins s2 σ H2 x1 x2 ov iv _ I2 r1 r2 q2) fun old s3 ⟨x3,H3,I3,r3,q3⟩=>?_
  refine thn (he pins s3 σ H3 _ I3 q3) fun v s4 ⟨x4,H4,I4,r4,q4⟩=>?_
  refine thn (hp pins s4 σ H4 x3 x4 old v _ I4 r3 r4 q4) fun new s5 ⟨x5,H5,I5,r5,q5⟩=>?_
  exact thn (hs pins s5 σ H5 x1 x2 x5 ov iv new _ I5 r1 r2 r5 q5) fun _ s6 ⟨H6,I6,q6⟩=>⟨σ,H6,I6,q6⟩
def ipI (f:Int→Int→Int):TIp:=fun x y H Q=>∃ i j,x=.int i∧y=.int j∧Q (.int (f i j)) H
theorem ip_add:PIp X .Add (ipI fun i j=>i + j):=by
  intro pins s σ H x y v u Q I r1 r2 h
  obtain ⟨i,j,e1,e2,q⟩:=h
  subst e1; subst e2
  obtain ⟨t,rfl⟩:=r1
  obtain ⟨t',rfl⟩:=r2
  exact iadd_int ⟨.int _,H,I.tok _,⟨_,rfl⟩,q⟩
theorem ip_sub:PIp X .Sub (ipI fun i j=>i - j):=by
  intro pins s σ H x y v u Q I r1 r2 h
  obtain ⟨i,j,e1,e2,q⟩:=h
  subst e1; subst e2
  obtain ⟨t,rfl⟩:=r1
  obtain ⟨t',rfl⟩:=r2
  exact isub_int ⟨.int _,H,I.tok _,⟨_,rfl⟩,q⟩
end
section
variable {X:Cx} {pos:Pos}
def tWhile (c:TT) (tb:TS):TS:=fun D σ H=>∃ W:Nat→St→Hp→Prop,(∃ m,W m σ H)∧∀ m σ H,W m σ H →
  c σ H fun b H1=>if b=true then ∃ N:St→Hp→Prop,(∀ σ' H',N σ' H'→∃ m',m' < m∧W m' σ' H')∧tb { D with nx:=N,ct:=N,bk:=D.nx } σ H1 else D.nx σ H1
theorem ps_while {c:Expr} {body:List Stmt} {tc:TT} {tb:TS} (hp:PassesOwn (model X.prog X.w) X.A X.env X.xe) (hc:PT X c tc) (hb:PSs X body tb):PS X (.While c body [] pos) (tWhile tc tb):=by
  intro pins s σ H D I h
  obtain ⟨W,⟨m0,w0⟩,turn⟩:=h
  refine wpAny_While (codeAny_whileLoop (fun n s'=>∃ σ' H',Inv X pins σ' H' s'∧W n σ' H') ?_ m0 ⟨σ,H,I,w0⟩)
  rintro n s1 ⟨σ1,H1,I1,w1⟩
  refine wpAny_passesOwn hp (thn (hc pins s1 σ1 H1 _ I1 (turn n σ1 H1 w1)) fun b s2 ⟨H2,I2,q2⟩=>?_)
  cases b with
  | true =>
    obtain ⟨N,hN,q2⟩:=q2
    rw [if_pos rfl]
    refine wpAny_passesOwn hp (thn (hb pins s2 σ1 H2 _ I2 q2) fun f s3 q3=>?_)
    cases f with
    | next =>
      obtain ⟨σ3,H3,I3,n3⟩:=q3
      obtain ⟨m',hm,w3⟩:=hN σ3 H3 n3
      exact ⟨m',hm,σ3,H3,I3,w3⟩
    | cont =>
      obtain ⟨σ3,H3,I3,n3⟩:=q3
      obtain ⟨m',hm,w3⟩:=hN σ3 H3 n3
      exact ⟨m',hm,σ3,H3,I3,w3⟩
    | brk=>exact q3
    | ret v=>exact q3
  | false =>
    rw [if_neg Bool.false_ne_true]
    exact wpAny_execs_nil ⟨σ1,H2,I2,q2⟩
end
structure It where
  go:Nat→Hp→Prop
  yld:Nat→Hp→V→Hp→Prop
  stop:Nat→Hp→Prop
def FpOk (X:Cx) (pins:List (Addr × Obj)) (H:Hp) (b:Addr):Prop :=
  H b=none∧b ≠ X.env.locals∧b ∉ X.fs∧(b∈X.ex∨X.s₀.heap.objs.size≤b)∧(∀ x c,X.env.cells.lookup x=some c→c ≠ b)∧∀ p∈X.pn++pins,p.1 ≠ b
theorem Inv.fpOk {X:Cx} {pins:List (Addr × Obj)} {σ:St} {H H':Hp} {s:Shared} {b:Addr} (I:Inv X pins σ H s) (hb:s.heap.objs.size≤b) (hn:H' b=none):FpOk X pins H' b:=by
  refine ⟨hn,Nat.ne_of_gt (Nat.lt_of_lt_of_le I.lt hb),I.nofs hb,.inr (Nat.le_trans I.sz hb),fun x c e z=>?_,fun p hp z=>?_⟩
  · obtain ⟨v,q⟩:=I.cell x c e
    exact absurd (Nat.lt_of_lt_of_le q.lt (by rw [z]; exact hb)) (Nat.lt_irrefl _)
  · exact absurd (Nat.lt_of_lt_of_le (Heap.lt_size (I.pin p hp).1) (by rw [z]; exact hb)) (Nat.lt_irrefl _)
structure Turn (P:Program) (w:World) (K:PySem.W.Frag) (tg:Expr) (J:It) (fp:List Addr) (it:Addr) (tn:Nat→Heap→Prop):Prop where
  mem:it∈fp
  obj:∀ i h,tn i h→∀ b∈fp,∃ o,h.get? b=some o∧∀ v,o.data ≠ .cell v
  keep:∀ i h h',tn i h→(∀ b∈fp,∀ o,h.get? b=some o→h'.get? b=some o)→tn i h'
  item:∀ (X:Cx),X.prog=P→X.w=w→X.K=K→X.calm=true→∀ (i:Nat) (pins:List (Addr × Obj)) (s:Shared) (σ:St) (H:Hp) (E:Value→Shared→Prop),Inv X pins σ H s→(∀ b∈fp,FpOk X pins H b)→tn i s.heap→J.go i H →
    wpAny (model P w) X.A (pyNext (.ref it)) (fun r s1=>∃ u,r=some u ∧
      wpAny (model P w) X.A (letOwnedTupleGo tg (.ref it) u) (fun _ s2=>∃ x H',Inv X pins σ H' s2∧RelV x u∧J.yld i H x H'∧tn (i + 1) s2.heap∧∀ b∈fp,H' b=none) E s1) E s
  done:∀ (X:Cx),X.prog=P→X.w=w→X.K=K→X.calm=true→∀ (i:Nat) (pins:List (Addr × Obj)) (s:Shared) (σ:St) (H:Hp) (E:Value→Shared→Prop),Inv X pins σ H s→(∀ b∈fp,FpOk X pins H b)→tn i s.heap→J.stop i H →
    wpAny (model P w) X.A (pyNext (.ref it)) (fun r s1=>r=none∧Inv X pins σ H s1) E s
  self:∀ (A:Around) (i:Nat) (s:Shared) (Q:Value→Shared→Prop) (E:Value→Shared→Prop),tn i s.heap→Q (.ref it) s→wpAny (model P w) A (pyIter (.ref it)) Q E s
abbrev TI:=St→Hp→(It→Hp→Prop)→Prop
def PIE (X:Cx) (pins:List (Addr × Obj)) (σ:St) (tg:Expr) (R:It→Hp→Prop) (itv:Value) (s2:Shared):Prop :=
  ∃ (it:Addr) (fp:List Addr) (tn:Nat→Heap→Prop) (J:It) (H':Hp),itv=.ref it∧Inv X pins σ H' s2∧Turn X.prog X.w X.K tg J fp it tn∧tn 0 s2.heap∧(∀ b∈fp,FpOk X pins H' b)∧R J H'
def PI (X:Cx) (tg iter:Expr) (wi:TI):Prop :=
  ∀ (pins:List (Addr × Obj)) (s:Shared) (σ:St) (H:Hp) (R:It→Hp→Prop),Inv X pins σ H s→wi σ H R →
    wpAny (model X.prog X.w) X.A (eval iter X.env) (fun v s1=>wpAny (model X.prog X.w) X.A (pyIter v) (PIE X pins σ tg R) X.xe s1) X.xe s
theorem go_of {M:Model} {A:Around} {E:Value→Shared→Prop} {s:Shared} {tg:Expr} {it:Addr} {u:Value} {o:Obj} {n:String} {vs:Array Value} {Q:Unit→Shared→Prop} (ho:s.heap.get? it=some o) (hc:o.cls=.type n) (hd:o.data=.fields vs)
    (hn:["enumerate", "zip", "dict_itemiterator", "dict_reverseitemiterator", "odict_iterator", "itertools.zip_longest", "itertools.pairwise"].contains n=false) (hQ:Q () s):wpAny M A (letOwnedTupleGo tg (.ref it) u) Q E s:=by
  unfold letOwnedTupleGo
  cases tg <;> first
    | exact wpAny_pure hQ
    | (cases u <;> first
        | exact wpAny_pure hQ
        | (refine wpAny_bind (wpAny_load ho ?_)
           rw [hc,hd]
           show wpAny M A (if (["enumerate", "zip", "dict_itemiterator", "dict_reverseitemiterator", "odict_iterator", "itertools.zip_longest", "itertools.pairwise"].contains n && vs[0]?==some (rawInt _))=true then _ else _) Q E s
           rw [if_neg (by intro h; rw [hn,Bool.false_and] at h; cases h)]
           exact wpAny_pure hQ))
def Itl (K:PySem.W.Frag) (a:Addr):It :=
  ⟨fun i H=>∃ xs x,SqL K H a xs∧xs[i]?=some x,fun i H x H'=>H'=H∧∀ xs,SqL K H a xs→xs[i]?=some x,fun i H=>∃ xs,SqL K H a xs∧xs.length≤i⟩
def Itt (K:PySem.W.Frag) (a:Addr):It :=
  ⟨fun i H=>∃ xs x,SqT K H a xs∧xs[i]?=some x,fun i H x H'=>H'=H∧∀ xs,SqT K H a xs→xs[i]?=some x,fun i H=>∃ xs,SqT K H a xs∧xs.length≤i⟩
def Itr (lo:Int) (n:Nat):It:=⟨fun i _=>i < n,fun i H x H'=>H'=H∧x=.int (lo + i),fun i _=>n≤i⟩
theorem turn_list {P:Program} {w:World} {K:PySem.W.Frag} {tg:Expr} (a it:Addr):Turn P w K tg (Itl K a) [it] it (fun i h=>h.IsListIter it a i) where
  mem:=by simp
  obj:=fun i h st b hb=>by
    have e:b=it:=by simpa using hb
    subst e
    obtain ⟨o,e,c,d⟩:=st
    exact ⟨o,e,fun v z=>by rw [d] at z; cases z⟩
  keep:=fun i h h' st k=>st.at fun o e=>k it (by simp) o e
  item:=by
    intro X hP hw hK hc i pins s σ H E I hf st hg
    subst hP hw hK
    obtain ⟨xs,x,hq,hx⟩:=hg
    obtain ⟨its,rv,p,hz⟩:=I.list hq
    obtain ⟨u,hu,ru⟩:=rv.get hx
    obtain ⟨f0,f1,f2,f3,f4,f5⟩:=hf it (by simp)
    refine wpAny_pyNext_list_item st p.isList (x:=u) (by simpa using hu) fun h' st' sb=>?_
    have I1:Inv X pins σ H { s with heap:=h' }:=I.turned (t':=s.toks) (fun b o hb e=>(sb.2 b hb).trans e) f0 f1 f3 f4 f5
    obtain ⟨o,e,c,d⟩:=id st'
    exact ⟨u,rfl,go_of (s:={ s with heap:=h' }) e c d (by decide) ⟨x,H,I1,ru,⟨rfl,fun ys hy=>by rw [I.list_inj hy hq]; exact hx⟩,st',fun b hb=>(hf b hb).1⟩⟩
  done:=by
    intro X hP hw hK hc i pins s σ H E I hf st hg
    subst hP hw hK
    obtain ⟨xs,hq,hx⟩:=hg
    obtain ⟨its,rv,p,hz⟩:=I.list hq
    obtain ⟨f0,f1,f2,f3,f4,f5⟩:=hf it (by simp)
    have hl:=rv.length
    exact wpAny_pyNext_list_end (I.ok.hd hc) st p.isList (by simp; omega) fun h' eb=>⟨rfl,I.turned (t':=s.toks) (fun b o hb e=>eb b o hb e) f0 f1 f3 f4 f5⟩
  self:=fun _ _ _ _ _ st h=>wpAny_pyIter_listiter st h
theorem turn_tuple {P:Program} {w:World} {K:PySem.W.Frag} {tg:Expr} (a it:Addr):Turn P w K tg (Itt K a) [it] it (fun i h=>h.IsTupleIter it a i) where
  mem:=by simp
  obj:=fun i h st b hb=>by
    have e:b=it:=by simpa using hb
    subst e
    obtain ⟨o,e,c,d⟩:=st
    exact ⟨o,e,fun v z=>by rw [d] at z; cases z⟩
  keep:=fun i h h' st k=>st.at fun o e=>k it (by simp) o e
  item:=by
    intro X hP hw hK hc i pins s σ H E I hf st hg
    subst hP hw hK
    obtain ⟨xs,x,hq,hx⟩:=hg
    obtain ⟨its,rv,p,hz⟩:=I.tuple hq
    obtain ⟨u,hu,ru⟩:=rv.get hx
    obtain ⟨f0,f1,f2,f3,f4,f5⟩:=hf it (by simp)
    refine wpAny_pyNext_tuple_item st (show s.heap.IsTuple a its.toArray from p) (x:=u) (by simpa using hu) fun h' st' sb=>?_
    have I1:Inv X pins σ H { s with heap:=h' }:=I.turned (t':=s.toks) (fun b o hb e=>(sb.2 b hb).trans e) f0 f1 f3 f4 f5
    obtain ⟨o,e,c,d⟩:=id st'
    exact ⟨u,rfl,go_of (s:={ s with heap:=h' }) e c d (by decide) ⟨x,H,I1,ru,⟨rfl,fun ys hy=>by rw [I.tuple_inj hy hq]; exact hx⟩,st',fun b hb=>(hf b hb).1⟩⟩
  done:=by
    intro X hP hw hK hc i pins s σ H E I hf st hg
    subst hP hw hK
    obtain ⟨xs,hq,hx⟩:=hg
    obtain ⟨its,rv,p,hz⟩:=I.tuple hq
    obtain ⟨f0,f1,f2,f3,f4,f5⟩:=hf it (by simp)
    have hl:=rv.length
    exact wpAny_pyNext_tuple_end (I.ok.hd hc) st (show s.heap.IsTuple a its.toArray from p) (by simp; omega) fun h' eb=>⟨rfl,I.turned (t':=s.toks) (fun b o hb e=>eb b o hb e) f0 f1 f3 f4 f5⟩
  self:=fun _ _ _ _ _ st h=>wpAny_pyIter_tupleiter st h
theorem turn_range {P:Program} {w:World} {K:PySem.W.Frag} {tg:Expr} (it:Addr) (lo:Int) (n:Nat):Turn P w K tg (Itr lo n) [it] it (fun i h=>IsRangeIter h it (lo + (i:Nat) * 1) ((n:Int) - (i:Nat)) 1) where
  mem:=by simp
  obj:=fun i h st b hb=>by
    have e:b=it:=by simpa using hb
    subst e
    exact ⟨_,st,fun v z=>by
      have z':Data.fields _=Data.cell v:=z
      cases z'⟩
  keep:=fun i h h' st k=>k it (by simp) _ st
  item:=by
    intro X hP hw hK hc i pins s σ H E I hf st hg
    subst hP hw hK
    obtain ⟨f0,f1,f2,f3,f4,f5⟩:=hf it (by simp)
    have W:=Walks.range (prog:=X.prog) (w:=X.w) (I.ok.hd hc) it lo 1 n
    refine W.item i s _ _ hg st fun v h' tk hv st' kk=>?_
    obtain ⟨t,rfl⟩:=hv
    have I1:Inv X pins σ H { s with heap:=h',toks:=tk }:=I.turned (fun b o hb e=>kk b o (by simpa using hb) e) f0 f1 f3 f4 f5
    refine ⟨_,rfl,go_of (s:={ s with heap:=h',toks:=tk }) (n:="range_iterator") st' rfl rfl (by decide) ⟨.int (lo + i),H,I1,⟨t,?_⟩,⟨rfl,rfl⟩,st',fun b hb=>(hf b hb).1⟩⟩
    rw [Int.mul_one]
  done:=by
    intro X hP hw hK hc i pins s σ H E I hf st hg
    subst hP hw hK
    obtain ⟨f0,f1,f2,f3,f4,f5⟩:=hf it (by simp)
    exact wpAny_pyNext_range_end (I.ok.hd hc) st (by have:n≤i:=hg; omega) fun h' eb=>⟨rfl,I.turned (t':=s.toks) (fun b o hb e=>eb b o hb e) f0 f1 f3 f4 f5⟩
  self:=fun _ _ _ _ _ st h=>wpAny_pyIter_rangeiter st h
end L2
namespace L2
open PySem PySem.Spec PyProof.Rows
section
variable {X:Cx} {tg:Expr}
def iList (K:PySem.W.Frag) (tl:TE):TI:=fun σ H R=>tl σ H fun x H1=>∃ a,x=.ref a∧(∃ xs,SqL K H1 a xs)∧R (Itl K a) H1
def iTup (K:PySem.W.Frag) (tl:TE):TI:=fun σ H R=>tl σ H fun x H1=>∃ a,x=.ref a∧(∃ xs,SqT K H1 a xs)∧R (Itt K a) H1
theorem pi_list {l:Expr} {tl:TE} (hl:PE X l tl):PI X tg l (iList X.K tl):=by
  intro pins s σ H R I h
  refine thn (hl pins s σ H _ I h) fun v s1 ⟨x,H1,I1,r1,q1⟩=>?_
  obtain ⟨a,e,⟨xs,hq⟩,q⟩:=q1
  subst e
  cases r1
  obtain ⟨its,rv,p,hz⟩:=I1.list hq
  refine wpAny_pyIter_list p.isList ?_
  refine ⟨s1.heap.objs.size,[s1.heap.objs.size],_,_,H1,rfl,I1.kept (t':=s1.toks) fun b o e=>Heap.get?_push_of_some _ e,turn_list a _,⟨_,Heap.get?_push_size _ rfl,rfl,rfl⟩,fun b hb=>?_,q⟩
  have e:b=s1.heap.objs.size:=by simpa using hb
  subst e
  exact I1.fpOk (Nat.le_refl _) (I1.hok.fresh (Nat.le_refl _))
theorem pi_tup {l:Expr} {tl:TE} (hl:PE X l tl):PI X tg l (iTup X.K tl):=by
  intro pins s σ H R I h
  refine thn (hl pins s σ H _ I h) fun v s1 ⟨x,H1,I1,r1,q1⟩=>?_
  obtain ⟨a,e,⟨xs,hq⟩,q⟩:=q1
  subst e
  cases r1
  obtain ⟨its,rv,p,hz⟩:=I1.tuple hq
  refine wpAny_pyIter_tuple (show s1.heap.IsTuple a its.toArray from p) ?_
  refine ⟨s1.heap.objs.size,[s1.heap.objs.size],_,_,H1,rfl,I1.kept (t':=s1.toks) fun b o e=>Heap.get?_push_of_some _ e,turn_tuple a _,⟨_,Heap.get?_push_size _ rfl,rfl,rfl⟩,fun b hb=>?_,q⟩
  have e:b=s1.heap.objs.size:=by simpa using hb
  subst e
  exact I1.fpOk (Nat.le_refl _) (I1.hok.fresh (Nat.le_refl _))
theorem range_it {pins:List (Addr × Obj)} {σ:St} {H:Hp} {s:Shared} {R:It→Hp→Prop} {E:Value→Shared→Prop} {lo hi:Int} {t u v:Tok} {tk:Nat} (I:Inv X pins σ H s) (h1:-(2 ^ 62)≤lo) (h2:lo < 2 ^ 62) (h3:-(2 ^ 62)≤hi) (h4:hi < 2 ^ 62)
    (q:R (Itr lo (hi - lo).toNat) H):wpAny (model X.prog X.w) X.A (pyIter (.ref s.heap.objs.size)) (PIE X pins σ tg R) E { s with heap:=s.heap.push { cls:=.type "range",data:=.fields #[.int lo t,.int hi u,.int 1 v] },toks:=tk }:=by
  refine wpAny_pyIter_range (IsRange.new ..) (small_one h1 h2 h3 h4) ?_
  have I1:Inv X pins σ H { s with heap:=s.heap.push { cls:=.type "range",data:=.fields #[.int lo t,.int hi u,.int 1 v] },toks:=tk }:=I.kept fun b o e=>Heap.get?_push_of_some _ e
  refine ⟨(s.heap.push { cls:=.type "range",data:=.fields #[.int lo t,.int hi u,.int 1 v] }).objs.size,[(s.heap.push { cls:=.type "range",data:=.fields #[.int lo t,.int hi u,.int 1 v] }).objs.size],_,_,H,rfl,
    I1.kept (t':=tk) fun b o e=>Heap.get?_push_of_some _ e,turn_range _ lo (hi - lo).toNat,?_,fun b hb=>?_,q⟩
  · have e1:lo + ((0:Nat):Int) * 1=lo:=by simp
    have e2:(((hi - lo).toNat:Nat):Int) - ((0:Nat):Int)=Builtin.Range.rangeSize lo hi 1:=by rw [rangeSize_one]; split <;> omega
    show IsRangeIter _ _ (lo + ((0:Nat):Int) * 1) ((((hi - lo).toNat:Nat):Int) - ((0:Nat):Int)) 1
    rw [e1,e2]
    exact Heap.get?_push_size _ rfl
  · have e:b=(s.heap.push { cls:=.type "range",data:=.fields #[.int lo t,.int hi u,.int 1 v] }).objs.size:=by simpa using hb
    subst e
    exact I1.fpOk (Nat.le_refl _) (I1.hok.fresh (Nat.le_refl _))
def iRng1 (ta:TA):TI:=fun σ H R=>ta σ H fun vs H1=>∃ j:Int,vs=[.int j]∧-(2 ^ 62)≤j∧j < 2 ^ 62∧R (Itr 0 j.toNat) H1
theorem pi_range1 {a:Expr} {ta:TA} {p pos:Pos} (hg:Gl X "range") (hm:X.mg "range" = none) (ha:PA X [a] ta) (hs:starEach [a] X.env=[(false,eval a X.env)]:=by rfl):PI X tg (.Call (.Name "range" p) [a] [] pos) (iRng1 ta):=by
  intro pins s σ H R I h
  refine Call_ (ld_blt I hg hm boot_range (PyProof.Rows.callWith_type1 (thn (ha pos pins s σ H _ I h) fun us s1 ⟨vs,H1,I1,r1,q1⟩=>?_) hs rfl))
  obtain ⟨j,e,q1,q2,q⟩:=q1
  subst e
  cases r1 with
  | cons r rr =>
    cases rr
    obtain ⟨t,rfl⟩:=r
    exact call_range_1 (range_it I1 (by omega) (by omega) q1 q2 (by simpa using q))
def tFor (wi:TI) (g:TG) (tb:TS):TS:=fun D σ H=>wi σ H fun J H1=>∃ W:Nat→Nat→St→Hp→Prop,(∃ m,W 0 m σ H1)∧∀ i m σ H,W i m σ H →
  (J.stop i H∧D.nx σ H)∨(J.go i H∧∃ N:St→Hp→Prop,(∀ σ' H',N σ' H'→∃ m',m' < m∧W (i + 1) m' σ' H')∧∀ x H',J.yld i H x H'→g x σ H' fun σ2 H2=>tb { D with nx:=N,ct:=N,bk:=D.nx } σ2 H2)
def pinsAt (fp:List Addr) (h:Heap):List (Addr × Obj):=fp.filterMap fun b=>(h.get? b).map fun o=>(b,o)
theorem mem_pinsAt {fp:List Addr} {h:Heap} {b:Addr} {o:Obj} (hb:b∈fp) (e:h.get? b=some o):(b,o)∈pinsAt fp h:=List.mem_filterMap.mpr ⟨b,hb,by rw [e]; rfl⟩
theorem of_pinsAt {fp:List Addr} {h:Heap} {p:Addr × Obj} (hp:p∈pinsAt fp h):p.1∈fp∧h.get? p.1=some p.2:=by
  obtain ⟨b,hb,e⟩:=List.mem_filterMap.mp hp
  cases q:h.get? b with
  | none=>rw [q] at e; cases e
  | some o =>
    rw [q] at e
    have e':(b,o)=p:=Option.some.inj e
    subst e'
    exact ⟨hb,q⟩
theorem Inv.pinned {pins:List (Addr × Obj)} {σ:St} {H:Hp} {s:Shared} {fp:List Addr} (I:Inv X pins σ H s) (hf:∀ b∈fp,FpOk X pins H b) (ho:∀ b∈fp,∃ o,s.heap.get? b=some o∧∀ v,o.data ≠ .cell v):Inv X (pins++pinsAt fp s.heap) σ H s :=
  I.pins_of fun p hp=>(List.mem_append.mp hp).elim (fun z=>I.pin p (List.mem_append_right _ z)) fun z=>by
    obtain ⟨hb,e⟩:=of_pinsAt z
    obtain ⟨f0,f1,f2,_⟩:=hf p.1 hb
    obtain ⟨o,e',d⟩:=ho p.1 hb
    rw [e] at e'; cases e'
    exact ⟨e,f0,f1,f2,d⟩
theorem Inv.unpinned {pins pl:List (Addr × Obj)} {σ:St} {H:Hp} {s:Shared} (I:Inv X (pins++pl) σ H s):Inv X pins σ H s:=I.pins_of fun p hp=>I.pin p (List.mem_append_right _ (List.mem_append_left _ hp))
theorem ps_for {iter:Expr} {body:List Stmt} {wi:TI} {g:TG} {tb:TS} {pos:Pos} (hp:PassesOwn (model X.prog X.w) X.A X.env X.xe) (hc:X.calm=true) (hi:PI X tg iter wi) (hg:PG X tg g) (hb:PSs X body tb)
    (hs:∀ x,foldedSetIterable iter X.env x=pure x:=by intro _; rfl):PS X (.For tg iter body [] pos) (tFor wi g tb):=by
  intro pins s σ H D I h
  refine wpAny_For (thn (hi pins s σ H _ I h) fun v s1 h1=>thn h1 fun itv s2 h2=>?_) hs
  obtain ⟨it,fp,tn,J,H2,e,I2,T,st2,f2,W,⟨m0,w0⟩,turn⟩:=h2
  subst e
  have stat:∀ {H':Hp},(∀ b∈fp,H' b=none)→∀ b∈fp,FpOk X pins H' b:=fun hn b hb=>⟨hn b hb,(f2 b hb).2⟩
  refine codeAny_forLoop_any (fun n s'=>∃ i σ' H',Inv X pins σ' H' s'∧tn i s'.heap∧(∀ b∈fp,H' b=none)∧W i n σ' H') ?_ m0 ⟨0,σ,H2,I2,st2,fun b hb=>(f2 b hb).1,w0⟩
  rintro n s3 ⟨i,σ3,H3,I3,st3,fr3,w3⟩
  rcases turn i n σ3 H3 w3 with ⟨stop,qn⟩ | ⟨go,N,hN,step⟩
  · refine wpAny_passesOwn hp (thn (T.done X rfl rfl rfl hc i pins s3 σ3 H3 X.xe I3 (stat fr3) st3 stop) fun r s4 ⟨hr,I4⟩=>?_)
    subst hr
    exact wpAny_execs_nil ⟨σ3,H3,I4,qn⟩
  · refine wpAny_passesOwn hp (thn (T.item X rfl rfl rfl hc i pins s3 σ3 H3 X.xe I3 (stat fr3) st3 go) fun r s4 ⟨u,hr,h4⟩=>?_)
    subst hr
    refine wpAny_passesOwn hp (thn h4 fun _ s5 ⟨x,H5,I5,r5,y5,st5,fr5⟩=>?_)
    have I5':=I5.pinned (stat fr5) (T.obj _ _ st5)
    refine wpAny_passesOwn hp (thn (hg _ s5 σ3 H5 x u _ I5' r5 (step x H5 y5)) fun _ s6 ⟨σ6,H6,I6,q6⟩=>?_)
    refine wpAny_passesOwn hp (thn (hb _ s6 σ6 H6 _ I6 q6) fun f s7 q7=>?_)
    have again:∀ {σ7:St} {H7:Hp},Inv X (pins++pinsAt fp s5.heap) σ7 H7 s7→N σ7 H7→∃ m,m < n∧∃ i σ' H',Inv X pins σ' H' s7∧tn i s7.heap∧(∀ b∈fp,H' b=none)∧W i m σ' H':=fun {σ7 H7} I7 n7=>by
      obtain ⟨m',hm,w7⟩:=hN σ7 H7 n7
      refine ⟨m',hm,i + 1,σ7,H7,I7.unpinned,T.keep _ _ _ st5 fun b hb o e=>(I7.pin (b,o) (List.mem_append_right _ (List.mem_append_right _ (mem_pinsAt hb e)))).1,fun b hb=>?_,w7⟩
      obtain ⟨o,e,d⟩:=T.obj _ _ st5 b hb
      exact (I7.pin (b,o) (List.mem_append_right _ (List.mem_append_right _ (mem_pinsAt hb e)))).2.1
    cases f with
    | next=>obtain ⟨σ7,H7,I7,n7⟩:=q7; exact again I7 n7
    | cont=>obtain ⟨σ7,H7,I7,n7⟩:=q7; exact again I7 n7
    | brk=>obtain ⟨σ7,H7,I7,q7⟩:=q7; exact ⟨σ7,H7,I7.unpinned,q7⟩
    | ret v=>obtain ⟨x7,σ7,H7,I7,r7,q7⟩:=q7; exact ⟨x7,σ7,H7,I7.unpinned,r7,q7⟩
end
end L2
namespace L2
open PySem PySem.Spec PyProof.Rows
abbrev R2:=V→V→Hp→VK→Prop
def OpR (X:Cx) (f:Value→Value→Sem Value) (r:R2):Prop :=
  ∀ (pins:List (Addr × Obj)) (s:Shared) (σ:St) (H:Hp) (x y:V) (v u:Value) (Q:VK),Inv X pins σ H s→RelV x v→RelV y u→r x y H Q →
    wpAny (model X.prog X.w) X.A (f v u) (EP X pins σ Q) X.xe s
def UnR (X:Cx) (f:Value→Sem Value) (r:V→Hp→VK→Prop):Prop :=
  ∀ (pins:List (Addr × Obj)) (s:Shared) (σ:St) (H:Hp) (x:V) (v:Value) (Q:VK),Inv X pins σ H s→RelV x v→r x H Q →
    wpAny (model X.prog X.w) X.A (f v) (EP X pins σ Q) X.xe s
def CallR (X:Cx) (f:Value) (r:List V→Hp→VK→Prop):Prop :=
  ∀ (pins:List (Addr × Obj)) (s:Shared) (σ:St) (H:Hp) (xs:List V) (us:List Value) (Q:VK),Inv X pins σ H s→Vals xs us→r xs H Q →
    wpAny (model X.prog X.w) X.A (call f us) (EP X pins σ Q) X.xe s
def tOp (r:R2) (ta tb:TE):TE:=fun σ H Q=>ta σ H fun x H1=>tb σ H1 fun y H2=>r x y H2 Q
def tUn (r:V→Hp→VK→Prop) (ta:TE):TE:=fun σ H Q=>ta σ H fun x H1=>r x H1 Q
def rI (C:Int→Int→Prop) (g:Int→Int→V):R2:=fun x y H Q=>∃ i j,x=.int i∧y=.int j∧C i j∧Q (g i j) H
def rI0 (g:Int→Int→V):R2:=fun x y H Q=>∃ i j,x=.int i∧y=.int j∧Q (g i j) H
def rU (g:Int→V):V→Hp→VK→Prop:=fun x H Q=>∃ i,x=.int i∧Q (g i) H
section
variable {X:Cx} {a b c:Expr} {ta tb tc:TE} {pos:Pos}
theorem binT (ha:PE X a ta) (hb:PE X b tb) {pins:List (Addr × Obj)} {s:Shared} {σ:St} {H:Hp} {R:V→V→Hp→Prop} (I:Inv X pins σ H s)
    (h:ta σ H fun x H1=>tb σ H1 fun y H2=>R x y H2) {Q:Value→Shared→Prop} {f:Value→Value→Sem Value}
    (hf:∀ v u s2 x y H2,Inv X pins σ H2 s2→RelV x v→RelV y u→R x y H2→wpAny (model X.prog X.w) X.A (f v u) Q X.xe s2) :
    wpAny (model X.prog X.w) X.A (eval a X.env) (fun v s₁=>wpAny (model X.prog X.w) X.A (eval b X.env) (fun u s₂=>wpAny (model X.prog X.w) X.A (f v u) Q X.xe s₂) X.xe s₁) X.xe s:=by
  refine thn (ha pins s σ H _ I h) fun v s1 ⟨x,H1,I1,r1,q1⟩=>?_
  refine thn (hb pins s1 σ H1 _ I1 q1) fun u s2 ⟨y,H2,I2,r2,q2⟩=>?_
  exact hf v u s2 x y H2 I2 r1 r2 q2
theorem pe_op {op:Operator} {r:R2} (ho:OpR X (binaryOp op) r) (ha:PE X a ta) (hb:PE X b tb):PE X (.BinOp a op b pos) (tOp r ta tb):=by
  intro pins s σ H Q I h
  exact wpAny_BinOp (binT ha hb I h fun v u s2 x y H2 I2 rx ry q=>ho pins s2 σ H2 x y v u Q I2 rx ry q)
theorem pe_un {op:UnaryOp} {r:V→Hp→VK→Prop} (ho:UnR X (unaryOp op) r) (ha:PE X a ta):PE X (.UnaryOp op a pos) (tUn r ta):=by
  intro pins s σ H Q I h
  exact UnaryOp_ (thn (ha pins s σ H _ I h) fun v s1 ⟨x,H1,I1,r1,q1⟩=>ho pins s1 σ H1 x v Q I1 r1 q1)
theorem opI {f:Value→Value→Sem Value} {C:Int→Int→Prop} {g:Int→Int→Int}
    (rule:∀ (i j:Int) (t u:Tok) (s:Shared) (Q:Value→Shared→Prop) (E:Value→Shared→Prop),C i j→Q (.int (g i j) s.toks) { s with toks:=s.toks + 1 }→wpAny (model X.prog X.w) X.A (f (.int i t) (.int j u)) Q E s) :
    OpR X f (rI C fun i j=>.int (g i j)):=by
  intro pins s σ H x y v u Q I rx ry h
  obtain ⟨i,j,rfl,rfl,hc,q⟩:=h
  obtain ⟨t,rfl⟩:=rx
  obtain ⟨t',rfl⟩:=ry
  exact rule i j t t' s _ _ hc ⟨.int (g i j),H,I.tok _,⟨_,rfl⟩,q⟩
theorem opI0 {f:Value→Value→Sem Value} {g:Int→Int→Int}
    (rule:∀ (i j:Int) (t u:Tok) (s:Shared) (Q:Value→Shared→Prop) (E:Value→Shared→Prop),Q (.int (g i j) s.toks) { s with toks:=s.toks + 1 }→wpAny (model X.prog X.w) X.A (f (.int i t) (.int j u)) Q E s) :
    OpR X f (rI0 fun i j=>.int (g i j)):=by
  intro pins s σ H x y v u Q I rx ry h
  obtain ⟨i,j,rfl,rfl,q⟩:=h
  obtain ⟨t,rfl⟩:=rx
  obtain ⟨t',rfl⟩:=ry
  exact rule i j t t' s _ _ ⟨.int (g i j),H,I.tok _,⟨_,rfl⟩,q⟩
theorem opB0 {f:Value→Value→Sem Value} {g:Int→Int→Bool}
    (rule:∀ (i j:Int) (t u:Tok) (s:Shared) (Q:Value→Shared→Prop) (E:Value→Shared→Prop),Q (.bool (g i j)) s→wpAny (model X.prog X.w) X.A (f (.int i t) (.int j u)) Q E s) :
    OpR X f (rI0 fun i j=>.bl (g i j)):=by
  intro pins s σ H x y v u Q I rx ry h
  obtain ⟨i,j,rfl,rfl,q⟩:=h
  obtain ⟨t,rfl⟩:=rx
  obtain ⟨t',rfl⟩:=ry
  exact rule i j t t' s _ _ ⟨.bl (g i j),H,I,rfl,q⟩
def CDiv (i j:Int):Prop:=0 < j∧j < 1073741824
def CMul (i j:Int):Prop:=(-(2 ^ 64) < i∧i < 2 ^ 64)∨(-(2 ^ 64) < j∧j < 2 ^ 64)
theorem CMul.ok {i j:Int} (h:CMul i j):IntMulOk i j:=by
  rcases h with ⟨h1,h2⟩ | ⟨h1,h2⟩
  · exact .of_left (intBits_le_64 h1 h2)
  · exact .of_right (intBits_le_64 h1 h2)
theorem op_add:OpR X (binaryOp .Add) (rI0 fun i j=>.int (i + j)):=opI0 fun _ _ _ _ _ _ _ q=>add_int q
theorem op_sub:OpR X (binaryOp .Sub) (rI0 fun i j=>.int (i - j)):=opI0 fun _ _ _ _ _ _ _ q=>sub_int q
theorem op_mul:OpR X (binaryOp .Mult) (rI CMul fun i j=>.int (i * j)):=opI fun _ _ _ _ _ _ _ hc q=>mul_int q hc.ok
theorem op_fdiv:OpR X (binaryOp .FloorDiv) (rI CDiv fun i j=>.int (i / j)):=opI fun i j _ _ _ _ _ hc q=>by
  have h1:(0:Int) < j:=hc.1
  have h2:j < 1073741824:=hc.2
  exact floordiv_int (by omega) (by rw [Int.fdiv_eq_ediv_of_nonneg i (by omega)]; exact q) (.inl (PyProof.noPylong_small (by omega)))
theorem op_mod:OpR X (binaryOp .Mod) (rI (fun _ j=>0 < j) fun i j=>.int (i % j)):=opI fun i j _ _ _ _ _ hc q=>by
  have h1:(0:Int) < j:=hc
  exact mod_int' (by omega) (by rw [Int.fmod_eq_emod_of_nonneg i (by omega)]; exact q)
theorem unI {f:Value→Sem Value} {g:Int→Int}
    (rule:∀ (i:Int) (t:Tok) (s:Shared) (Q:Value→Shared→Prop) (E:Value→Shared→Prop),Q (.int (g i) s.toks) { s with toks:=s.toks + 1 }→wpAny (model X.prog X.w) X.A (f (.int i t)) Q E s) :
    UnR X f (rU fun i=>.int (g i)):=by
  intro pins s σ H x v Q I rx h
  obtain ⟨i,rfl,q⟩:=h
  obtain ⟨t,rfl⟩:=rx
  exact rule i t s _ _ ⟨.int (g i),H,I.tok _,⟨_,rfl⟩,q⟩
theorem un_neg:UnR X (unaryOp .USub) (rU fun i=>.int (-i)):=unI fun _ _ _ _ _ q=>neg_int q
end
def scal:V→V→Bool
  | .non,.non=>true | .non,.int _=>true | .int _,.non=>true | .non,.bl _=>true | .bl _,.non=>true | .non,.str _=>true | .str _,.non=>true
  | .int _,.int _=>true | .bl _,.bl _=>true | .str _,.str _=>true | .byt _,.byt _=>true
  | .int _,.str _=>true | .str _,.int _=>true | .bl _,.str _=>true | .str _,.bl _=>true
  | _,_=>false
def rEq:R2:=fun x y H Q=>scal x y=true∧Q (.bl (decide (x=y))) H
def rNe:R2:=fun x y H Q=>scal x y=true∧Q (.bl (!decide (x=y))) H
theorem dec_int {i j:Int}:decide (V.int i=V.int j)=(i==j):=by
  rw [Bool.eq_iff_iff]
  simp
theorem dec_bl {i j:Bool}:decide (V.bl i=V.bl j)=(i==j):=by
  rw [Bool.eq_iff_iff]
  simp
theorem dec_str {i j:Str}:decide (V.str i=V.str j)=(i==j):=by
  rw [Bool.eq_iff_iff]
  simp
theorem dec_byt {i j:Array UInt8}:decide (V.byt i=V.byt j)=(i.toList==j.toList):=by
  rw [Bool.eq_iff_iff]
  cases i
  cases j
  simp
section
variable {X:Cx} {a b c:Expr} {ta tb tc:TE} {pos:Pos}
theorem fin_bl {pins:List (Addr × Obj)} {σ:St} {H:Hp} {s:Shared} {Q:VK} {k k':Bool} (I:Inv X pins σ H s) (q:Q (.bl k) H) (e:k=k'):EP X pins σ Q (.bool k') s:=by
  subst e
  exact ⟨.bl k,H,I,rfl,q⟩
theorem op_eq:OpR X (compareOp .Eq) rEq:=by
  intro pins s σ H x y v u Q I rx ry h
  obtain ⟨hs,q⟩:=h
  cases x with
  | non =>
    cases rx
    cases y with
    | non=>cases ry; exact PySem.EqNone.eq_none_none (fin_bl I q (by simp))
    | bl j=>cases ry; exact PySem.EqNone.eq_none_bool (fin_bl I q (by simp))
    | int j=>obtain ⟨t',rfl⟩:=ry; exact PySem.EqNone.eq_none_int (fin_bl I q (by simp))
    | str j=>obtain ⟨t',rfl⟩:=ry; exact PySem.EqNone.eq_none_str (fin_bl I q (by simp))
    | _=>exact absurd (show false=true from hs) Bool.false_ne_true
  | bl i =>
    cases rx
    cases y with
    | non=>cases ry; exact PySem.EqNone.eq_bool_none (fin_bl I q (by simp))
    | bl j=>cases ry; exact eq_bool (fin_bl I q dec_bl)
    | str j=>obtain ⟨t',rfl⟩:=ry; exact PySem.EqMixed.eq_bool_str (fin_bl I q (by simp))
    | _=>exact absurd (show false=true from hs) Bool.false_ne_true
  | int i =>
    obtain ⟨t,rfl⟩:=rx
    cases y with
    | non=>cases ry; exact PySem.EqNone.eq_int_none (fin_bl I q (by simp))
    | int j=>obtain ⟨t',rfl⟩:=ry; exact eq_int (fin_bl I q dec_int)
    | str j=>obtain ⟨t',rfl⟩:=ry; exact PySem.EqMixed.eq_int_str (fin_bl I q (by simp))
    | _=>exact absurd (show false=true from hs) Bool.false_ne_true
  | str i =>
    obtain ⟨t,rfl⟩:=rx
    cases y with
    | non=>cases ry; exact PySem.EqNone.eq_str_none (fin_bl I q (by simp))
    | bl j=>cases ry; exact PySem.EqMixed.eq_str_bool (fin_bl I q (by simp))
    | int j=>obtain ⟨t',rfl⟩:=ry; exact PySem.EqMixed.eq_str_int (fin_bl I q (by simp))
    | str j=>obtain ⟨t',rfl⟩:=ry; exact eq_str (fin_bl I q dec_str)
    | _=>exact absurd (show false=true from hs) Bool.false_ne_true
  | byt i =>
    obtain ⟨t,rfl⟩:=rx
    cases y with
    | byt j=>obtain ⟨t',rfl⟩:=ry; exact PySem.W.eq_bytes (fin_bl I q dec_byt)
    | _=>exact absurd (show false=true from hs) Bool.false_ne_true
  | _=>cases y <;> exact absurd (show false=true from hs) Bool.false_ne_true
theorem op_ne:OpR X (compareOp .NotEq) rNe:=by
  intro pins s σ H x y v u Q I rx ry h
  obtain ⟨hs,q⟩:=h
  cases x with
  | non =>
    cases rx
    cases y with
    | non=>cases ry; exact PySem.EqNone.ne_none_none (fin_bl I q (by simp))
    | bl j=>cases ry; exact PySem.EqNone.ne_none_bool (fin_bl I q (by simp))
    | int j=>obtain ⟨t',rfl⟩:=ry; exact PySem.EqNone.ne_none_int (fin_bl I q (by simp))
    | str j=>obtain ⟨t',rfl⟩:=ry; exact PySem.EqNone.ne_none_str (fin_bl I q (by simp))
    | _=>exact absurd (show false=true from hs) Bool.false_ne_true
  | bl i =>
    cases rx
    cases y with
    | non=>cases ry; exact PySem.EqNone.ne_bool_none (fin_bl I q (by simp))
    | bl j=>cases ry; exact ne_bool (fin_bl I q (congrArg not dec_bl))
    | str j=>obtain ⟨t',rfl⟩:=ry; exact PySem.EqMixed.ne_bool_str (fin_bl I q (by simp))
    | _=>exact absurd (show false=true from hs) Bool.false_ne_true
  | int i =>
    obtain ⟨t,rfl⟩:=rx
    cases y with
    | non=>cases ry; exact PySem.EqNone.ne_int_none (fin_bl I q (by simp))
    | int j=>obtain ⟨t',rfl⟩:=ry; exact ne_int (fin_bl I q (congrArg not dec_int))
    | str j=>obtain ⟨t',rfl⟩:=ry; exact PySem.EqMixed.ne_int_str (fin_bl I q (by simp))
    | _=>exact absurd (show false=true from hs) Bool.false_ne_true
  | str i =>
    obtain ⟨t,rfl⟩:=rx
    cases y with
    | non=>cases ry; exact PySem.EqNone.ne_str_none (fin_bl I q (by simp))
    | bl j=>cases ry; exact PySem.EqMixed.ne_str_bool (fin_bl I q (by simp))
    | int j=>obtain ⟨t',rfl⟩:=ry; exact PySem.EqMixed.ne_str_int (fin_bl I q (by simp))
    | str j=>obtain ⟨t',rfl⟩:=ry; exact ne_str (fin_bl I q (congrArg not dec_str))
    | _=>exact absurd (show false=true from hs) Bool.false_ne_true
  | byt i =>
    obtain ⟨t,rfl⟩:=rx
    cases y with
    | byt j=>obtain ⟨t',rfl⟩:=ry; exact PySem.W.ne_bytes (fin_bl I q (congrArg not dec_byt))
    | _=>exact absurd (show false=true from hs) Bool.false_ne_true
  | _=>cases y <;> exact absurd (show false=true from hs) Bool.false_ne_true
theorem op_lt:OpR X (compareOp .Lt) (rI0 fun i j=>.bl (decide (i < j))):=opB0 fun _ _ _ _ _ _ _ q=>lt_int q
theorem op_gt:OpR X (compareOp .Gt) (rI0 fun i j=>.bl (decide (j < i))):=opB0 fun _ _ _ _ _ _ _ q=>gt_int q
theorem op_ge:OpR X (compareOp .GtE) (rI0 fun i j=>.bl (decide (j≤i))):=opB0 fun _ _ _ _ _ _ _ q=>ge_int q
theorem OpR.or {f:Value→Value→Sem Value} {r r':R2} (h:OpR X f r) (h':OpR X f r'):OpR X f (fun x y H Q=>r x y H Q∨r' x y H Q):=by
  intro pins s σ H x y v u Q I rx ry q
  rcases q with q | q
  · exact h pins s σ H x y v u Q I rx ry q
  · exact h' pins s σ H x y v u Q I rx ry q
theorem nomark (b:Expr) {op:CmpOp} (h:op ≠ .In:=by decide) (h2:op ≠ .NotIn:=by decide):behindInMarks op b=false:=by
  have e1:(op==CmpOp.In)=false:=by cases op <;> first | rfl | exact absurd rfl h
  have e2:(op==CmpOp.NotIn)=false:=by cases op <;> first | rfl | exact absurd rfl h2
  cases b <;> simp [behindInMarks,e1,e2]
theorem pe_cmpR {op:CmpOp} {r:R2} (ho:OpR X (compareOp op) r) (ha:PE X a ta) (hb:PE X b tb) (hm:behindInMarks op b=false):PE X (.Compare a [op] [b] pos) (tOp r ta tb):=by
  intro pins s σ H Q I h
  exact wpAny_Compare1 (binT ha hb I h fun v u s2 x y H2 I2 rx ry q=>ho pins s2 σ H2 x y v u Q I2 rx ry q) hm
def tTest (t:TE):TT:=fun σ H Q=>t σ H fun x H'=>∃ k,x=.bl k∧Q k H'
theorem pt_cmpR {op:CmpOp} {r:R2} (ho:OpR X (compareOp op) r) (ha:PE X a ta) (hb:PE X b tb) (hm:behindInMarks op b=false):PT X (.Compare a [op] [b] pos) (tTest (tOp r ta tb)):=by
  intro pins s σ H Q I h
  refine wpAny_isTrue_Compare1 (thn (ha pins s σ H _ I h) fun v s1 ⟨x,H1,I1,r1,q1⟩=>thn (hb pins s1 σ H1 _ I1 q1) fun u s2 ⟨y,H2,I2,r2,q2⟩ =>
    thn (ho pins s2 σ H2 x y v u _ I2 r1 r2 q2) fun c s3 ⟨z,H3,I3,r3,k,e,q3⟩=>?_) hm
  subst e
  cases r3
  exact wpAny_truthy_bool ⟨H3,I3,q3⟩
theorem line63:(sizeLine:Nat) < 2 ^ 63:=by rw [sizeLine_eq]; decide
theorem vals1 {x:V} {us:List Value} (r:Vals [x] us):∃ u,us=[u]∧RelV x u:=by
  cases r with
  | cons r1 r2=>cases r2; exact ⟨_,rfl,r1⟩
theorem vals2 {x y:V} {us:List Value} (r:Vals [x,y] us):∃ u w',us=[u,w']∧RelV x u∧RelV y w':=by
  cases r with
  | cons r1 r2 =>
    cases r2 with
    | cons r3 r4=>cases r4; exact ⟨_,_,rfl,r1,r3⟩
theorem call_min2 (hc:X.calm=true):CallR X (.builtin "min") (fun xs H Q=>∃ i j,xs=[.int i,.int j]∧Q (.int (if j < i then j else i)) H):=by
  intro pins s σ H xs us Q I r h
  obtain ⟨i,j,rfl,q⟩:=h
  obtain ⟨u,w',rfl,⟨t,rfl⟩,⟨t',rfl⟩⟩:=vals2 r
  refine min_two_ints (I.ok.hd hc) fun h' tk k=>⟨_,H,I.kept k,?_,q⟩
  by_cases hj:j < i
  · rw [if_pos hj,if_pos hj]; exact ⟨_,rfl⟩
  · rw [if_neg hj,if_neg hj]; exact ⟨_,rfl⟩
end
end L2
namespace L2
open PySem PySem.Spec PyProof.Rows
structure ObjM (h:Heap) (x dx C:Addr) (mA:Str→Option Value):Prop where
  obj:h.get? x=some (PySem.W.instObj C dx)
  ns:h.Ns1 dx mA
  ne:dx ≠ x
theorem lookIn_ns {h:Heap} {dx:Addr} {mA:Str→Option Value} (n:h.Ns1 dx mA):∃ od,h.get? dx=some od∧∀ name,PySem.W.lookIn name od=some (mA name):=by
  obtain ⟨o,es,ep,ho,hd,hk,_,hm⟩:=n
  refine ⟨o,ho,fun name=>?_⟩
  have e:=hm name
  unfold nsFind findBy at e
  rw [← Array.find?_toList] at e
  unfold PySem.W.lookIn
  rw [hd]
  dsimp only
  split
  · rename_i y q
    rw [q] at e
    exact congrArg some e
  · rename_i q
    rw [q] at e
    have a:es.toList.any (·.refKey)=false:=by
      rw [List.any_eq_false]
      intro y hy
      obtain ⟨z,t,hkey⟩:=hk y (Array.mem_toList_iff.mp hy)
      simp [DictEntry.refKey,hkey]
    have a':¬ es.toList.any (·.refKey)=true:=by rw [a]; exact Bool.false_ne_true
    rw [if_neg a']
    exact congrArg some e
theorem ObjM.look {h:Heap} {x dx C:Addr} {mA:Str→Option Value} (I:ObjM h x dx C mA):∃ od,PySem.W.InstAt h x (PySem.W.instObj C dx) C (some od)∧∀ name,PySem.W.lookIn name od=some (mA name) :=
  let ⟨od,ho,hl⟩:=lookIn_ns I.ns
  ⟨od,⟨I.obj,rfl,rfl,ho⟩,hl⟩
section
variable {prog:Program} {w:World} {A:Around} {E:Value→Shared→Prop} {s:Shared} {K:PySem.W.Frag} {x dx C f:Addr} {mA:Str→Option Value} {name:Str} {v:Value}
end
section
variable {P:Program} {w:World} {H H':Hp} {h h':Heap} {a C dx:Addr} {fs fs':List (Str × V)}
theorem ins_get (hok:HOk P w H h) (e:H a=some (.ins C dx fs)):∃ mA,ObjM h a dx C mA∧(∀ f,RelO (fs.lookup f) (mA f))∧PySem.Within mA (fs.map (·.1))∧fs.length≤1000∧H dx=some (.own a):=by
  obtain ⟨d,z,ne,ob,mA,n,r,q⟩:=(show ObjOk P w H h a (.ins C dx fs) from hok a _ e)
  exact ⟨mA,⟨ob,n,ne⟩,r,q,z,d⟩
end
structure Cls (K:PySem.W.Frag) (C:Addr):Prop where
  pg:PySem.W.plainGet K C Str.empty=true
  hd:PySem.W.hasDictIn K C=true
  po:PySem.W.plainOver K C=true
  sa:PySem.W.findIn K (.ref C) "__setattr__" = some (some (.builtin "object.__setattr__"))
theorem Cls.get {K:PySem.W.Frag} {C:Addr} (c:Cls K C) (f:Str):PySem.W.plainGet K C f=true:=c.pg
structure Con (K:PySem.W.Frag) (C:Addr) (f:Str) (v:V) (u:Value):Prop where
  at_:PySem.W.findIn K (.ref C) f=some (some u)
  rel:RelV v u
  get:PySem.W.specialIn K u "__get__" = some none
  cp:PySem.W.copiedNames.contains f=false
structure Meth (K:PySem.W.Frag) (C:Addr) (m:Str) (f:Addr):Prop where
  at_:PySem.W.findIn K (.ref C) m=some (some (.ref f))
  fn:PySem.W.isFn K (.ref f)=true
  kp:PySem.W.keepIn K (.ref f)=true
section
variable {X:Cx} {pins:List (Addr × Obj)} {σ:St} {H:Hp} {s:Shared} {a C dx:Addr} {fs:List (Str × V)} {f:Str} {v:V} {A:Around} {E:Value→Shared→Prop}
theorem Inv.made (I:Inv X pins σ H s):Inv X pins σ (upd (upd H s.heap.objs.size (.own (s.heap.objs.size + 1))) (s.heap.objs.size + 1) (.ins C s.heap.objs.size []))
    { s with heap:=(s.heap.push PySem.W.emptyDict).push (PySem.W.instObj C s.heap.objs.size) }:=by
  have e1:(s.heap.push PySem.W.emptyDict).get? s.heap.objs.size=some PySem.W.emptyDict:=Heap.get?_push_size s.heap rfl
  have e2:((s.heap.push PySem.W.emptyDict).push (PySem.W.instObj C s.heap.objs.size)).get? (s.heap.objs.size + 1)=some (PySem.W.instObj C s.heap.objs.size):=by
    have:=Heap.get?_push_size (s.heap.push PySem.W.emptyDict) (o:=PySem.W.instObj C s.heap.objs.size) rfl
    rwa [Heap.size_push] at this
  have e3:(s.heap.push PySem.W.emptyDict).Ns s.heap.objs.size (fun _=>none):=⟨PySem.W.emptyDict,#[],_,e1,rfl,(fun e he=>absurd he (by simp)),fun _=>rfl⟩
  have I1:=I.laid (a:=s.heap.objs.size) (o:=.own (s.heap.objs.size + 1)) (h':=s.heap.push PySem.W.emptyDict) (t':=s.toks) (fun b u q=>Heap.get?_push_of_some _ q) (Nat.le_refl _) ⟨_,e1⟩
  refine I1.laid (a:=s.heap.objs.size + 1) (o:=.ins C s.heap.objs.size []) (t':=s.toks) (fun b u q=>Heap.get?_push_of_some _ q) (Nat.le_of_eq (Heap.size_push _ _)) ?_
  have ne:s.heap.objs.size ≠ s.heap.objs.size + 1:=Nat.ne_of_lt (Nat.lt_succ_self _)
  refine ⟨by rw [upd_ne ne,upd_same],Nat.zero_le _,ne,e2,fun _=>none,(Heap.Ns1.of_empty e3).at fun o q=>Heap.get?_push_of_some _ q,fun _=>True.intro,fun y hy=>absurd rfl hy⟩
end
section
variable {X:Cx} {o e value:Expr} {f:Str} {pos pos' tpos:Pos} {ta tv:TE}
end
section
variable {X:Cx} {pins:List (Addr × Obj)} {σ:St} {H:Hp} {s:Shared} {A:Around} {E:Value→Shared→Prop} {Q:Value→Shared→Prop} {c:Value} {b:Bool}
inductive TyOf (K:PySem.W.Frag) (H:Hp):V→Value→Prop where
  | non:TyOf K H .non (.type "NoneType")
  | bl (x:Bool):TyOf K H (.bl x) (.type "bool")
  | int (i:Int):TyOf K H (.int i) (.type "int")
  | str (x:Str):TyOf K H (.str x) (.type "str")
  | flt (x:UInt64):TyOf K H (.flt x) (.type "float")
  | lst {a:Addr} {xs:List V} (e:H a=some (.lst xs)):TyOf K H (.ref a) (.type "list")
  | frz {a:Addr} {o:Obj} {xs:List V} (e:H a=some (.frz o (.lst xs))):TyOf K H (.ref a) (.type "list")
  | tup {a:Addr} {xs:List V} (e:H a=some (.tup xs)):TyOf K H (.ref a) (.type "tuple")
  | dK {a:Addr} {kvs:List (Key × V)} (e:H a=some (.dK kvs)):TyOf K H (.ref a) (.type "dict")
  | dT {a:Addr} {kvs:List (List Key × V)} (e:H a=some (.dT kvs)):TyOf K H (.ref a) (.type "dict")
  | ins {a C dx:Addr} {fs:List (Str × V)} (e:H a=some (.ins C dx fs)) (cl:Cls K C) (ha:PySem.W.findIn K (.ref C) "__class__" = some (some (.builtin "object.__class__")))
      (hn:PySem.W.specialIn K (.builtin "object.__class__") "__get__" = some (some (.builtin "getset_descriptor.__get__"))) (htk:PySem.W.takesIn K (.builtin "object.__class__")=some true)
      (hm:PySem.W.mroIn K C (.type "object")=some true):TyOf K H (.ref a) (.ref C)
theorem isinst_ok {x:V} {u t:Value} (I:Inv X pins σ H s) (rx:RelV x u) (ty:TyOf X.K H x t) (e:PySem.W.kitOne X.K t c=some b) (h:∀ tk,Q (.bool b) { s with toks:=tk }) :
    wpAny (model X.prog X.w) A (call (.builtin "isinstance") [u,c]) Q E s:=by
  cases ty with
  | non=>cases (show u=Value.none from rx); exact PySem.W.kia_one PySem.W.kitx_none I.kIn True.intro e (fun z=>nomatch z) h
  | bl y=>cases (show u=Value.bool y from rx); exact PySem.W.kia_one PySem.W.kitx_bool I.kIn True.intro e (fun z=>nomatch z) h
  | int i=>obtain ⟨t,q⟩:=(show ∃ t,u=Value.int i t from rx); cases q; exact PySem.W.kia_one PySem.W.kitx_int I.kIn True.intro e (fun z=>nomatch z) h
  | str y=>obtain ⟨t,q⟩:=(show ∃ t,u=Value.str y t from rx); cases q; exact PySem.W.kia_one PySem.W.kitx_str I.kIn True.intro e (fun z=>nomatch z) h
  | flt y=>obtain ⟨t,q⟩:=(show ∃ t,u=Value.float y t from rx); cases q; exact PySem.W.kia_one PySem.W.kitx_float I.kIn True.intro e (fun z=>nomatch z) h
  | @lst a xs ea =>
    cases (show u=Value.ref a from rx)
    obtain ⟨_,_,n,_,h1⟩:=(show ObjOk X.prog X.w H s.heap a (.lst xs) from I.hok a _ ea)
    exact PySem.W.kia_one PySem.W.kitx_list I.kIn ⟨_,h1,rfl⟩ e (fun z=>nomatch z) h
  | @frz a ob xs ea =>
    cases (show u=Value.ref a from rx)
    obtain ⟨_,_,_,n,_,h1⟩:=(show ObjOk X.prog X.w H s.heap a (.frz ob (.lst xs)) from I.hok a _ ea)
    exact PySem.W.kia_one PySem.W.kitx_list I.kIn ⟨_,h1,rfl⟩ e (fun z=>nomatch z) h
  | @tup a xs ea =>
    cases (show u=Value.ref a from rx)
    obtain ⟨_,_,_,p⟩:=(show ObjOk X.prog X.w H s.heap a (.tup xs) from I.hok a _ ea)
    obtain ⟨o,h1,h2,_⟩:=p
    exact PySem.W.kia_one PySem.W.kitx_tuple I.kIn ⟨o,h1,h2⟩ e (fun z=>nomatch z) h
  | @dK a kvs ea =>
    cases (show u=Value.ref a from rx)
    obtain ⟨_,_,vs,_,p⟩:=(show ObjOk X.prog X.w H s.heap a (.dK kvs) from I.hok a _ ea)
    obtain ⟨o,es,ep,h1,h2,_⟩:=p
    exact PySem.W.kia_one PySem.W.kitx_dict I.kIn ⟨o,h1,h2.1⟩ e (fun z=>nomatch z) h
  | @dT a kvs ea =>
    cases (show u=Value.ref a from rx)
    obtain ⟨_,_,xs,_,o,es,ep,h1,h2,_⟩:=(show ObjOk X.prog X.w H s.heap a (.dT kvs) from I.hok a _ ea)
    exact PySem.W.kia_one PySem.W.kitx_dict I.kIn ⟨o,h1,h2.1⟩ e (fun z=>nomatch z) h
  | @ins a C dx fs ea cl ha hn htk hm =>
    cases (show u=Value.ref a from rx)
    obtain ⟨mA,O,_⟩:=ins_get I.hok ea
    obtain ⟨od,J,_⟩:=O.look
    exact PySem.W.kia_one (PySem.W.kitx_own (cl.get _) cl.hd ha hn htk hm) I.kIn J e (fun z=>nomatch z) h
end
end L2
namespace L2
open PySem PySem.Spec PyProof.Rows
structure Room (k:Nat) (A:Around):Prop where
  hd:A.handled=none
  dp:A.depth + 3 * k + 5 < recursionLimit
  un:A.units + 16 * k + 200 < cLine
theorem Room.mono {j k:Nat} {A:Around} (r:Room k A) (h:j≤k):Room j A:=⟨r.hd,by have:=r.dp; omega,by have:=r.un; omega⟩
theorem Room.deeper {k:Nat} {A:Around} (r:Room (k + 1) A) (env:Env):Room k (A.deeper env) :=
  ⟨r.hd,by have:=r.dp; show A.depth + 1 + 3 * k + 5 < _; omega,by have:=r.un; show A.units + 3 + 16 * k + 200 < _; omega⟩
theorem Room.in1 {k:Nat} {A:Around} (r:Room (k + 1) A):Room k A.in1 :=
  ⟨r.hd,by have:=r.dp; show A.depth + 3 * k + 5 < _; omega,by have:=r.un; show A.units + 1 + 16 * k + 200 < _; omega⟩
theorem Room.depth {k:Nat} {A:Around} (r:Room k A):A.depth < recursionLimit:=by have:=r.dp; omega
theorem Room.units {k:Nat} {A:Around} (r:Room k A):A.units + 64 < cLine:=by have:=r.un; omega
def tNil:TA:=fun _ H Q=>Q [] H
def tCons (ta:TE) (tr:TA):TA:=fun σ H Q=>ta σ H fun x H1=>tr σ H1 fun xs H2=>Q (x::xs) H2
section
variable {X:Cx} {e:Expr} {es:List Expr} {te:TE} {t:TA} {pos:Pos}
theorem pa_nil:PA X [] tNil:=fun _ _ _ _ H Q I h=>Calls.spliced_nil ⟨[],H,I,.nil,h⟩
theorem pa_cons (ha:PE X e te) (hr:PA X es t) (hs:starEach (e::es) X.env=(false,eval e X.env)::starEach es X.env:=by rfl):PA X (e::es) (tCons te t):=by
  intro pos pins s σ H Q I h
  rw [hs]
  show wpAny _ _ (spliced ((false,eval e X.env)::backTo pos (starEach es X.env))) _ _ s
  refine Calls.spliced_cons (thn (ha pins s σ H _ I h) fun u s1 ⟨x,H1,I1,r1,q1⟩=>?_)
  exact thn (hr pos pins s1 σ H1 _ I1 q1) fun us s2 ⟨xs,H2,I2,r2,q2⟩=>⟨x::xs,H2,I2,.cons r1 r2,q2⟩
def tTup (t:TA):TE:=fun σ H Q=>t σ H fun xs H1=>xs.length≤sizeLine∧∀ p,H1 p=none→Q (.ref p) (upd H1 p (.tup xs))
def tLst (t:TA):TE:=fun σ H Q=>t σ H fun xs H1=>xs.length≤sizeLine∧∀ p,H1 p=none→Q (.ref p) (upd H1 p (.lst xs))
theorem pe_tup {x1} (h:PA X es t):PE X (.Tuple es x1 pos) (tTup t):=by
  intro pins s σ H Q I hq
  refine wpAny_Tuple_spliced (thn (h pos pins s σ H _ I hq) fun us s1 ⟨xs,H1,I1,r,z,q⟩=>⟨by rw [← r.length]; exact z,?_⟩)
  have hf:H1 s1.heap.objs.size=none:=I1.hok.fresh (Nat.le_refl _)
  refine ⟨.ref s1.heap.objs.size,upd H1 s1.heap.objs.size (.tup xs),I1.laid (t':=s1.toks) (fun b u e=>Heap.get?_push_of_some _ e) (Nat.le_refl _) ?_,rfl,q _ hf⟩
  exact ⟨z,us,r,⟨_,Heap.get?_push_size _ rfl,rfl,_,rfl⟩⟩
theorem pe_lst (h:PA X es t):PE X (.List es pos) (tLst t):=by
  intro pins s σ H Q I hq
  refine wpAny_List_spliced (thn (h pos pins s σ H _ I hq) fun us s1 ⟨xs,H1,I1,r,z,q⟩=>⟨by rw [← r.length]; exact z,?_⟩)
  have hf:H1 s1.heap.objs.size=none:=I1.hok.fresh (Nat.le_refl _)
  refine ⟨.ref s1.heap.objs.size,upd H1 s1.heap.objs.size (.lst xs),I1.laid (t':=s1.toks) (fun b u e=>Heap.get?_push_of_some _ e) (Nat.le_refl _) ?_,rfl,q _ hf⟩
  exact ⟨z,us,0,r,Heap.get?_push_size _ rfl⟩
end
abbrev Sp:=List V→Hp→VK→XK→Prop
abbrev CXT:=List Env→Hp→Shared→XK→Value→Shared→Prop
structure Env0 (P:Program) (w:World) (K:PySem.W.Frag) (mg:Str→Option Value) (base:Heap) (A:Around) (outer:List Env) (s:Shared) (H:Hp):Prop where
  frames:A.frames=some outer
  mod:Mod K mg base
  bs:∀ b o,base.get? b=some o→s.heap.get? b=some o∧H b=none
  bsz:base.objs.size≤s.heap.objs.size
  funs:s.heap.FunFrames base outer
  frf:∀ b∈frs outer,H b=none
  hok:HOk P w H s.heap
  bare:AllBare s.gens
def CE (outer:List Env) (P:Program) (w:World) (H:Hp) (s:Shared) (Q:VK) (u:Value) (s':Shared):Prop :=
  ∃ v H',s'.os=s.os∧AllBare s'.gens∧Un (frs outer) [] H H' s.heap s'.heap∧HOk P w H' s'.heap∧RelV v u∧Q v H'
def CR (CX:CXT) (outer:List Env) (P:Program) (w:World) (H:Hp) (s:Shared) (Q:VK) (E:XK) (r:Result) (s':Shared):Prop :=
  match r with
  | .ok (.ret u)=>CE outer P w H s Q u s'
  | .ok _=>False
  | .error e=>CX outer H s E e s'
structure FnOk (P:Program) (w:World) (K:PySem.W.Frag) (mg:Str→Option Value) (base:Heap) (CX:CXT) (k:Nat) (f:Addr) (fd:FuncData) (ps:List Str) (sp:Sp):Prop where
  len:∀ vs H Q E,sp vs H Q E→vs.length=ps.length
  run:∀ (A:Around) (outer:List Env) (s:Shared) (H:Hp) (args:Args) (us:List Value) (vs:List V) (Q:VK) (E:XK),Room k A→Env0 P w K mg base A outer s H→BindsTo s fd args (ps.zip us)→Vals vs us→sp vs H Q E →
    codeAny (model P w) A (.call (.ref f) args) (CR CX outer P w H s Q E) s
theorem FnOk.mono {P:Program} {w:World} {K:PySem.W.Frag} {mg:Str→Option Value} {base:Heap} {CX:CXT} {j k:Nat} {f:Addr} {fd:FuncData} {ps:List Str} {sp:Sp} (F:FnOk P w K mg base CX j f fd ps sp) (h:j≤k) :
    FnOk P w K mg base CX k f fd ps sp:=⟨F.len,fun A outer s H args us vs Q E hr=>F.run A outer s H args us vs Q E (hr.mono h)⟩
theorem FnOk.imp {P:Program} {w:World} {K:PySem.W.Frag} {mg:Str→Option Value} {base:Heap} {CX:CXT} {k:Nat} {f:Addr} {fd:FuncData} {ps:List Str} {sp sp':Sp} (F:FnOk P w K mg base CX k f fd ps sp)
    (h:∀ vs H Q E,sp' vs H Q E→sp vs H Q E):FnOk P w K mg base CX k f fd ps sp' :=
  ⟨fun vs H Q E q=>F.len vs H Q E (h _ _ _ _ q),fun A outer s H args us vs Q E hr he hb hv hs=>F.run A outer s H args us vs Q E hr he hb hv (h _ _ _ _ hs)⟩
theorem Env0.in1 {P:Program} {w:World} {K:PySem.W.Frag} {mg:Str→Option Value} {base:Heap} {A:Around} {outer:List Env} {s:Shared} {H:Hp} (e:Env0 P w K mg base A outer s H) :
    Env0 P w K mg base A.in1 outer s H:=⟨e.frames,e.mod,e.bs,e.bsz,e.funs,e.frf,e.hok,e.bare⟩
section
variable {X:Cx} {pins:List (Addr × Obj)} {σ:St} {H:Hp} {s s':Shared}
theorem Inv.env0 (I:Inv X pins σ H s):Env0 X.prog X.w X.K X.mg X.base X.A X.stack s H :=
  ⟨I.ok.frames,I.ok.mod,I.bs,Nat.le_trans I.ok.bsz I.sz,I.stack,I.stkFree,I.hok,I.bare⟩
theorem Inv.after {Q:VK} {u:Value} (I:Inv X pins σ H s) (h:CE X.stack X.prog X.w H s Q u s'):EP X pins σ Q u s':=by
  obtain ⟨v,H',os,bare,un,hok,r,q⟩:=h
  obtain ⟨hh,g,d,t,os'⟩:=s'
  obtain rfl:os'=s.os:=os
  exact ⟨v,H',I.call (h':=hh) (g':=g) (d':=d) (t':=t) (ch:=[]) un hok bare (fun b z=>absurd z (by simp)),r,q⟩
end
def tCall (sp:Sp) (dvs:List V) (E:XK) (t:TA):TE:=fun σ H Q=>t σ H fun vs H1=>sp (vs++dvs) H1 Q E
def Binds (K:PySem.W.Frag) (fd:FuncData) (ps:List Str) (ds:List Value):Prop :=
  ∀ (s:Shared) (us:List Value),K.In s.heap→(us++ds).length=ps.length→BindsTo s fd ⟨us,[]⟩ (ps.zip (us++ds))
theorem Binds.all {K:PySem.W.Frag} {fd:FuncData} {ps:List Str} (h:∀ us:List Value,us.length=ps.length→bindArgs fd ⟨us,[]⟩=pure (ps.zip us)):Binds K fd ps []:=fun s us _ hl=>by
  rw [List.append_nil] at hl ⊢
  exact .of_eq (h us hl)
def Passes (CX:CXT) (X:Cx) (E:XK):Prop:=∀ (pins:List (Addr × Obj)) (σ:St) (H:Hp) (s:Shared) (e:Value) (s':Shared),Inv X pins σ H s→CX X.stack H s E e s'→X.xe e s'
section
variable {X:Cx} {CX:CXT} {k:Nat} {f C:Addr} {fd:FuncData} {ps:List Str} {sp:Sp} {dvs:List V} {ds:List Value} {E:XK} {x m:Str} {p pos apos:Pos} {e o:Expr} {es:List Expr} {ta:TE} {t:TA}
theorem run_fn {pins:List (Addr × Obj)} {σ:St} {H:Hp} {s:Shared} {Q:VK} {us:List Value} {vs:List V} (F:FnOk X.prog X.w X.K X.mg X.base CX k f fd ps sp) (hr:Room k X.A) (hb:Binds X.K fd ps ds) (hd:Vals dvs ds) (hx:Passes CX X E)
    (I:Inv X pins σ H s) (r:Vals vs us) (h:sp (vs++dvs) H Q E):wpAny (model X.prog X.w) X.A (call (.ref f) us) (EP X pins σ Q) X.xe s:=by
  have r2:Vals (vs++dvs) (us++ds):=r.append hd
  have hl:(us++ds).length=ps.length:=by rw [← r2.length]; exact F.len _ _ _ _ h
  refine wpAny_call (codeAny_mono (F.run X.A X.stack s H ⟨us,[]⟩ (us++ds) (vs++dvs) Q E hr I.env0 (hb s us I.kIn hl) r2 h) fun r s' hq=>?_)
  cases r with
  | error e=>exact hx pins σ H s e s' I hq
  | ok fl =>
    cases fl with
    | ret u=>exact I.after hq
    | next=>exact False.elim hq
    | brk=>exact False.elim hq
    | cont=>exact False.elim hq
theorem pe_call (F:FnOk X.prog X.w X.K X.mg X.base CX k f fd ps sp) (hr:Room k X.A) (hg:Gl X x) (hm:X.mg x=some (.ref f)) (hk:PySem.W.keepIn X.K (.ref f)=true) (hb:Binds X.K fd ps ds) (hd:Vals dvs ds) (hx:Passes CX X E)
    (ha:PA X (e::es) t) (hdb:(x==("__debug__" : Str))=false:=by decide) (he:starEach (e::es) X.env=(false,eval e X.env)::starEach es X.env:=by rfl) (hpl:(backTo pos (starEach es X.env)).any (·.1)=false:=by rfl) :
    PE X (.Call (.Name x p) (e::es) [] pos) (tCall sp dvs E t):=by
  intro pins s σ H Q I h
  refine wpAny_Call_Name_kw (ld_glob I hg hm ?_ hdb)
  refine PySem.W.callWith_K (h₀:=X.base) I.ok.mod.kin hk (thn (ha pos pins s σ H _ I h) fun us s1 ⟨vs,H1,I1,r,q⟩=>⟨I1.kIn,?_⟩) he hpl
  exact run_fn F hr hb hd hx I1 r q
structure Mk (K:PySem.W.Frag) (C f:Addr):Prop where
  makes:PySem.W.makesIn K C=true
  init:PySem.W.findIn K (.ref C) "__init__" = some (some (.ref f))
  fn:PySem.W.isFn K (.ref f)=true
  kp:PySem.W.keepIn K (.ref C)=true
end
def PK (X:Cx) (kws:List Keyword) (t:TA):Prop :=
  ∀ (pos:Pos) (pins:List (Addr × Obj)) (s:Shared) (σ:St) (H:Hp) (Q:List V→Hp→Prop),Inv X pins σ H s→t σ H Q→wpAny (model X.prog X.w) X.A (evalAll ((backToKw pos (keywordEach kws X.env)).map (·.2))) (AP X pins σ Q) X.xe s
section
variable {X:Cx} {CX:CXT} {k:Nat} {f C:Addr} {fd:FuncData} {ps ks:List Str} {sp:Sp} {E:XK} {x m:Str} {p pos apos kpos:Pos} {e o:Expr} {es:List Expr} {kws:List Keyword} {te ta:TE} {t tk:TA} {nm:Option Str}
theorem pk_nil:PK X [] tNil:=fun _ _ _ _ H Q I h=>wpAny_evalAll_nil ⟨[],H,I,.nil,h⟩
theorem pk_cons (ha:PE X e te) (hr:PK X kws t):PK X (⟨nm,e,kpos⟩::kws) (tCons te t):=by
  intro pos pins s σ H Q I h
  show wpAny _ _ (evalAll ((do let v ← eval e X.env; standAt pos; pure v)::(backToKw pos (keywordEach kws X.env)).map (·.2))) _ _ s
  refine wpAny_evalAll_cons (wpAny_bind (thn (ha pins s σ H _ I h) fun u s1 ⟨x,H1,I1,r1,q1⟩=>wpAny_bind (wpAny_standAt (wpAny_pure ?_))))
  exact thn (hr pos pins s1 σ H1 _ I1 q1) fun us s2 ⟨xs,H2,I2,r2,q2⟩=>⟨x::xs,H2,I2,.cons r1 r2,q2⟩
structure KBinds (K:PySem.W.Frag) (fd:FuncData) (ps ks:List Str) (g:List Value→List Value→List Value) (gV:List V→List V→List V):Prop where
  to:∀ (s:Shared) (us ws:List Value),K.In s.heap→(g us ws).length=ps.length→BindsTo s fd ⟨us,ks.zip ws⟩ (ps.zip (g us ws))
  rel:∀ {vs:List V} {us:List Value} {zs:List V} {ws:List Value},Vals vs us→Vals zs ws→Vals (gV vs zs) (g us ws)
variable {g:List Value→List Value→List Value} {gV:List V→List V→List V}
end
structure FnScope (N P:List Str) (sc:Scope):Prop where
  kind:sc.kind=.function
  co:sc.isCoroutine=false
  gen:sc.isGenerator=false
  nd:N.Nodup
  pre:N.take P.length=P
  par:∀ x∈P,sc.names.lookup x=some .local∨sc.names.lookup x=some .cell
  nofree:∀ y∈sc.names,y.2 ≠ .free
theorem bindL_out {kindOf:Str→Option NameKind} {x:Str}:∀ {binds:List (Str × Value)} {m:Str→Option Value},(∀ v,(x,v) ∉ binds)→bindL kindOf binds m x=m x
  | [],_,_=>rfl
  | (n,v)::r,m,h=>by
    unfold bindL
    rw [bindL_out fun w hw=>h w (List.mem_cons_of_mem _ hw)]
    split
    · have:x ≠ n:=by rintro rfl; exact h v List.mem_cons_self
      simp [this]
    · rfl
theorem bindC_out {kindOf:Str→Option NameKind} {x:Str}:∀ {binds:List (Str × Value)} {m:Str→Option Value},(∀ v,(x,v) ∉ binds)→bindC kindOf binds m x=m x
  | [],_,_=>rfl
  | (n,v)::r,m,h=>by
    unfold bindC
    rw [bindC_out fun w hw=>h w (List.mem_cons_of_mem _ hw)]
    split
    · rfl
    · have:x ≠ n:=by rintro rfl; exact h v List.mem_cons_self
      simp [this]
theorem bindL_get {kindOf:Str→Option NameKind} {x:Str} {v:Value}:∀ {P:List Str} {vs:List Value} {i:Nat} {m:Str→Option Value},P.Nodup→P[i]?=some x→vs[i]?=some v→kindOf x=some .local →
    bindL kindOf (P.zip vs) m x=some v
  | [],_,_,_,_,h,_,_=>by simp at h
  | _::_,[],_,_,_,_,h,_=>by simp at h
  | p::P,w::vs,0,m,nd,h1,h2,hk=>by
    simp at h1 h2; subst h1; subst h2
    show bindL kindOf ((p,w)::P.zip vs) m p=_
    unfold bindL
    rw [bindL_out fun v hv=>(List.nodup_cons.mp nd).1 (List.of_mem_zip hv).1,if_pos hk]
    simp
  | p::P,w::vs,i + 1,m,nd,h1,h2,hk=>by
    show bindL kindOf ((p,w)::P.zip vs) m x=_
    unfold bindL
    exact bindL_get (i:=i) (List.nodup_cons.mp nd).2 (by simpa using h1) (by simpa using h2) hk
theorem bindC_get {kindOf:Str→Option NameKind} {x:Str} {v:Value}:∀ {P:List Str} {vs:List Value} {i:Nat} {m:Str→Option Value},P.Nodup→P[i]?=some x→vs[i]?=some v→kindOf x ≠ some .local →
    bindC kindOf (P.zip vs) m x=some v
  | [],_,_,_,_,h,_,_=>by simp at h
  | _::_,[],_,_,_,_,h,_=>by simp at h
  | p::P,w::vs,0,m,nd,h1,h2,hk=>by
    simp at h1 h2; subst h1; subst h2
    show bindC kindOf ((p,w)::P.zip vs) m p=_
    unfold bindC
    rw [bindC_out fun v hv=>(List.nodup_cons.mp nd).1 (List.of_mem_zip hv).1,if_neg hk]
    simp
  | p::P,w::vs,i + 1,m,nd,h1,h2,hk=>by
    show bindC kindOf ((p,w)::P.zip vs) m x=_
    unfold bindC
    exact bindC_get (i:=i) (List.nodup_cons.mp nd).2 (by simpa using h1) (by simpa using h2) hk
def start (N:List Str) (vs:List V):St:=vs.map some++List.replicate (N.length - vs.length) none
def cxOf (CX:CXT) (P:Program) (w:World) (K:PySem.W.Frag) (mg:Str→Option Value) (base:Heap) (N:List Str) (qual:Str) (scope:Scope) (f:Addr) (cd:Value) (A:Around) (outer:List Env) (s:Shared) (H:Hp) (E:XK):Cx where
  prog:=P
  w:=w
  K:=K
  mg:=mg
  base:=base
  A:=A.deeper (envOfC qual scope s.heap.objs.size f cd)
  N:=N
  s₀:=s
  H₀:=H
  env:=envOfC qual scope s.heap.objs.size f cd
  outer:=outer
  stack:=envOfC qual scope s.heap.objs.size f cd::outer
  ex:=[]
  calm:=true
  fn:=fun _=>true
  pn:=[]
  xe:=fun e s'=>wpAny (model P w) (A.deeper (envOfC qual scope s.heap.objs.size f cd)) (leaving (envOfC qual scope s.heap.objs.size f cd) e) (fun _ s''=>CX outer H s E e s'') (fun e' s''=>CX outer H s E e' s'') s'
theorem cell_has {sc:Scope} {n:Nat} {x:Str} (h:sc.names.lookup x=some .cell):∃ c,(cellsFrom n sc.names []).lookup x=some c:=by
  have q:=PySem.W.cellsFrom_some sc.names n [] (.inl h)
  exact Option.isSome_iff_exists.mp q
theorem inv_start {CX:CXT} {P:Program} {w:World} {K:PySem.W.Frag} {mg:Str→Option Value} {base:Heap} {N ps:List Str} {qual:Str} {scope:Scope} {f:Addr} {cd:Value} {A:Around} {outer:List Env} {s s1:Shared} {H:Hp} {E:XK} {us:List Value} {vs:List V}
    (S:FnScope N ps scope) (hd:A.handled=none) (e0:Env0 P w K mg base A outer s H) (hl:vs.length=ps.length) (r:Vals vs us)
    (x:InCallC s s.heap.objs.size (bindL (envOfC qual scope s.heap.objs.size f cd).kindOf (ps.zip us) fun _=>none) (cellsFrom (s.heap.objs.size + 1) scope.names []) (bindC (envOfC qual scope s.heap.objs.size f cd).kindOf (ps.zip us) fun _=>none) s1) :
    Inv (cxOf CX P w K mg base N qual scope f cd A outer s H E) [] (start N vs) H s1:=by
  have hpl:ps.length≤N.length:=by have:=congrArg List.length S.pre; rw [List.length_take] at this; omega
  obtain ⟨h1,tk,rfl,hk⟩:=x.done
  have noA:∀ b:Addr,b ∉ (cxOf CX P w K mg base N qual scope f cd A outer s H E).ex:=fun b z=>absurd (show b∈([]:List Addr) from z) (by simp)
  refine ⟨⟨e0.mod,S.kind,rfl,rfl,Nat.le_refl _,fun y z c h1 h2=>?_,fun y hy=>?_,fun y c _ h=>?_,fun _=>hd,Around.frames_deeper e0.frames,.inr ⟨rfl,rfl⟩,fun b z=>absurd z (noA b),e0.bs,e0.bsz,fun b _ _=>noA b,fun b z=>absurd z (noA b),e0.funs,e0.frf⟩,
    rfl,e0.bare,Un.kept hk,⟨_,x.toInCall.ns,fun i y v h1 h2 h3=>?_⟩,fun y c h=>⟨_,x.cell y c h⟩,e0.hok.fresh (Nat.le_refl _),fun y c h=>?_,fun p hp=>absurd (show p∈([]:List (Addr × Obj)) from hp) (by simp),e0.hok.kept hk,?_⟩
  · exact name_of_addr x.apart (PySem.mem_of_lookup h1) (PySem.mem_of_lookup h2)
  · have hy:scope.names.lookup y=some .cell∨scope.names.lookup y=some .free:=hy
    rcases hy with hy | hy
    · exact cell_has hy
    · exact absurd rfl (S.nofree _ (PySem.mem_of_lookup hy))
  · exact Nat.le_of_lt (x.above y c (PySem.mem_of_lookup h))
  · have hi:i < vs.length:=by
      unfold start at h2
      by_cases hi:i < vs.length
      · exact hi
      · rw [List.getElem?_append_right (by simpa using hi)] at h2
        rw [List.getElem?_replicate] at h2
        split at h2 <;> cases h2
    have ha:vs[i]?=some v:=by
      unfold start at h2
      rw [List.getElem?_append_left (by simpa using hi),List.getElem?_map] at h2
      cases e:vs[i]? with
      | none=>rw [e] at h2; cases h2
      | some a=>rw [e] at h2; cases h2; rfl
    obtain ⟨u,hu,rv⟩:=r.get ha
    have hp:ps[i]?=some y:=by
      rw [← S.pre,List.getElem?_take_of_lt (by omega)]; exact h1
    have ndP:ps.Nodup:=by rw [← S.pre]; exact S.nd.sublist (List.take_sublist _ _)
    refine ⟨u,rv,?_⟩
    rcases S.par y (List.mem_of_getElem? hp) with k | k
    · exact .inl ⟨k,bindL_get ndP hp hu k⟩
    · obtain ⟨c,e⟩:=cell_has (n:=s.heap.objs.size + 1) k
      refine .inr ⟨.inl k,c,e,?_⟩
      have q:=x.cell y c e
      rw [bindC_get ndP hp hu (by show scope.names.lookup y ≠ _; rw [k]; decide)] at q
      exact q
  · exact e0.hok.fresh (Nat.le_of_lt (x.above y c (PySem.mem_of_lookup h)))
  · unfold start
    show _=N.length
    rw [List.length_append,List.length_map,List.length_replicate]
    omega
theorem fn_of {CX:CXT} {P:Program} {w:World} {K:PySem.W.Frag} {mg:Str→Option Value} {base:Heap} {k:Nat} {f:Addr} {name qual:Str} {params:Arguments} {body:List Stmt} {scope:Scope} {dV kV doc pm cdv ct oc:Value} {an od:Option Addr}
    {osl:Array (Option Value)} {N ps:List Str} {sp:Sp} (lk:K.lookup f=some ⟨oc,od,.func (PySem.W.fnOf name qual params body scope dV kV doc pm an cdv ct),osl⟩) (hcd:PySem.W.codeIn K cdv qual=true) (S:FnScope N ps scope)
    (len:∀ vs H Q E,sp vs H Q E→vs.length=ps.length)
    (hbody:∀ (A:Around) (outer:List Env) (s:Shared) (H:Hp) (vs:List V) (Q:VK) (E:XK),Room k (A.deeper (envOfC qual scope s.heap.objs.size f cdv))→sp vs H Q E →
      ∃ t,PSs (cxOf CX P w K mg base N qual scope f cdv A outer s H E) body t∧t { nx:=fun _ H'=>Q .non H',rt:=Q } (start N vs) H) :
    FnOk P w K mg base CX (k + 1) f (PySem.W.fnOf name qual params body scope dV kV doc pm an cdv ct) ps sp:=by
  refine ⟨len,fun A outer s H args us vs Q E hr e0 hb r hsp=>?_⟩
  have hl:=len _ _ _ _ hsp
  have KX:K.In s.heap:=e0.mod.kin.keeps fun b o e=>(e0.bs b o e).1
  have lim:s.heap.NoLimit:=e0.mod.nolimit.keeps fun b o e=>(e0.bs b o e).1
  have hkind:∀ y∈ps.zip us,scope.names.lookup y.1=some .local∨(scope.names.lookup y.1=some .cell∧((cellsFrom (s.heap.objs.size + 1) scope.names []).lookup y.1).isSome=true):=fun ⟨n,v⟩ hy=>by
    rcases S.par n (List.of_mem_zip hy).1 with q | q
    · exact .inl q
    · exact .inr ⟨q,PySem.W.cellsFrom_some _ _ _ (.inl q)⟩
  refine codeAny_call_function hr.depth (KX _ _ lk) rfl S.co S.gen rfl (PySem.W.codeRec_of KX hcd) (hb _ _ _ _ ?_)
  refine wpAny_newFunctionEnv_cells S.kind hkind fun env he s1 x=>?_
  subst he
  refine ⟨lim.keeps x.toInCall.keep,codeAny_func ?_⟩
  obtain ⟨t,ht,hq⟩:=hbody A outer s H vs Q E (hr.deeper _) hsp
  have I:Inv (cxOf CX P w K mg base N qual scope f cdv A outer s H E) [] (start N vs) H s1:=inv_start S hr.hd e0 hl r x
  refine wpAny_mono (ht [] s1 (start N vs) H _ I hq) (fun fl s' hs=>?_) fun e s' hs=>hs
  have fin:∀ {σ':St} {H':Hp} {v:V} {u:Value},Inv (cxOf CX P w K mg base N qual scope f cdv A outer s H E) [] σ' H' s'→RelV v u→Q v H'→CE outer P w H s Q u s' :=
    fun {σ' H' v u} J rv q=>⟨v,H',J.os,J.bare,J.base,J.hok,rv,q⟩
  cases fl with
  | ret u =>
    obtain ⟨v,σ',H',J,rv,q⟩:=hs
    exact fin J rv q
  | next =>
    obtain ⟨σ',H',J,q⟩:=hs
    exact fin (v:=V.non) (u:=Value.none) J rfl q
  | brk =>
    obtain ⟨_,_,_,q⟩:=hs
    exact False.elim q
  | cont =>
    obtain ⟨_,_,_,q⟩:=hs
    exact False.elim q
end L2
namespace L2
open PySem PySem.Spec PyProof.Rows
section
variable {X:Cx} {x:Str} {p pos:Pos} {e:Expr} {es:List Expr} {t:TA} {id T:String} {r:List V→Hp→VK→Prop}
def tCB (r:List V→Hp→VK→Prop) (t:TA):TE:=fun σ H Q=>t σ H fun vs H1=>r vs H1 Q
theorem pe_callB (hc:CallR X (.builtin id) r) (hg:Gl X x) (hm:X.mg x=none) (hv:bootBuiltins x=some (.builtin id)) (ha:PA X (e::es) t) (hn:x ≠ "__name__":=by decide) (hdb:(x==("__debug__" : Str))=false:=by decide)
    (he:starEach (e::es) X.env=(false,eval e X.env)::starEach es X.env:=by rfl) (hpl:(backTo pos (starEach es X.env)).any (·.1)=false:=by rfl):PE X (.Call (.Name x p) (e::es) [] pos) (tCB r t):=by
  intro pins s σ H Q I h
  refine wpAny_Call_Name_kw (ld_blt I hg hm hv ?_ hn hdb)
  exact PyProof.Rows.callWith_builtin1 (thn (ha pos pins s σ H _ I h) fun us s1 ⟨vs,H1,I1,r1,q1⟩=>hc pins s1 σ H1 vs us Q I1 r1 q1) he hpl
theorem pe_callTy (hc:CallR X (.type T) r) (hg:Gl X x) (hm:X.mg x=none) (hv:bootBuiltins x=some (.type T)) (ha:PA X (e::es) t) (hn:x ≠ "__name__":=by decide) (hdb:(x==("__debug__" : Str))=false:=by decide)
    (he:starEach (e::es) X.env=(false,eval e X.env)::starEach es X.env:=by rfl) (hpl:(backTo pos (starEach es X.env)).any (·.1)=false:=by rfl):PE X (.Call (.Name x p) (e::es) [] pos) (tCB r t):=by
  intro pins s σ H Q I h
  refine wpAny_Call_Name_kw (ld_blt I hg hm hv ?_ hn hdb)
  exact PyProof.Rows.callWith_type1 (thn (ha pos pins s σ H _ I h) fun us s1 ⟨vs,H1,I1,r1,q1⟩=>hc pins s1 σ H1 vs us Q I1 r1 q1) he hpl
end
end L2
namespace HT
open PySem PyProof.Rows
section
open PySem.SeqAt
open PySem.AutoSeq1 (wpAny_loadPart')
open PySem.MeetsSeq PySem.MeetsSeq2 PySem.MeetsSeq3
end
section
variable {prog:Program} {w:World} {A:Around} {E:Value→Shared→Prop} {s:Shared}
def sIx (n d:Nat):Option Int→Nat
  | none=>d
  | some v=>if v < 0 then (v + (n:Int)).toNat else min v.toNat n
theorem sIx_none (n d:Nat):sIx n d none=d:=rfl
theorem sIx_nat (n d k:Nat):sIx n d (some (k:Int))=min k n:=by
  show (if (k:Int) < 0 then ((k:Int) + (n:Int)).toNat else min (k:Int).toNat n)=min k n
  rw [if_neg (by omega),Int.toNat_natCast]
end
end HT
namespace L2
open PySem PySem.Spec PyProof.Rows
abbrev TO:=St→Hp→(Option Int→Hp→Prop)→Prop
def PO (X:Cx) (e:Option Expr) (t:TO):Prop :=
  ∀ (pins:List (Addr × Obj)) (s:Shared) (σ:St) (H:Hp) (Q:Option Int→Hp→Prop),Inv X pins σ H s→t σ H Q →
    wpAny (model X.prog X.w) X.A (evalPart e X.env) (fun u s'=>∃ o H',Inv X pins σ H' s'∧IsPart u o∧Q o H') X.xe s
def tNoPart:TO:=fun _ H Q=>Q none H
def tPart (t:TE):TO:=fun σ H Q=>t σ H fun x H1=>∃ i,x=.int i∧Q (some i) H1
theorem intsAre_of {ns:List Int}:∀ {us:List Value},Vals (ns.map V.int) us→IntsAre us ns:=by
  induction ns with
  | nil=>intro us r; rw [List.map_nil] at r; cases r; exact .nil
  | cons n ns ih =>
    intro us r
    rw [List.map_cons] at r
    cases r with
    | cons r1 r2 =>
      obtain ⟨t,e⟩:=r1
      subst e
      exact .cons n t (ih r2)
section
variable {X:Cx} {e:Expr} {te:TE} {lo hi:Option Expr} {tl th:TO} {pos p2:Pos}
theorem po_none:PO X none tNoPart:=by
  intro pins s σ H Q I h
  rw [evalPart_none]
  exact wpAny_pure ⟨none,H,I,.none,h⟩
theorem po_some (h:PE X e te):PO X (some e) (tPart te):=by
  intro pins s σ H Q I hw
  rw [evalPart_some]
  refine thn (h pins s σ H _ I hw) fun u s1 ⟨x,H1,I1,r1,q1⟩=>?_
  obtain ⟨i,rfl,q⟩:=q1
  obtain ⟨t,rfl⟩:=r1
  exact ⟨some i,H1,I1,.int i t,q⟩
def SlR (X:Cx) (r:V→Option Int→Option Int→Hp→VK→Prop):Prop :=
  ∀ (pins:List (Addr × Obj)) (s:Shared) (σ:St) (H:Hp) (x:V) (v vl vu:Value) (lo hi:Option Int) (sl:Addr) (Q:VK),Inv X pins σ H s→RelV x v→s.heap.IsSliceOf sl vl vu .none→IsPart vl lo→IsPart vu hi→r x lo hi H Q →
    ∃ T id,typeLookup (.type T) "__getitem__" = pure (some (.builtin id))∧s.TypeIs v T∧wpAny (model X.prog X.w) X.A (getItem v (.ref sl)) (EP X pins σ Q) X.xe s
theorem SlR.or {r r':V→Option Int→Option Int→Hp→VK→Prop} (h:SlR X r) (h':SlR X r'):SlR X (fun x lo hi H Q=>r x lo hi H Q∨r' x lo hi H Q):=by
  intro pins s σ H x v vl vu lo hi sl Q I rx hs pl pu q
  rcases q with q | q
  · exact h pins s σ H x v vl vu lo hi sl Q I rx hs pl pu q
  · exact h' pins s σ H x v vl vu lo hi sl Q I rx hs pl pu q
def tSl (r:V→Option Int→Option Int→Hp→VK→Prop) (te:TE) (tl th:TO):TE:=fun σ H Q=>te σ H fun x H1=>tl σ H1 fun l H2=>th σ H2 fun u H3=>r x l u H3 Q
theorem pe_slice {r:V→Option Int→Option Int→Hp→VK→Prop} (hr:SlR X r) (he:PE X e te) (hl:PO X lo tl) (hu:PO X hi th):PE X (.Subscript e (.Slice lo hi none p2) pos) (tSl r te tl th):=by
  intro pins s σ H Q I h
  refine Subscript_ (thn (he pins s σ H _ I h) fun v s1 ⟨x,H1,I1,r1,q1⟩=>?_)
  refine wpAny_Slice (thn (hl pins s1 σ H1 _ I1 q1) fun vl s2 ⟨l,H2,I2,pl,q2⟩=>thn (hu pins s2 σ H2 _ I2 q2) fun vu s3 ⟨u,H3,I3,pu,q3⟩=>?_)
  rw [evalPart_none]
  refine wpAny_pure ?_
  have I4:Inv X pins σ H3 { s3 with heap:=s3.heap.push { cls:=.type "slice",data:=.fields #[vl,vu,.none] } }:=I3.kept (t':=s3.toks) fun b ob q=>Heap.get?_push_of_some _ q
  obtain ⟨T,id,hT,ht,hg⟩:=hr pins { s3 with heap:=s3.heap.push { cls:=.type "slice",data:=.fields #[vl,vu,.none] } } σ H3 x v vl vu l u s3.heap.objs.size Q I4 r1 (Heap.IsSliceOf.new ..) pl pu q3
  show wpAny (model X.prog X.w) X.A (subscriptTail e (.Slice lo hi none p2) v (.ref s3.heap.objs.size)) (EP X pins σ Q) X.xe { s3 with heap:=s3.heap.push { cls:=.type "slice",data:=.fields #[vl,vu,.none] } }
  exact tail_any (ops:=[.ref s3.heap.objs.size,v]) ht hT hg (by with_unfolding_all rfl)
def cutV (xs:List V) (lo hi:Option Int):List V:=(xs.drop (HT.sIx xs.length 0 lo)).take (HT.sIx xs.length xs.length hi - HT.sIx xs.length 0 lo)
theorem cutV_length (xs:List V) (lo hi:Option Int):(cutV xs lo hi).length≤xs.length:=by
  unfold cutV
  rw [List.length_take,List.length_drop]
  omega
end
end L2
namespace L2
open PySem PySem.Spec PyProof.Rows
def ixN (n:Nat) (i:Int):Option Nat:=if 0≤i then (if i < n then some i.toNat else none) else if -(n:Int)≤i then some (i + n).toNat else none
def atI {α:Type} (xs:List α) (i:Int):Option α:=(ixN xs.length i).bind fun j=>xs[j]?
theorem ixN_seq {n:Nat} {i:Int} {j:Nat} (h:ixN n i=some j):seqIndex? i n=some j∧j < n∧-(n:Int)≤i∧i < n:=by
  unfold ixN at h
  by_cases h0:0≤i
  · rw [if_pos h0] at h
    by_cases h1:i < n
    · rw [if_pos h1] at h
      have e:i.toNat=j:=Option.some.inj h
      exact ⟨by rw [seqIndex_of h0 h1,e],by omega,by omega,h1⟩
    · rw [if_neg h1] at h; cases h
  · rw [if_neg h0] at h
    by_cases h1:-(n:Int)≤i
    · rw [if_pos h1] at h
      have e:(i + n).toNat=j:=Option.some.inj h
      exact ⟨by rw [seqIndex_neg (by omega) h1,e],by omega,h1,by omega⟩
    · rw [if_neg h1] at h; cases h
theorem atI_get {α:Type} {xs:List α} {i:Int} {v:α} (h:atI xs i=some v):∃ j,seqIndex? i xs.length=some j∧xs[j]?=some v∧j < xs.length∧-(xs.length:Int)≤i∧i < xs.length:=by
  unfold atI at h
  cases e:ixN xs.length i with
  | none=>rw [e] at h; cases h
  | some j =>
    rw [e] at h
    obtain ⟨h1,h2,h3,h4⟩:=ixN_seq e
    exact ⟨j,h1,h,h2,h3,h4⟩
theorem atI_last {α:Type} (xs:List α) (v:α):atI (xs++[v]) (-1)=some v:=by
  have hl:(xs++[v]).length=xs.length + 1:=by simp
  have e:ixN (xs++[v]).length (-1)=some xs.length:=by
    unfold ixN
    rw [hl,if_neg (by decide),if_pos (by omega)]
    congr 1
    omega
  unfold atI
  rw [e]
  show (xs++[v])[xs.length]?=some v
  simp
def PlainIx (b:Expr):Prop:=∀ o i,subscripted b false o i=operate [o,i] (getItem o i)
def IxR (X:Cx) (r:R2):Prop :=
  ∀ (value slice:Expr) (pins:List (Addr × Obj)) (s:Shared) (σ:St) (H:Hp) (x y:V) (v u:Value) (Q:VK),Inv X pins σ H s→RelV x v→RelV y u→r x y H Q →
    subscripted slice false v u=operate [v,u] (getItem v u)→wpAny (model X.prog X.w) X.A (subscriptTail value slice v u) (EP X pins σ Q) X.xe s
def MtR (X:Cx) (id:String) (r:V→List V→Hp→VK→Prop):Prop :=
  ∀ (pins:List (Addr × Obj)) (s:Shared) (σ:St) (H:Hp) (x:V) (xs:List V) (v:Value) (us:List Value) (Q:VK),Inv X pins σ H s→RelV x v→Vals xs us→r x xs H Q →
    wpAny (model X.prog X.w) X.A (call (.builtin id) (v::us)) (EP X pins σ Q) X.xe s
section
variable {X:Cx} {a b:Expr} {ta tb:TE} {pos:Pos}
theorem IxR.or {r r':R2} (h:IxR X r) (h':IxR X r'):IxR X (fun x y H Q=>r x y H Q∨r' x y H Q):=by
  intro value slice pins s σ H x y v u Q I rx ry q hs
  rcases q with q | q
  · exact h value slice pins s σ H x y v u Q I rx ry q hs
  · exact h' value slice pins s σ H x y v u Q I rx ry q hs
theorem MtR.or {id:String} {r r':V→List V→Hp→VK→Prop} (h:MtR X id r) (h':MtR X id r'):MtR X id (fun x xs H Q=>r x xs H Q∨r' x xs H Q):=by
  intro pins s σ H x xs v us Q I rx rs q
  rcases q with q | q
  · exact h pins s σ H x xs v us Q I rx rs q
  · exact h' pins s σ H x xs v us Q I rx rs q
theorem pe_ix {r:R2} (hr:IxR X r) (ha:PE X a ta) (hb:PE X b tb) (hs:PlainIx b):PE X (.Subscript a b pos) (tOp r ta tb):=by
  intro pins s σ H Q I h
  exact Subscript_ (binT ha hb I h fun v u s2 x y H2 I2 rx ry q=>hr a b pins s2 σ H2 x y v u Q I2 rx ry q (hs _ _))
def rIxL (K:PySem.W.Frag):R2:=fun x y H Q=>∃ p xs i v,x=.ref p∧y=.int i∧SqL K H p xs∧atI xs i=some v∧Q v H
def rIxT (K:PySem.W.Frag):R2:=fun x y H Q=>∃ p xs i v,x=.ref p∧y=.int i∧SqT K H p xs∧atI xs i=some v∧Q v H
def rIxS:R2:=fun x y H Q=>∃ z i c,x=.str z∧y=.int i∧z.length≤sizeLine∧atI z.cps.toList i=some c∧Q (.str ⟨#[c]⟩) H
theorem ix_list:IxR X (rIxL X.K):=by
  intro value slice pins s σ H x y v u Q I rx ry h hs
  obtain ⟨p,xs,i,z,rfl,rfl,hq,he,q⟩:=h
  cases rx
  obtain ⟨t,rfl⟩:=ry
  obtain ⟨its,r,pl,hz⟩:=I.list hq
  obtain ⟨j,h1,h2,h3,h4,h5⟩:=atI_get he
  obtain ⟨w,ew,rw'⟩:=r.get h2
  have hl:=r.length
  have hn:=line63
  have fin:EP X pins σ Q w s:=⟨z,H,I,rw',q⟩
  by_cases h0:0≤i
  · have hj:i.toNat=j:=by
      rw [seqIndex_of h0 h5] at h1
      exact Option.some.inj h1
    exact item_listR pl.isList h0 (by omega) (by rw [hj]; simpa using ew) fin hs
  · have hj:(i + (its.toArray.size:Int)).toNat=j:=by
      rw [seqIndex_neg (by omega) h4] at h1
      rw [List.size_toArray,← hl]
      exact Option.some.inj h1
    exact subscriptTail_builtinR (x:=w) pl.isList.typeIs slot_list_getitem.lookup
      (wpAny_getItem_list_neg (Q:=fun r s'=>r=w∧EP X pins σ Q r s') pl.isList (by omega) (by rw [List.size_toArray] <;> omega) (by omega) (by rw [hj]; simpa using ew) ⟨rfl,fin⟩) hs
theorem ix_tup:IxR X (rIxT X.K):=by
  intro value slice pins s σ H x y v u Q I rx ry h hs
  obtain ⟨p,xs,i,z,rfl,rfl,hq,he,q⟩:=h
  cases rx
  obtain ⟨t,rfl⟩:=ry
  obtain ⟨its,r,pl,hz⟩:=I.tuple hq
  obtain ⟨j,h1,h2,h3,h4,h5⟩:=atI_get he
  obtain ⟨w,ew,rw'⟩:=r.get h2
  have hl:=r.length
  have hn:=line63
  have fin:EP X pins σ Q w s:=⟨z,H,I,rw',q⟩
  exact subscriptTail_builtinR (x:=w) pl.typeIs slot_tuple_getitem.lookup
    (getItem_tuple (j:=j) (Q:=fun r s'=>r=w∧EP X pins σ Q r s') pl (by omega) (by omega) (by rw [List.size_toArray,← hl]; exact h1) (by simpa using ew) ⟨rfl,fin⟩) hs
theorem ix_str:IxR X rIxS:=by
  intro value slice pins s σ H x y v u Q I rx ry h hs
  obtain ⟨z,i,c,rfl,rfl,hz,he,q⟩:=h
  obtain ⟨t,rfl⟩:=rx
  obtain ⟨t',rfl⟩:=ry
  obtain ⟨j,h1,h2,h3,h4,h5⟩:=atI_get he
  have hl:z.cps.toList.length=z.length:=by simp [Str.length]
  rw [hl] at h1 h4 h5
  have hn:=line63
  exact tail_any (typeIs_str s z t) slot_str_getitem.lookup (getItem_str (c:=c) (by
    have e1:decide (i < -(2 ^ 63:Int))=false:=decide_eq_false (by omega)
    have e2:decide (i ≥ 2 ^ 63)=false:=decide_eq_false (by omega)
    rw [e1,e2,Bool.or_false]) (by rw [h1]; simpa using h2) ⟨.str ⟨#[c]⟩,H,I.tok _,⟨_,rfl⟩,q⟩) hs
def rIx (K:PySem.W.Frag):R2:=fun x y H Q=>rIxL K x y H Q∨rIxT K x y H Q∨rIxS x y H Q
theorem ix_seq:IxR X (rIx X.K):=ix_list.or (ix_tup.or ix_str)
theorem mapSeq_set (its:List Value) (n j:Nat) (u:Value):Obj.mapSeq (·.setIfInBounds j u) { cls:=.type "list",data:=.seq its.toArray n }={ cls:=.type "list",data:=.seq (its.set j u).toArray n }:=by
  simp [Obj.mapSeq]
theorem Inv.lst {pins:List (Addr × Obj)} {σ:St} {H:Hp} {s:Shared} {p:Addr} {xs:List V} (I:Inv X pins σ H s) (h:H p=some (.lst xs)) :
    ∃ (its:List Value) (n:Nat),Vals xs its∧s.heap.get? p=some { cls:=.type "list",data:=.seq its.toArray n }∧xs.length≤sizeLine:=by
  obtain ⟨z,its,n,r,e⟩:=I.hok p _ h
  exact ⟨its,n,r,e,z⟩
theorem Inv.lstUpd {pins:List (Addr × Obj)} {σ:St} {H:Hp} {s:Shared} {p:Addr} {xs ys:List V} {its its':List Value} {n n':Nat} {f:Obj→Obj} (I:Inv X pins σ H s) (h:H p=some (.lst xs))
    (ho:s.heap.get? p=some { cls:=.type "list",data:=.seq its.toArray n }) (hf:f { cls:=.type "list",data:=.seq its.toArray n }={ cls:=.type "list",data:=.seq its'.toArray n' }) (r:Vals ys its') (hz:ys.length≤sizeLine) (t:Nat) :
    Inv X pins σ (upd H p (.lst ys)) { s with heap:=s.heap.update p f,toks:=t }:=by
  have e:(s.heap.update p f).get? p=some { cls:=.type "list",data:=.seq its'.toArray n' }:=by
    rw [Heap.get?_update_self f ho (by rw [hf] <;> rfl),hf]
  refine I.write (x:=p) (e:=p) (by rw [h]; trivial) (.inl rfl) (fun b u hb q=>(Heap.get?_update_other _ _ (Ne.symm hb)).trans q) ⟨_,e⟩ ?_
  exact ⟨hz,its',n',r,e⟩
def rSetL:V→V→V→Hp→(Hp→Prop)→Prop:=fun o i v H Q=>∃ p xs k j,o=.ref p∧i=.int k∧H p=some (.lst xs)∧ixN xs.length k=some j∧Q (upd H p (.lst (xs.set j v)))
theorem set_list:PSet X rSetL:=by
  intro pins s σ H o i v ov iv u Q I ro ri rv h
  obtain ⟨p,xs,k,j,rfl,rfl,hp,hj,q⟩:=h
  cases ro
  obtain ⟨t,rfl⟩:=ri
  obtain ⟨its,n,r,ho,hz⟩:=I.lst hp
  obtain ⟨h1,h2,h3,h4⟩:=ixN_seq hj
  have hl:=r.length
  have hn:=line63
  have I':Inv X pins σ (upd H p (.lst (xs.set j v))) { s with heap:=s.heap.update p (Obj.mapSeq (·.setIfInBounds j u)) } :=
    I.lstUpd hp ho (mapSeq_set its n j u) (r.set rv j) (by rw [List.length_set]; exact hz) s.toks
  by_cases h0:0≤k
  · have hk:k.toNat=j:=by
      rw [seqIndex_of h0 h4] at h1
      exact Option.some.inj h1
    exact PySem.W.ki_setAt ho h0 (by omega) (by rw [List.size_toArray,← hl]; exact h4) (by rw [hk]; exact ⟨_,I',q⟩)
  · have hk:(k + (its.toArray.size:Int)).toNat=j:=by
      rw [seqIndex_neg (by omega) h3] at h1
      rw [List.size_toArray,← hl]
      exact Option.some.inj h1
    exact PySem.W.ki_setBack ho (by omega) (by rw [List.size_toArray,← hl]; exact h3) (by omega) (by rw [hk]; exact ⟨_,I',q⟩)
theorem slice_bounds (lo hi:Option Int) (n:Nat):(sliceBounds lo hi none n).1=((HT.sIx n 0 lo:Nat):Int)∧(sliceBounds lo hi none n).2.1=((HT.sIx n n hi:Nat):Int)∧(sliceBounds lo hi none n).2.2=1:=by
  refine ⟨?_,?_,rfl⟩
  · cases lo with
    | none=>simp [sliceBounds,HT.sIx]
    | some i =>
      simp only [sliceBounds,HT.sIx,Option.getD_none,show (1:Int) > 0 by decide,if_true]
      by_cases h:i < 0
      · simp only [h,if_true] <;> omega
      · simp only [h,if_false] <;> omega
  · cases hi with
    | none=>simp [sliceBounds,HT.sIx]
    | some i =>
      simp only [sliceBounds,HT.sIx,Option.getD_none,show (1:Int) > 0 by decide,if_true]
      by_cases h:i < 0
      · simp only [h,if_true] <;> omega
      · simp only [h,if_false] <;> omega
theorem slicePick_cut (its:List Value) (lo hi:Option Int):slicePick its.toArray lo hi none=((its.drop (HT.sIx its.length 0 lo)).take (HT.sIx its.length its.length hi - HT.sIx its.length 0 lo)).toArray:=by
  obtain ⟨h1,h2,h3⟩:=slice_bounds lo hi its.toArray.size
  unfold slicePick
  rw [h1,h2,h3]
  simp only [sliceRange_one,pick_run,List.size_toArray] <;> rfl
def rSlL (K:PySem.W.Frag):V→Option Int→Option Int→Hp→VK→Prop:=fun x lo hi H Q=>∃ a xs,x=.ref a∧SqL K H a xs∧∀ p,H p=none→Q (.ref p) (upd H p (.lst (cutV xs lo hi)))
theorem sl_list:SlR X (rSlL X.K):=by
  intro pins s σ H x v vl vu lo hi sl Q I rx hs pl pu h
  obtain ⟨a,xs,rfl,hx,q⟩:=h
  cases rx
  obtain ⟨its,r,ht,hz⟩:=I.list hx
  have hlen:=r.length
  refine ⟨"list",_,slot_list_getitem.lookup,ht.isList.typeIs,?_⟩
  refine wpAny_getItem_list_slice ht.isList hs pl pu .none (by simp) ?_ (by rw [List.size_toArray] <;> omega)
  rw [slicePick_cut,← hlen]
  refine ⟨.ref s.heap.objs.size,_,I.laid (t':=s.toks) (o:=.lst (cutV xs lo hi)) (fun b ob q=>Heap.get?_push_of_some _ q) (Nat.le_refl _) ?_,rfl,q _ (I.hok.fresh (Nat.le_refl _))⟩
  exact ⟨Nat.le_trans (cutV_length xs lo hi) hz,_,0,(r.drop (HT.sIx xs.length 0 lo)).take (HT.sIx xs.length xs.length hi - HT.sIx xs.length 0 lo),Heap.get?_push_size _ rfl⟩
theorem call_len_seq:CallR X (.builtin "len") (fun xs H Q=>∃ p ys,xs=[.ref p]∧(SqL X.K H p ys∨SqT X.K H p ys)∧Q (.int ys.length) H):=by
  intro pins s σ H xs us Q I r h
  obtain ⟨p,ys,rfl,hq,q⟩:=h
  obtain ⟨u,rfl,rx⟩:=vals1 r
  cases rx
  have hn:=line63
  rcases hq with hq | hq
  · obtain ⟨its,r',pl,hz⟩:=I.list hq
    have hlen:=r'.length
    exact Calls.call_len_list pl.isList (by simp only [List.size_toArray] <;> omega) ⟨.int ys.length,H,I.tok _,⟨s.toks + 1,by rw [List.size_toArray,hlen]⟩,q⟩
  · obtain ⟨its,r',pl,hz⟩:=I.tuple hq
    have hlen:=r'.length
    exact len_tuple pl (by simp only [List.size_toArray] <;> omega) ⟨.int ys.length,H,I.tok _,⟨s.toks + 1,by rw [List.size_toArray,hlen]⟩,q⟩
theorem CallR.or {f:Value} {r r':List V→Hp→VK→Prop} (h:CallR X f r) (h':CallR X f r'):CallR X f (fun xs H Q=>r xs H Q∨r' xs H Q):=by
  intro pins s σ H xs us Q I rs q
  rcases q with q | q
  · exact h pins s σ H xs us Q I rs q
  · exact h' pins s σ H xs us Q I rs q
theorem call_list_of:CallR X (.type "list") (fun xs H Q=>∃ p ys,xs=[.ref p]∧(SqL X.K H p ys∨SqT X.K H p ys)∧∀ l,H l=none→Q (.ref l) (upd H l (.lst ys))):=by
  intro pins s σ H xs us Q I r h
  obtain ⟨p,ys,rfl,hq,q⟩:=h
  obtain ⟨u,rfl,rx⟩:=vals1 r
  cases rx
  have fin:∀ (its:List Value),Vals ys its→ys.length≤sizeLine→∀ (h':Heap) (c':Nat),(∀ b o',s.heap.get? b=some o'→h'.get? b=some o') →
      h'.get? s.heap.objs.size=some { cls:=.type "list",dict:=none,data:=.seq its.toArray c',slots:=#[] }→EP X pins σ Q (.ref s.heap.objs.size) { s with heap:=h' }:=fun its r' hz h' c' kp e =>
    ⟨.ref s.heap.objs.size,_,I.laid (t':=s.toks) kp (Nat.le_refl _) (show ObjOk X.prog X.w _ h' _ (.lst ys) from ⟨hz,its,c',r',e⟩),rfl,q _ (I.hok.fresh (Nat.le_refl _))⟩
  rcases hq with hq | hq
  · obtain ⟨its,r',pl,hz⟩:=I.list hq
    have hlen:=r'.length
    obtain ⟨o,ho,hc,n,hd⟩:=pl.isList
    exact call_list_seq p (.inl rfl) ho hc hd (fun h' c' kp e=>fin its r' hz h' c' kp e) (by simp only [List.size_toArray] <;> omega)
  · obtain ⟨its,r',pl,hz⟩:=I.tuple hq
    have hlen:=r'.length
    obtain ⟨o,ho,hc,n,hd⟩:=pl
    exact call_list_seq p (.inr rfl) ho hc hd (fun h' c' kp e=>fin its r' hz h' c' kp e) (by simp only [List.size_toArray] <;> omega)
def tyV (K:PySem.W.Frag) (T:String) (x:V) (H:Hp):Prop:=match x with
  | .str _=>T = "str"
  | .int _=>T = "int"
  | .ref p=>(T = "list"∧∃ xs,SqL K H p xs)∨(T = "tuple"∧∃ o,K.lookup p=some o∧o.cls=.type "tuple"∧o.dict=none) ∨
      (T = "dict"∧((∃ kvs,H p=some (.dK kvs))∨∃ kvs,H p=some (.dT kvs)))∨(T = "set"∧∃ S n,H p=some (.set S n))
  | _=>False
theorem tyV_is {pins:List (Addr × Obj)} {σ:St} {H:Hp} {s:Shared} {T:String} {x:V} {v:Value} (I:Inv X pins σ H s) (r:RelV x v) (ty:tyV X.K T x H) :
    s.TypeIs v T∧∀ a,v=.ref a→∃ ob,s.heap.get? a=some ob∧ob.dict=none:=by
  cases x with
  | str z =>
    obtain ⟨t,rfl⟩:=r
    cases (show T = "str" from ty)
    exact ⟨typeIs_str s z t,fun _ e=>nomatch e⟩
  | int i =>
    obtain ⟨t,rfl⟩:=r
    cases (show T = "int" from ty)
    exact ⟨typeIs_int s i t,fun _ e=>nomatch e⟩
  | ref p =>
    cases r
    rcases ty with ⟨rfl,xs,hq⟩ | ⟨rfl,o,hk,hc,hd⟩ | ⟨rfl,hk⟩ | ⟨rfl,S,n,hk⟩
    · obtain ⟨its,_,pl,_⟩:=I.list hq
      refine ⟨pl.isList.typeIs,fun a e=>?_⟩
      cases e
      obtain ⟨o,n,e,c,hd,_⟩:=pl
      exact ⟨o,e,hd⟩
    · refine ⟨⟨o,I.kIn p o hk,hc⟩,fun a e=>?_⟩
      cases e
      exact ⟨o,I.kIn _ o hk,hd⟩
    · have z:∃ o,s.heap.get? p=some o∧o.ExactDict:=by
        rcases hk with ⟨kvs,hk⟩ | ⟨kvs,hk⟩
        · obtain ⟨_,_,_,_,o,_,_,e,ex,_⟩:=I.hok p _ hk
          exact ⟨o,e,ex⟩
        · obtain ⟨_,_,_,_,o,_,_,e,ex,_⟩:=I.hok p _ hk
          exact ⟨o,e,ex⟩
      obtain ⟨o,e,ex⟩:=z
      refine ⟨⟨o,e,ex.1⟩,fun a e2=>?_⟩
      cases e2
      exact ⟨o,e,ex.2.1⟩
    · obtain ⟨o,_,_,_,e,ex,_⟩:=I.hok p _ hk
      refine ⟨⟨o,e,ex.1⟩,fun a e2=>?_⟩
      cases e2
      exact ⟨o,e,ex.2.1⟩
  | _=>exact False.elim ty
def tBM0 (K:PySem.W.Frag) (T:String) (r:V→List V→Hp→VK→Prop) (to:TE):TE:=fun σ H Q=>to σ H fun x H1=>tyV K T x H1∧r x [] H1 Q
def tBM (K:PySem.W.Frag) (T:String) (r:V→List V→Hp→VK→Prop) (to:TE) (t:TA):TE:=fun σ H Q=>to σ H fun x H1=>tyV K T x H1∧t σ H1 fun xs H2=>r x xs H2 Q
variable {o e:Expr} {es:List Expr} {to:TE} {t:TA} {name:Str} {apos cpos:Pos} {T id:String} {r:V→List V→Hp→VK→Prop}
theorem pe_bm0 (pa:PlainAttrs T) (slot:Slot T name id) (hty:typeOf (.builtin id)=pure (.type "method_descriptor")) (hm:MtR X id r) (ho:PE X o to)
    (hbase:attributeBase o name X.env (eval o X.env)=eval o X.env:=by rfl) (hline:(apos.endLine==cpos.line)=true:=by rfl):PE X (.Call (.Attribute o name apos) [] [] cpos) (tBM0 X.K T r to):=by
  intro pins s σ H Q I h
  refine wpAny_Call_method0_late hbase hline (thn (ho pins s σ H _ I h) fun v s1 ⟨x,H1,I1,r1,ty,q1⟩=>?_)
  obtain ⟨h1,h2⟩:=tyV_is I1 r1 ty
  exact ⟨T,id,pa,slot,hty,h1,h2,Calls.callWith_builtin rfl (PySem.evalArgs_none (hm pins s1 σ H1 x [] v [] Q I1 r1 .nil q1))⟩
theorem pe_bm (pa:PlainAttrs T) (slot:Slot T name id) (hty:typeOf (.builtin id)=pure (.type "method_descriptor")) (hm:MtR X id r) (ho:PE X o to) (ha:PA X (e::es) t)
    (hbase:attributeBase o name X.env (eval o X.env)=eval o X.env:=by rfl)
    (hfew:((backTo cpos (starEach (e::es) X.env)).all (fun x=>!x.1) && (backToKw cpos (keywordEach [] X.env)).all (fun x=>x.1.isSome)
      && decide ((e::es).length + ([]:List Keyword).length + (if ([]:List Keyword).isEmpty then 0 else 1) < 30))=true:=by rfl)
    (hline:(apos.endLine==cpos.line)=true:=by rfl) (hs:starEach (e::es) X.env=(false,eval e X.env)::starEach es X.env:=by rfl) (hplain:(backTo cpos (starEach es X.env)).any (·.1)=false:=by rfl) :
    PE X (.Call (.Attribute o name apos) (e::es) [] cpos) (tBM X.K T r to t):=by
  intro pins s σ H Q I h
  refine wpAny_Call_method_late hbase hfew hline rfl (thn (ho pins s σ H _ I h) fun v s1 ⟨x,H1,I1,r1,ty,q1⟩=>?_)
  obtain ⟨h1,h2⟩:=tyV_is I1 r1 ty
  refine ⟨T,id,pa,slot,hty,h1,h2,?_⟩
  have hA:=ha cpos pins s1 σ H1 _ I1 q1
  rw [hs] at hA ⊢
  refine Calls.callWith_builtin (by show (false || (backTo cpos (starEach es X.env)).any (·.1))=false; rw [hplain] <;> rfl) (Calls.evalArgs_plain ?_)
  exact thn hA fun us s2 ⟨vs,H2,I2,r2,q2⟩=>hm pins s2 σ H2 x vs v us Q I2 r1 r2 q2
end
end L2
namespace L2
open PySem PySem.Spec PyProof.Rows
def MtM (X:Cx) (id:String) (r:V→List V→Hp→VK→Prop):Prop :=
  ∀ (pins:List (Addr × Obj)) (s:Shared) (σ:St) (H:Hp) (x:V) (xs:List V) (v:Value) (us:List Value) (Q:VK),Inv X pins σ H s→RelV x v→Vals xs us→r x xs H Q →
    wpAny (model X.prog X.w) X.A (call (.builtin id) (v::us)) (EP X pins σ Q) X.xe s
theorem Vals.one:∀ {x:V} {us:List Value},Vals [x] us→∃ u,us=[u]∧RelV x u
  | _,_,.cons r .nil=>⟨_,rfl,r⟩
theorem Vals.two:∀ {x y:V} {us:List Value},Vals [x,y] us→∃ u v,us=[u,v]∧RelV x u∧RelV y v
  | _,_,_,.cons r (.cons q .nil)=>⟨_,_,rfl,r,q⟩
theorem Vals.zero:∀ {us:List Value},Vals [] us→us=[]
  | _,.nil=>rfl
theorem Vals.dropLast {xs:List V} {us:List Value} (h:Vals xs us):Vals xs.dropLast us.dropLast:=by
  induction h with
  | nil=>exact .nil
  | cons r t ih =>
    cases t with
    | nil=>exact .nil
    | cons q t'=>exact .cons r ih
theorem Vals.eraseIdx:∀ {xs:List V} {us:List Value} (i:Nat),Vals xs us→Vals (xs.eraseIdx i) (us.eraseIdx i)
  | _,_,_,.nil=>.nil
  | _,_,0,.cons _ t=>t
  | _,_,i + 1,.cons r t=>.cons r (Vals.eraseIdx i t)
theorem Vals.reverse {xs:List V} {us:List Value} (h:Vals xs us):Vals xs.reverse us.reverse:=by
  induction h with
  | nil=>exact .nil
  | cons r t ih=>rw [List.reverse_cons,List.reverse_cons]; exact Vals.append ih (.cons r .nil)
theorem Vals.rep {xs:List V} {us:List Value} (h:Vals xs us):∀ k:Nat,Vals (List.replicate k xs).flatten (List.replicate k us).flatten
  | 0=>.nil
  | k + 1=>by
    rw [List.replicate_succ,List.replicate_succ,List.flatten_cons,List.flatten_cons]
    exact Vals.append h (Vals.rep h k)
theorem erase_last {α:Type} (l:List α):l.eraseIdx (l.length - 1)=l.dropLast:=by
  induction l with
  | nil=>rfl
  | cons a r ih =>
    cases r with
    | nil=>rfl
    | cons b r =>
      have e:(a::b::r).length - 1=((b::r).length - 1) + 1:=by
        have h1:(a::b::r).length=r.length + 2:=rfl
        have h2:(b::r).length=r.length + 1:=rfl
        omega
      rw [e,List.eraseIdx_cons_succ,ih]
      all_goals rfl
theorem len_erase {α:Type}:∀ (l:List α) (i:Nat),(l.eraseIdx i).length≤l.length
  | [],_=>Nat.le_refl _
  | _::_,0=>Nat.le_succ _
  | _::r,i + 1=>Nat.succ_le_succ (len_erase r i)
theorem foldl_rep (its:List Value):∀ (k:Nat) (acc:List Value),
    List.foldl (fun x1 x2=>x1++x2) acc.toArray (List.replicate k its.toArray)=(acc++(List.replicate k its).flatten).toArray
  | 0,acc=>by simp
  | k + 1,acc=>by
    have e:acc.toArray++its.toArray=(acc++its).toArray:=by simp
    have e2:(acc++its)++(List.replicate k its).flatten=acc++(List.replicate (k + 1) its).flatten:=by
      rw [List.replicate_succ,List.flatten_cons,List.append_assoc]
    rw [← e2,← foldl_rep its k (acc++its),← e,List.replicate_succ,List.foldl_cons]
section
variable {X:Cx} {pins:List (Addr × Obj)} {σ:St} {H:Hp} {s:Shared} {l b:Addr} {xs ys zs:List V}
theorem Inv.lset {its its':List Value} {n:Nat} {f:Array Value→Array Value} {t':Nat} (I:Inv X pins σ H s) (hH:H l=some (.lst xs))
    (e:s.heap.get? l=some { cls:=.type "list",data:=.seq its.toArray n }) (hf:f its.toArray=its'.toArray) (hv:Vals ys its') (hz:ys.length≤sizeLine) :
    Inv X pins σ (upd H l (.lst ys)) { s with heap:=s.heap.update l (Obj.mapSeq f),toks:=t' }:=by
  have q:=PySem.IsL.update e f
  rw [hf] at q
  refine I.write (x:=l) (e:=l) (by rw [hH]; exact trivial) (.inl rfl) (fun b' u hb hu=>(Heap.get?_update_other s.heap (Obj.mapSeq f) (Ne.symm hb)).trans hu) ⟨_,q⟩ ?_
  exact ⟨hz,its',_,hv,q⟩
theorem Inv.lnew {its:List Value} {t':Nat} (I:Inv X pins σ H s) (hv:Vals ys its) (hz:ys.length≤sizeLine) :
    Inv X pins σ (upd H s.heap.objs.size (.lst ys)) { s with heap:=s.heap.push { cls:=.type "list",data:=.seq its.toArray },toks:=t' } :=
  I.laid (fun _ _ q=>Heap.get?_push_of_some _ q) (Nat.le_refl _) ⟨hz,its,0,hv,Heap.get?_push_size _ rfl⟩
theorem Inv.fresh (I:Inv X pins σ H s):H s.heap.objs.size=none:=I.hok.fresh (Nat.le_refl _)
theorem Inv.lstM (I:Inv X pins σ H s) (hH:H l=some (.lst xs)):xs.length≤sizeLine∧∃ (its:List Value) (n:Nat),Vals xs its∧xs.length=its.length∧s.heap.get? l=some { cls:=.type "list",data:=.seq its.toArray n }:=by
  obtain ⟨z,its,n,r,e⟩:=I.hok l _ hH
  exact ⟨z,its,n,r,r.length,e⟩
theorem notLongL {n:Nat} (h:n≤sizeLine):Builtin.List.listTooLong n=false:=by
  unfold Builtin.List.listTooLong
  exact decide_eq_false (by omega)
end
section
variable {X:Cx}
def rAppend:V→List V→Hp→VK→Prop:=fun x vs H Q=>∃ l xs y,x=.ref l∧vs=[y]∧H l=some (.lst xs)∧xs.length < sizeLine∧Q .non (upd H l (.lst (xs++[y])))
theorem mt_append:MtM X "list.append" rAppend:=by
  intro pins s σ H x vs v us Q I rx rv h
  obtain ⟨l,xs,y,rfl,rfl,hH,hz,q⟩:=h
  cases rx
  obtain ⟨u,rfl,ru⟩:=rv.one
  obtain ⟨z,its,n,r,hl,e⟩:=I.lstM hH
  refine call_meets F.slot_list_append ⟨_,e,rfl⟩ F.entry_list_append (F.args_list_append_2 _ _) (PySem.list_append l its.toArray n u (by rw [List.size_toArray]; omega)) ⟨e,?_⟩
  refine ⟨.non,_,I.lset (its':=its++[u]) hH e (by simp) (r.append (.cons ru .nil)) ?_,rfl,q⟩
  rw [List.length_append,List.length_singleton]
  omega
def rExtend:V→List V→Hp→VK→Prop:=fun x vs H Q=>∃ l b xs zs,x=.ref l∧vs=[.ref b]∧H l=some (.lst xs)∧H b=some (.lst zs)∧xs.length + zs.length≤sizeLine∧Q .non (upd H l (.lst (xs++zs)))
theorem mt_extend:MtM X "list.extend" rExtend:=by
  intro pins s σ H x vs v us Q I rx rv h
  obtain ⟨l,b,xs,zs,rfl,rfl,hH,hB,hz,q⟩:=h
  cases rx
  obtain ⟨u,rfl,ru⟩:=rv.one
  cases ru
  obtain ⟨z,its,n,r,hl,e⟩:=I.lstM hH
  obtain ⟨z2,its2,n2,r2,hl2,e2⟩:=I.lstM hB
  have hsz:its.toArray.size + its2.toArray.size≤sizeLine:=by rw [List.size_toArray,List.size_toArray]; omega
  have hlong:¬ (!its.toArray.isEmpty && Builtin.List.listTooLong (its.toArray.size + its2.toArray.size))=true:=by
    rw [notLongL hsz,Bool.and_false]
    exact Bool.false_ne_true
  refine call_meets F.slot_list_extend ⟨_,e,rfl⟩ F.entry_list_extend (F.args_list_extend_2 _ _)
    (AutoSeq1.list_extend_list_list_0 l its.toArray n b its2.toArray n2 hlong (by rw [List.size_toArray]; omega) (by omega)) ⟨e,e2,?_⟩
  refine ⟨.non,_,I.lset (its':=its++its2) hH e (by simp) (r.append r2) ?_,rfl,q⟩
  rw [List.length_append]
  omega
def rPop:V→List V→Hp→VK→Prop:=fun x vs H Q=>∃ l xs y,x=.ref l∧vs=[]∧H l=some (.lst xs)∧xs[xs.length - 1]?=some y∧Q y (upd H l (.lst xs.dropLast))
theorem mt_pop:MtM X "list.pop" rPop:=by
  intro pins s σ H x vs v us Q I rx rv h
  obtain ⟨l,xs,y,rfl,rfl,hH,hy,q⟩:=h
  cases rx
  have hus:=rv.zero
  subst hus
  obtain ⟨z,its,n,r,hl,e⟩:=I.lstM hH
  obtain ⟨u,hu,ru⟩:=r.get hy
  have hy':its.toArray[its.toArray.size - 1]?=some u:=by
    show its.toArray[its.length - 1]?=some u
    rw [← Array.getElem?_toList,← hl]
    exact hu
  refine call_meets F.slot_list_pop ⟨_,e,rfl⟩ F.entry_list_pop (F.args_list_pop_1 _) (MeetsSeq.list_pop_last l its.toArray n u hy' (by rw [List.size_toArray]; omega)) ⟨e,?_⟩
  refine ⟨y,_,I.lset (its':=its.dropLast) hH e ?_ r.dropLast ?_,ru,q⟩
  · show its.toArray.eraseIdxIfInBounds (its.toArray.size - 1)=its.dropLast.toArray
    rw [List.size_toArray,List.eraseIdxIfInBounds_toArray,erase_last]
  · rw [List.length_dropLast]
    omega
def rPopAt:V→List V→Hp→VK→Prop:=fun x vs H Q=>∃ l xs i k y,x=.ref l∧vs=[.int i]∧H l=some (.lst xs)∧-(2 ^ 63)≤i∧i < 2 ^ 63∧seqIndex? i xs.length=some k∧xs[k]?=some y∧Q y (upd H l (.lst (xs.eraseIdx k)))
theorem mt_popAt:MtM X "list.pop" rPopAt:=by
  intro pins s σ H x vs v us Q I rx rv h
  obtain ⟨l,xs,i,k,y,rfl,rfl,hH,h1,h2,hk,hy,q⟩:=h
  cases rx
  obtain ⟨u,rfl,ru⟩:=rv.one
  obtain ⟨t,rfl⟩:=ru
  obtain ⟨z,its,n,r,hl,e⟩:=I.lstM hH
  obtain ⟨w,hw,rw'⟩:=r.get hy
  refine call_meets F.slot_list_pop ⟨_,e,rfl⟩ F.entry_list_pop (F.args_list_pop_2 _ _)
    (MeetsSeq.list_pop_at l its.toArray n i t k w (fitsIndex_both h1 h2) (by rw [List.size_toArray,← hl]; exact hk) (by rw [← Array.getElem?_toList]; exact hw) (by rw [List.size_toArray]; omega)) ⟨e,?_⟩
  refine ⟨y,_,I.lset (its':=its.eraseIdx k) hH e ?_ (r.eraseIdx k) ?_,rw',q⟩
  · show its.toArray.eraseIdxIfInBounds k=(its.eraseIdx k).toArray
    rw [List.eraseIdxIfInBounds_toArray]
  · have:=len_erase xs k
    omega
def rRep:R2:=fun x y H Q=>∃ l k xs,x=.ref l∧y=.int k∧H l=some (.lst xs)∧-(2 ^ 63)≤k∧k < 2 ^ 63∧xs.length * k.toNat≤sizeLine ∧
  ∀ p,H p=none→Q (.ref p) (upd H p (.lst (List.replicate k.toNat xs).flatten))
theorem len_rep {α:Type} (xs:List α) (k:Nat):(List.replicate k xs).flatten.length=k * xs.length:=by
  induction k with
  | zero=>simp
  | succ k ih=>rw [List.replicate_succ,List.flatten_cons,List.length_append,ih,Nat.succ_mul,Nat.add_comm]
theorem op_rep:OpR X (binaryOp .Mult) rRep:=by
  intro pins s σ H x y v u Q I rx ry h
  obtain ⟨l,k,xs,rfl,rfl,hH,h1,h2,hz,q⟩:=h
  cases rx
  obtain ⟨t,rfl⟩:=ry
  obtain ⟨z,its,n,r,hl,e⟩:=I.lstM hH
  have hlen:its.toArray.size * k.toNat≤sizeLine:=by rw [List.size_toArray,← hl]; exact hz
  have hcap:¬ its.toArray.size * k.toNat > (2 ^ 63 - 1) / 8:=by
    have:(sizeLine:Nat)≤(2 ^ 63 - 1) / 8:=by decide
    omega
  have hfit:¬ (!Builtin.List.listFitsIndex k)=true:=by
    rw [fitsIndex_both h1 h2]
    exact Bool.false_ne_true
  have hlong:¬ Builtin.List.listTooLong (its.toArray.size * k.toNat)=true:=by
    rw [notLongL hlen]
    exact Bool.false_ne_true
  have hnew:List.foldl (fun x1 x2=>x1++x2) #[] (List.replicate (if its.toArray.isEmpty=true then 0 else k.toNat) its.toArray)=(List.replicate k.toNat its).flatten.toArray:=by
    have f0:∀ m:Nat,List.foldl (fun x1 x2=>x1++x2) #[] (List.replicate m its.toArray)=(List.replicate m its).flatten.toArray:=fun m=>by
      have:=foldl_rep its m []
      rw [List.nil_append] at this
      exact this
    rw [f0]
    cases its with
    | nil=>simp
    | cons a r'=>rw [if_neg (by simp)]
  refine wpAny_binaryOp_repeat_ref (T:="list") (U:="int") (by decide) ⟨_,e,rfl⟩ (fun s'=>typeIs_int s' k t) noFill_list_mul F.fills_int_mul F.slot_int_rmul repeat_list F.slot_int_index.lookup
    (call_meets F.slot_int_rmul (typeIs_int s k t) F.entry_int_rmul (F.args_int_rmul_2 _ _) (int___rmul___int_list k t l its.toArray n)
      ⟨e,rfl,⟨_,e,rfl⟩,call_meets F.slot_list_mul ⟨_,e,rfl⟩ F.entry_list_mul (F.args_list_mul_2 _ _) (AutoListH.list___mul___list_int_3 l its.toArray n k t hfit hcap hlong) ⟨e,?_⟩⟩)
  rw [hnew]
  exact ⟨.ref _,_,I.lnew (t':=s.toks) (r.rep k.toNat) (by rw [len_rep,Nat.mul_comm]; exact hz),rfl,q _ I.fresh⟩
end
section
variable {prog:Program} {w:World} {A:Around} {E:Value→Shared→Prop} {s:Shared}
end
section
variable {X:Cx}
end
end L2
namespace Att
open PySem PySem.W PySem.Calls PyProof.Rows
theorem ints_of_wellAll {P:Params} {h:Heap}:∀ (ns:List Int) (vs:List Value),WellAll P h vs (ns.map WData.int)→IntsAre vs ns:=by
  intro ns
  induction ns with
  | nil =>
    intro vs w
    rw [List.map_nil] at w
    cases w
    exact .nil
  | cons n ns ih =>
    intro vs w
    rw [List.map_cons] at w
    cases w with
    | cons a b =>
      cases a
      exact .cons _ _ (ih _ b)
theorem script_of {l:OpenLaw} {n:Nat} (hn:l.most=some n) {P:Params} {h:Heap} {args:List WData} {vals:List Value}
    (hpre:l.row.toRowW.claim.pre args=true) (hwl:WellAll P h vals args) :
    ∃ a vs ns,vals=[Value.ref a]∧args=[WData.list (ns.map WData.int)]∧h.get? a=some { cls:=.type "list",data:=.seq vs.toArray }∧IntsAre vs ns∧ns.length≤n:=by
  have hsh:WShape.hasAll [] args [.list .int]=true:=(pre_splitW hpre).1
  have hc:l.pre.holds [] { args:=args }=true:=(pre_splitW hpre).2
  obtain ⟨d,r,rfl,h1,h2⟩:=hasAllW_cons hsh
  obtain rfl:=hasAllW_nil h2
  obtain ⟨xs,rfl,h3⟩:=hasW_list h1
  obtain ⟨ns,rfl⟩:=items_int h3
  have hlen:ns.length≤n:=by
    unfold OpenLaw.pre at hc
    have h4:(WTm.not (.lt (.lit (.int (n:Int))) (.len (.arg 0)))).holds [] { args:=[.list (ns.map .int)] }=true:=by
      have h4:=(holds_andW hc).1
      rw [hn] at h4
      exact h4
    have h5:=condW_of h4 (w_not (w_lt w_lit (w_len_list (w_arg rfl))))
    rw [List.length_map] at h5
    refine Nat.le_of_not_lt fun q=>?_
    have q':(n:Int) < ((ns.length:Nat):Int):=by omega
    first
      | (rw [decide_eq_true q'] at h5; exact absurd h5 (by decide))
      | (simp at h5; omega)
  cases hwl with
  | cons w1 w2 =>
    cases w2
    cases w1 with
    | list ho hall=>exact ⟨_,_,ns,rfl,rfl,ho,ints_of_wellAll ns _ hall,hlen⟩
theorem post_true (l:OpenLaw) (args:List WData):l.row.toRowW.claim.post args (.bool true) args=true :=
  postW_of (r:=l.row.toRowW) (X:=(true==true))
    (show WShape.has [] (.bool true) .bool=true by first | rfl | decide | simp [WShape.has,WShape.arms,WShape.armsAll])
    (show (WTm.eq .res (.lit (.bool true))).value [] { args:=args,res:=some (.bool true),after:=args }=some (.bool (true==true)) from w_eq_bool (w_res rfl) w_lit) rfl
theorem attach_call {l:OpenLaw} {n:Nat} {q:Program} {loose:List Str} {XP:(Str→Option Value)→Heap→Prop} {YP:World→Heap→Prop} {d:DefRec}
    (hn:l.most=some n) (hdf:d.params.defaults=[])
    (call:∀ (w:World) (s₀ s₁:Shared) (mg mb:Str→Option Value) (fa:Addr) (o:Obj) (pm cd doc:Value) (a:Addr) (vs:List Value) (ns:List Int),
      Ground q loose [] XP w s₀ mg mb s₁.heap→YP w s₁.heap →
      s₁.heap.get? fa=some o→o.data=.func (docDef d.name d.params d.body d.scope pm cd doc)→s₁.heap.CodeRec cd d.name→mg d.name=some (.ref fa) →
      s₁.heap.get? a=some { cls:=.type "list",data:=.seq vs.toArray }→IntsAre vs ns→ns.length≤n→s₁.gens=#[] →
      codeAny (model l.prog w) callerA (.call (.ref fa) ⟨[.ref a],[]⟩) (fun r s'=>r=.ok (.ret (.bool true))∧OldK s₁.heap s'.heap∧s'.os=s₁.os∧AllBare s'.gens) s₁) :
    WalkO q loose XP YP l.row.toRowW d [] (fun f vs=>PySem.call f vs):=by
  intro w s₀ s₁ mg mb G Y fa o pm cd doc dV kV ho hd hcd hD hmg hg args vals as hpre hlay hrd hwl hlo
  obtain rfl:dV=.none:=Dflts.none hD hdf
  obtain rfl:kV=.none:=Dflts.noKw hD
  obtain ⟨a,vs,ns,rfl,rfl,hobj,hints,hlen⟩:=script_of hn hpre hwl
  refine enter_call (codeAny_mono (call w s₀ s₁ mg mb fa o pm cd doc a vs ns G Y ho (fd_plain hd) hcd hmg hobj hints hlen hg) fun r s' hq=>?_)
  obtain ⟨rfl,h2,h3,h4⟩:=hq
  exact ⟨.inl ⟨.bool true,.bool true,[],rfl,fun _=>rfl,.bool true,post_true l _,fun _=>⟨List.Pairwise.nil,fun _ hm=>(nomatch hm)⟩⟩,h2,h3,h4⟩
section
variable {prog:Program} {w:World} {A:Around} {E:Value→Shared→Prop} {s:Shared} {K:Frag}
end
end Att
namespace L2
open PySem PySem.Spec PyProof.Rows
theorem vals_ints:∀ {vs:List Value} {ns:List Int},IntsAre vs ns→Vals (ns.map V.int) vs
  | _,_,.nil=>.nil
  | _,_,.cons n t h=>.cons ⟨t,rfl⟩ (vals_ints h)
def Only (H:Hp):Prop:=∀ b,H b=none∨∃ o xs,H b=some (.frz o (.lst xs))
theorem law_call {P:Program} {w:World} {K:PySem.W.Frag} {mg mb:Str→Option Value} {CX:CXT} {k:Nat} {fa a:Addr} {fd:FuncData} {x:Str} {sp:Sp} {s₁:Shared} {vs:List Value} {ns:List Int}
    (KX:K.In s₁.heap) (hns:s₁.heap.Ns mainGlobals mg) (hb:s₁.heap.Ns builtinsNs mb) (hbb:∀ x:Str,x ≠ "__name__"→mb x=bootBuiltins x) (hlim:s₁.heap.NoLimit) (hg:s₁.gens=#[])
    (ha:s₁.heap.get? a=some { cls:=.type "list",data:=.seq vs.toArray }) (hi:IntsAre vs ns) (hl:ns.length≤sizeLine) (hr:Room k callerA)
    (F:∀ base:Heap,K.In base→base.Ns mainGlobals mg→FnOk P w K mg base CX k fa fd [x] sp) (hbind:∀ (s:Shared) (u:Value),BindsTo s fd ⟨[u],[]⟩ [(x,u)])
    (hsp:∀ H:Hp,Only H→SqL K H a (ns.map V.int)→sp [.ref a] H (fun v _=>v=.bl true) fun _ _ _=>False)
    (hCX:∀ H e s',CX [] H s₁ (fun _ _ _=>False) e s'→False) :
    codeAny (model P w) callerA (.call (.ref fa) ⟨[.ref a],[]⟩) (fun r s'=>r=.ok (.ret (.bool true))∧OldK s₁.heap s'.heap∧s'.os=s₁.os∧AllBare s'.gens) s₁:=by
  have rv:=vals_ints hi
  have lenV:=hi.length
  have core:∀ H:Hp,Only H→SqL K H a (ns.map V.int)→HOk P w H s₁.heap→(∀ b,H b ≠ none→b=a)→(H a ≠ none→K.lookup a=none) →
      codeAny (model P w) callerA (.call (.ref fa) ⟨[.ref a],[]⟩) (fun r s'=>r=.ok (.ret (.bool true))∧OldK s₁.heap s'.heap∧s'.os=s₁.os∧AllBare s'.gens) s₁:=by
    intro H hO hS hok hA hK
    have base_of:∀ {b:Addr} {o:Obj},s₁.heap.get? b=some o→H b=none→(hidT s₁.heap H).get? b=some o:=fun e n=>hidT_get e n
    have noA:∀ {b:Addr} {o:Obj} {es:Array DictEntry} {ep:Nat},s₁.heap.get? b=some o→o.data=.dict es ep→H b=none:=fun {b o es ep} e d=>by
      cases q:H b with
      | none=>rfl
      | some u =>
        have e':b=a:=hA b (by rw [q]; simp)
        subst e'
        rw [ha] at e; cases e
        have d':Data.seq vs.toArray _=Data.dict es ep:=d
        cases d'
    have nsK:∀ {b:Addr} {m:Str→Option Value},s₁.heap.Ns b m→(hidT s₁.heap H).Ns b m:=fun {b m} ⟨o,es,ep,e,d,r⟩=>⟨o,es,ep,base_of e (noA e d),d,r⟩
    have hKb:K.In (hidT s₁.heap H):=fun b o e=>base_of (KX b o e) (by
      cases q:H b with
      | none=>rfl
      | some u =>
        have e':b=a:=hA b (by rw [q]; simp)
        subst e'
        rw [hK (by rw [q]; simp)] at e; cases e)
    have hM:Mod K mg (hidT s₁.heap H):=⟨hKb,nsK hns,⟨mb,nsK hb,hbb⟩,let ⟨mc,h1,h2⟩:=hlim; ⟨mc,nsK h1,h2⟩⟩
    have e0:Env0 P w K mg (hidT s₁.heap H) callerA [] s₁ H:=⟨rfl,hM,fun b o e=>of_hidT e,Nat.le_of_eq (hidT_size _ _),trivial,fun b hb=>absurd (show b∈([]:List Addr) from hb) (by simp),hok,.of_eq hg⟩
    refine codeAny_mono ((F _ hKb (nsK hns)).run callerA [] s₁ H ⟨[.ref a],[]⟩ [.ref a] [.ref a] _ _ hr e0 (hbind s₁ (.ref a)) (.cons rfl .nil) (hsp H hO hS)) fun r s' h=>?_
    cases r with
    | error e=>exact (hCX H e s' h).elim
    | ok fl =>
      cases fl with
      | next=>exact False.elim h
      | brk=>exact False.elim h
      | cont=>exact False.elim h
      | ret u =>
        obtain ⟨v,H',os,bare,un,hok',r',q⟩:=h
        have q':v=.bl true:=q
        subst q'
        obtain rfl:u=Value.bool true:=r'
        refine ⟨rfl,OldK.of_keep fun b o e=>?_,os,bare⟩
        cases q:H b with
        | none=>exact un.keep b o e q (by intro z; exact absurd (show b∈([]:List Addr) from z) (by simp)) (by simp)
        | some u =>
          rcases hO b with z | ⟨ob,xs,z⟩
          · rw [q] at z; cases z
          · have z2:=un.frzs b ob _ z
            obtain ⟨e1,_⟩:=hok b _ z
            obtain ⟨e2,_⟩:=hok' b _ z2
            rw [e] at e1; cases e1
            exact e2
  cases hk:K.lookup a with
  | some o =>
    have e:=KX a o hk
    rw [ha] at e
    cases e
    refine core (fun _=>none) (fun _=>.inl rfl) (.inr ⟨_,vs.toArray,_,hk,rfl,rfl,rfl,by rw [List.size_toArray,lenV]; exact hl,by simpa using rv⟩) (fun b u z=>by have z':(none:Option HO)=some u:=z; cases z') (fun b z=>absurd rfl z) fun z=>absurd rfl z
  | none =>
    refine core (fun b=>if b=a then some (.frz { cls:=.type "list",data:=.seq vs.toArray } (.lst (ns.map V.int))) else none) (fun b=>?_) (.inl (.inr ⟨{ cls:=.type "list",data:=.seq vs.toArray },if_pos rfl⟩)) (fun b u z=>?_) (fun b z=>?_) fun _=>hk
    · by_cases hb:b=a
      · exact .inr ⟨_,_,if_pos hb⟩
      · exact .inl (if_neg hb)
    · by_cases hb:b=a
      · have z':=(if_pos hb).symm.trans z
        cases z'
        subst hb
        exact ⟨ha,by rw [List.length_map]; exact hl,vs,_,rv,ha⟩
      · have z':=(if_neg hb).symm.trans z
        cases z'
    · by_cases hb:b=a
      · exact hb
      · exact absurd (if_neg hb) z
end L2
namespace L2
open PySem PySem.Spec PyProof.Rows
theorem walk_of {l:PySem.W.OpenLaw} {n k:Nat} {q:Program} {loose:List Str} {XP:(Str→Option Value)→Heap→Prop} {YP:World→Heap→Prop} {d:DefRec} {K:Params→PySem.W.Frag} {CX:World→CXT} {sp:World→Sp} {x:Str}
    (hn:l.most=some n) (hn2:n≤sizeLine) (hdf:d.params.defaults=[]) (hr:Room k callerA)
    (hY:∀ (w:World) (h:Heap),YP w h→(K w.params).In h)
    (F:∀ (w:World) (mg:Str→Option Value) (fa:Addr) (h:Heap),(K w.params).In h→h.Ns mainGlobals mg→mg d.name=some (.ref fa) →
      ∃ fd:FuncData,(∀ (s:Shared) (u:Value),BindsTo s fd ⟨[u],[]⟩ [(x,u)]) ∧
        ∀ base:Heap,(K w.params).In base→base.Ns mainGlobals mg→FnOk l.prog w (K w.params) mg base (CX w) k fa fd [x] (sp w))
    (hsp:∀ (w:World) (H:Hp) (a:Addr) (ns:List Int),ns.length≤n→Only H→SqL (K w.params) H a (ns.map V.int)→sp w [.ref a] H (fun v _=>v=.bl true) fun _ _ _=>False)
    (hCX:∀ (w:World) (H:Hp) (s:Shared) (e:Value) (s':Shared),CX w [] H s (fun _ _ _=>False) e s'→False) :
    PySem.W.WalkO q loose XP YP l.row.toRowW d [] (fun f vs=>PySem.call f vs):=by
  refine Att.attach_call hn hdf fun w s₀ s₁ mg mb fa o pm cd doc a vs ns G Y ho hd hcd hmg hobj hints hlen hg=>?_
  have KX:=hY w _ Y
  obtain ⟨fd,hb,hF⟩:=F w mg fa _ KX G.T.g hmg
  exact law_call KX G.T.g G.T.b G.T.builtins G.T.nolimit hg hobj hints (Nat.le_trans hlen hn2) hr hF hb (fun H hO hS=>hsp w H a ns hlen hO hS) fun H e s'=>hCX w H s₁ e s'
end L2
namespace L2
open PySem PySem.Spec PyProof.Rows
def defArgs (s:Stmt):Arguments:=match s with
  | .FunctionDef _ a _ _ _ _ _ _ _ _=>a
  | _=>{ posonlyargs:=[],args:=[],vararg:=none,kwonlyargs:=[],kw_defaults:=[],kwarg:=none,defaults:=[] }
def defBody (s:Stmt):List Stmt:=match s with
  | .FunctionDef _ _ b _ _ _ _ _ _ _=>b
  | _=>[]
def defScope (s:Stmt):Scope:=match s with
  | .FunctionDef _ _ _ _ _ _ sc _ _ _=>sc
  | _=>{ kind:=.function,names:=[],isGenerator:=false,isCoroutine:=false }
abbrev CX0:CXT:=fun _ _ _ _ _ _=>False
abbrev E0:XK:=fun _ _ _=>False
theorem pass0 {X:Cx}:Passes CX0 X E0:=fun _ _ _ _ _ _ _ h=>h.elim
structure Fun (K:PySem.W.Frag) (x qual:Str) (st:Stmt) (f:Addr) (fd:FuncData):Prop where
  ex:∃ (oc:Value) (od:Option Addr) (kV doc pm:Value) (an:Option Addr) (cdv ct:Value) (osl:Array (Option Value)),
    fd=PySem.W.fnOf x qual (defArgs st) (defBody st) (defScope st) .none kV doc pm an cdv ct∧K.lookup f=some ⟨oc,od,.func fd,osl⟩∧PySem.W.codeIn K cdv qual=true
  kp:PySem.W.keepIn K (.ref f)=true
section
variable {P:Program} {w:World} {K:PySem.W.Frag} {mg:Str→Option Value} {base:Heap}
theorem Fun.ok {x qual:Str} {st:Stmt} {f:Addr} {fd:FuncData} {N ps:List Str} {k:Nat} {sp:Sp} (F:Fun K x qual st f fd) (S:FnScope N ps (defScope st)) (len:∀ vs H Q E,sp vs H Q E→vs.length=ps.length)
    (hbody:∀ (cdv:Value) (A:Around) (outer:List Env) (s:Shared) (H:Hp) (vs:List V) (Q:VK) (E:XK),Room k (A.deeper (envOfC qual (defScope st) s.heap.objs.size f cdv))→sp vs H Q E →
      ∃ t,PSs (cxOf CX0 P w K mg base N qual (defScope st) f cdv A outer s H E).nox (defBody st) t∧t { nx:=fun _ H'=>Q .non H',rt:=Q } (start N vs) H):FnOk P w K mg base CX0 (k + 1) f fd ps sp:=by
  obtain ⟨oc,od,kV,doc,pm,an,cdv,ct,osl,rfl,lk,hcd⟩:=F.ex
  refine fn_of lk hcd S len fun A outer s H vs Q E hr hsp=>?_
  obtain ⟨t,h,q⟩:=hbody cdv A outer s H vs Q E hr hsp
  exact ⟨t,h.nox,q⟩
theorem Fun.binds {x qual:Str} {st:Stmt} {f:Addr} {fd:FuncData} {ps:List Str} (F:Fun K x qual st f fd)
    (h:∀ (kV doc pm:Value) (an:Option Addr) (cdv ct:Value) (us:List Value),us.length=ps.length→bindArgs (PySem.W.fnOf x qual (defArgs st) (defBody st) (defScope st) .none kV doc pm an cdv ct) ⟨us,[]⟩=pure (ps.zip us)):Binds K fd ps []:=by
  obtain ⟨oc,od,kV,doc,pm,an,cdv,ct,osl,rfl,lk,hcd⟩:=F.ex
  exact .all (h kV doc pm an cdv ct)
theorem fun_mk {x qual:Str} {st:Stmt} {f:Addr} {oc:Value} {od an:Option Addr} {osl:Array (Option Value)} {kV doc pm cdv ct:Value} (l:K.lookup f=some ⟨oc,od,.func (PySem.W.fnOf x qual (defArgs st) (defBody st) (defScope st) .none kV doc pm an cdv ct),osl⟩)
    (c:PySem.W.codeIn K cdv qual=true) (k:PySem.W.keepIn K (.ref f)=true):Fun K x qual st f (PySem.W.fnOf x qual (defArgs st) (defBody st) (defScope st) .none kV doc pm an cdv ct):=⟨⟨oc,od,kV,doc,pm,an,cdv,ct,osl,rfl,l,c⟩,k⟩
end
section
variable {X:Cx}
end
def Same (H H':Hp):Prop:=∀ b o,H b=some o→H' b=some o
theorem Same.refl (H:Hp):Same H H:=fun _ _ h=>h
theorem Same.trans {H H1 H2:Hp} (a:Same H H1) (b:Same H1 H2):Same H H2:=fun c o h=>b c o (a c o h)
theorem Same.free {H H':Hp} (e:Same H H') {l:Addr} (h:H' l=Option.none):H l=Option.none:=by
  cases q:H l with
  | none=>rfl
  | some o =>
    rw [e l o q] at h
    cases h
theorem Same.seq {K:PySem.W.Frag} {H H':Hp} {a:Addr} {xs:List V} (e:Same H H') (h:SqL K H a xs):SqL K H' a xs:=by
  rcases h with (h | ⟨o,h⟩) | h
  · exact .inl (.inl (e _ _ h))
  · exact .inl (.inr ⟨o,e _ _ h⟩)
  · exact .inr h
end L2
set_option Elab.async false
set_option linter.all false
set_option maxRecDepth 100000
namespace L2
open PySem PySem.Spec PyProof.Rows
end L2
namespace L2
open PySem PySem.Spec PyProof.Rows
section
variable (P:Program) (w:World)
end
section
variable {P:Program} {w:World} {H H':Hp} {h h':Heap} {a:Addr} {o:HO}
end
section
variable {P:Program} {w:World} {H:Hp} {h h':Heap} {x e:Addr} {o':HO}
end
section
variable {fs fs' ex ex':List Addr} {H H1 H2:Hp} {h h1 h2 h':Heap} {a x e:Addr} {o:HO}
end
end L2
namespace L2
open PySem PySem.Spec PyProof.Rows
section
variable {X:Cx} {pins:List (Addr × Obj)} {σ:List (Option V)} {H H':Hp} {s:Shared} {h':Heap}
end
end L2
namespace L2
open PySem PySem.Spec PyProof.Rows
section
variable {X:Cx}
variable {a b:Expr} {ta tb:TE} {pos:Pos}
variable {tA tB':TT} {rest:List Expr}
end
end L2
namespace L2
open PySem PySem.Spec PyProof.Rows
section
variable {X:Cx} {pins:List (Addr × Obj)} {σ:St} {H:Hp} {s:Shared} {a:Addr} {xs ys:List V}
end
section
variable {X:Cx} {pins:List (Addr × Obj)} {σ:St} {H:Hp} {s:Shared} {E:Value→Shared→Prop}
end
section
variable {X:Cx} {st:Stmt} {rest:List Stmt} {t u:TS} {e:Expr} {te:TE} {pos:Pos}
end
section
variable {X:Cx} {pos:Pos}
end
section
variable {X:Cx} {pos:Pos}
end
end L2
namespace L2
open PySem PySem.Spec PyProof.Rows
section
variable {X:Cx} {tg:Expr}
end
end L2
namespace L2
open PySem PySem.Spec PyProof.Rows
section
variable {X:Cx} {a b c:Expr} {ta tb tc:TE} {pos:Pos}
end
section
variable {X:Cx} {a b c:Expr} {ta tb tc:TE} {pos:Pos}
end
end L2
namespace L2
open PySem PySem.Spec PyProof.Rows
section
variable {prog:Program} {w:World} {A:Around} {E:Value→Shared→Prop} {s:Shared} {K:PySem.W.Frag} {x dx C f:Addr} {mA:Str→Option Value} {name:Str} {v:Value}
end
section
variable {P:Program} {w:World} {H H':Hp} {h h':Heap} {a C dx:Addr} {fs fs':List (Str × V)}
end
section
variable {X:Cx} {pins:List (Addr × Obj)} {σ:St} {H:Hp} {s:Shared} {a C dx:Addr} {fs:List (Str × V)} {f:Str} {v:V} {A:Around} {E:Value→Shared→Prop}
end
section
variable {X:Cx} {o e value:Expr} {f:Str} {pos pos' tpos:Pos} {ta tv:TE}
end
section
variable {X:Cx} {pins:List (Addr × Obj)} {σ:St} {H:Hp} {s:Shared} {A:Around} {E:Value→Shared→Prop} {Q:Value→Shared→Prop} {c:Value} {b:Bool}
end
end L2
namespace L2
open PySem PySem.Spec PyProof.Rows
section
variable {X:Cx} {e:Expr} {es:List Expr} {te:TE} {t:TA} {pos:Pos}
end
section
variable {X:Cx} {pins:List (Addr × Obj)} {σ:St} {H:Hp} {s s':Shared}
end
section
variable {X:Cx} {CX:CXT} {k:Nat} {f C:Addr} {fd:FuncData} {ps:List Str} {sp:Sp} {dvs:List V} {ds:List Value} {E:XK} {x m:Str} {p pos apos:Pos} {e o:Expr} {es:List Expr} {ta:TE} {t:TA}
end
section
variable {X:Cx} {CX:CXT} {k:Nat} {f C:Addr} {fd:FuncData} {ps ks:List Str} {sp:Sp} {E:XK} {x m:Str} {p pos apos kpos:Pos} {e o:Expr} {es:List Expr} {kws:List Keyword} {te ta:TE} {t tk:TA} {nm:Option Str}
variable {g:List Value→List Value→List Value} {gV:List V→List V→List V}
end
end L2
namespace L2
open PySem PySem.Spec PyProof.Rows
section
variable {X:Cx} {x:Str} {p pos:Pos} {e:Expr} {es:List Expr} {t:TA} {id T:String} {r:List V→Hp→VK→Prop}
end
end L2
namespace L2
open PySem PySem.Spec PyProof.Rows
section
variable {κ:Type} [DecidableEq κ]
def valV (kvs:List (κ × V)) (k:κ):Option V:=(kvs.find? fun kv=>decide (kv.1=k)).map (·.2)
def putK (kvs:List (κ × V)) (k:κ) (v:V):List (κ × V) :=
  if (kvs.any fun kv=>decide (kv.1=k))=true then kvs.map (fun kv=>if kv.1=k then (kv.1,v) else kv) else kvs++[(k,v)]
def dropK (kvs:List (κ × V)) (k:κ):List (κ × V):=kvs.filter fun kv=>decide (kv.1 ≠ k)
theorem valV_pos {p:κ × V} {r:List (κ × V)} {k:κ} (e:p.1=k):valV (p::r) k=some p.2:=by simp [valV,List.find?_cons,e]
theorem valV_neg {p:κ × V} {r:List (κ × V)} {k:κ} (e:¬ p.1=k):valV (p::r) k=valV r k:=by simp [valV,List.find?_cons,e]
theorem valV_any (k:κ):∀ kvs:List (κ × V),(kvs.any fun kv=>decide (kv.1=k))=(valV kvs k).isSome
  | []=>rfl
  | p::r=>by
    rw [List.any_cons]
    by_cases e:p.1=k
    · simp only [valV_pos e,decide_eq_true e,Bool.true_or,Option.isSome_some]
    · rw [valV_neg e,decide_eq_false e,Bool.false_or]; exact valV_any k r
theorem RelO.isSome_eq {o:Option V} {u:Option Value} (r:RelO o u):o.isSome=u.isSome:=by
  cases o with
  | none=>cases u with
    | none=>rfl
    | some _=>exact (show False from r).elim
  | some _=>cases u with
    | none=>exact (show False from r).elim
    | some _=>rfl
theorem RelO.getD {o:Option V} {u:Option Value} {d:V} {d':Value} (r:RelO o u) (rd:RelV d d'):RelV (o.getD d) (u.getD d'):=by
  cases o with
  | none=>cases u with
    | none=>exact rd
    | some _=>exact (show False from r).elim
  | some _=>cases u with
    | none=>exact (show False from r).elim
    | some _=>exact r
theorem KV.val {kvs:List (κ × V)} {vs:List (κ × Value)} (r:KV kvs vs) (k:κ):RelO (valV kvs k) (valueAt vs k):=by
  unfold KV at r
  induction r with
  | nil=>exact True.intro
  | @cons p q ps qs h t ih =>
    obtain ⟨h1,h2⟩:=h
    by_cases e:p.1=k
    · have e':q.1=k:=h1.symm.trans e
      have b:valueAt (q::qs) k=some q.2:=by simp [valueAt,List.find?_cons,e']
      rw [valV_pos e,b]; exact h2
    · have e':¬ q.1=k:=fun z=>e (h1.trans z)
      have b:valueAt (q::qs) k=valueAt qs k:=by simp [valueAt,List.find?_cons,e']
      rw [valV_neg e,b]; exact ih
theorem KV.any {kvs:List (κ × V)} {vs:List (κ × Value)} (r:KV kvs vs) (k:κ):(kvs.any fun kv=>decide (kv.1=k))=vs.any fun kv=>decide (kv.1=k):=by
  unfold KV at r
  induction r with
  | nil=>rfl
  | cons h t ih=>rw [List.any_cons,List.any_cons,ih,h.1]
theorem KV.repl {kvs:List (κ × V)} {vs:List (κ × Value)} (r:KV kvs vs) (k:κ) {y:V} {u:Value} (ry:RelV y u) :
    KV (kvs.map fun kv=>if kv.1=k then (kv.1,y) else kv) (vs.map fun kv=>if kv.1=k then (kv.1,u) else kv):=by
  unfold KV at r ⊢
  induction r with
  | nil=>exact .nil
  | @cons p q ps qs h t ih =>
    rw [List.map_cons,List.map_cons]
    refine .cons ?_ ih
    obtain ⟨h1,h2⟩:=h
    by_cases e:p.1=k
    · rw [if_pos e,if_pos (h1.symm.trans e)]; exact ⟨h1,ry⟩
    · rw [if_neg e,if_neg (fun z=>e (h1.trans z))]; exact ⟨h1,h2⟩
theorem KV.put {kvs:List (κ × V)} {vs:List (κ × Value)} (r:KV kvs vs) (k:κ) {y:V} {u:Value} (ry:RelV y u):KV (putK kvs k y) (stored vs k u):=by
  unfold putK stored
  rw [r.any k]
  by_cases e:(vs.any fun kv=>decide (kv.1=k))=true
  · rw [if_pos e,if_pos e]; exact r.repl k ry
  · rw [if_neg e,if_neg e]; exact Paired.snoc r ⟨rfl,ry⟩
theorem KV.drop {kvs:List (κ × V)} {vs:List (κ × Value)} (r:KV kvs vs) (k:κ):KV (dropK kvs k) (without vs k):=by
  unfold KV at r ⊢
  unfold dropK without
  induction r with
  | nil=>exact .nil
  | @cons p q ps qs h t ih =>
    obtain ⟨h1,h2⟩:=h
    rw [List.filter_cons,List.filter_cons]
    by_cases e:p.1=k
    · have a:¬ decide (p.1 ≠ k)=true:=by simp [e]
      have b:¬ decide (q.1 ≠ k)=true:=by simp [h1.symm.trans e]
      rw [if_neg a,if_neg b]; exact ih
    · have e':¬ q.1=k:=fun z=>e (h1.trans z)
      have a:decide (p.1 ≠ k)=true:=by simp [e]
      have b:decide (q.1 ≠ k)=true:=by simp [e']
      rw [if_pos a,if_pos b]; exact .cons ⟨h1,h2⟩ ih
theorem KV.length {kvs:List (κ × V)} {vs:List (κ × Value)} (r:KV kvs vs):kvs.length=vs.length:=Paired.length r
end
abbrev KT (H:Hp):List (List Key × V)→List (List Key × Addr × Value)→Prop:=Paired fun p q=>p.1=q.1∧H q.2.1=some (.tup (p.1.map kV))∧RelV p.2 q.2.2
theorem KT.val {H:Hp} {kvs:List (List Key × V)} {xs:List (List Key × Addr × Value)} (r:KT H kvs xs) (k:List Key):RelO (valV kvs k) ((atKey xs k).map (·.2)):=by
  induction r with
  | nil=>exact True.intro
  | @cons p q ps qs h t ih =>
    obtain ⟨h1,_,h2⟩:=h
    by_cases e:p.1=k
    · have e':q.1=k:=h1.symm.trans e
      have b:atKey (q::qs) k=some q.2:=by simp [atKey,List.find?_cons,e']
      rw [valV_pos e,b]; exact h2
    · have e':¬ q.1=k:=fun z=>e (h1.trans z)
      have b:atKey (q::qs) k=atKey qs k:=by simp [atKey,List.find?_cons,e']
      rw [valV_neg e,b]; exact ih
theorem KT.repl {H:Hp} {kvs:List (List Key × V)} {xs:List (List Key × Addr × Value)} (r:KT H kvs xs) (k:List Key) {y:V} {u:Value} (ry:RelV y u) :
    KT H (kvs.map fun kv=>if kv.1=k then (kv.1,y) else kv) (xs.map (putAt k u)):=by
  induction r with
  | nil=>exact .nil
  | @cons p q ps qs h t ih =>
    rw [List.map_cons,List.map_cons]
    refine .cons ?_ ih
    obtain ⟨h1,h2,h3⟩:=h
    unfold putAt
    by_cases e:p.1=k
    · rw [if_pos e,if_pos (h1.symm.trans e)]; exact ⟨h1,h2,ry⟩
    · rw [if_neg e,if_neg (fun z=>e (h1.trans z))]; exact ⟨h1,h2,h3⟩
theorem KT.put {H:Hp} {kvs:List (List Key × V)} {xs:List (List Key × Addr × Value)} (r:KT H kvs xs) (k:List Key) {b:Addr} {y:V} {u:Value} (hb:H b=some (.tup (k.map kV))) (ry:RelV y u) :
    KT H (putK kvs k y) (storedH xs k b u):=by
  have e:(kvs.any fun kv=>decide (kv.1=k))=(atKey xs k).isSome:=by
    rw [valV_any,(r.val k).isSome_eq,Option.isSome_map]
  unfold putK storedH
  rw [e]
  by_cases q:(atKey xs k).isSome=true
  · rw [if_pos q,if_pos q]; exact r.repl k ry
  · rw [if_neg q,if_neg q]; exact Paired.snoc r ⟨rfl,hb,ry⟩
theorem KT.keeps {H H':Hp} {kvs:List (List Key × V)} {xs:List (List Key × Addr × Value)} (r:KT H kvs xs) (ht:∀ b ys,H b=some (.tup ys)→H' b=some (.tup ys)):KT H' kvs xs :=
  Paired.mapP r fun _ _ z=>⟨z.1,ht _ _ z.2.1,z.2.2⟩
section
variable {P:Program} {w:World} {H:Hp} {h:Heap} {a:Addr}
end
def DGet (H:Hp) (a:Addr) (y:V) (r:Option V):Prop :=
  (∃ kvs k,Rd H a (.dK kvs)∧y=kV k∧r=valV kvs k)∨∃ kvs k b,Rd H a (.dT kvs)∧y=.ref b∧H b=some (.tup (k.map kV))∧r=valV kvs k
def DPut (H:Hp) (a:Addr) (y v:V) (H':Hp):Prop :=
  (∃ kvs k,H a=some (.dK kvs)∧y=kV k∧kvs.length < sizeLine∧H'=upd H a (.dK (putK kvs k v))) ∨
  ∃ kvs k b,H a=some (.dT kvs)∧y=.ref b∧H b=some (.tup (k.map kV))∧kvs.length < sizeLine∧H'=upd H a (.dT (putK kvs k v))
theorem DGet.t {H:Hp} {a b:Addr} {kvs:List (List Key × V)} {k:List Key} (e:H a=some (.dT kvs)) (eb:H b=some (.tup (k.map kV))):DGet H a (.ref b) (valV kvs k):=.inr ⟨kvs,k,b,.inl e,rfl,eb,rfl⟩
theorem DPut.t {H:Hp} {a b:Addr} {kvs:List (List Key × V)} {k:List Key} {v:V} (e:H a=some (.dT kvs)) (eb:H b=some (.tup (k.map kV))) (hl:kvs.length < sizeLine) :
    DPut H a (.ref b) v (upd H a (.dT (putK kvs k v))):=.inr ⟨kvs,k,b,e,rfl,eb,hl,rfl⟩
section
variable {X:Cx} {pins:List (Addr × Obj)} {σ:St} {H:Hp} {s:Shared} {a:Addr} {y v:V} {u r:Value} {o:Option V} {A:Around} {E:Value→Shared→Prop}
end
section
variable {X:Cx} {pins:List (Addr × Obj)} {σ:St} {H:Hp} {s:Shared} {a:Addr} {kvs:List (Key × V)} {k:Key} {u:Value} {A:Around} {E:Value→Shared→Prop}
end
section
variable {X:Cx} {o i e value:Expr} {pos pos' tpos:Pos} {td ty tv:TE}
end
section
variable {X:Cx} {pos:Pos}
end
structure M1 (X:Cx) (o:Expr) (m:Str) (apos:Pos) (e:Expr) (cpos:Pos):Prop where
  base:attributeBase o m X.env (eval o X.env)=eval o X.env
  few:((backTo cpos (starEach [e] X.env)).all (fun x=>!x.1) && (backToKw cpos (keywordEach [] X.env)).all (fun x=>x.1.isSome)
    && decide (([e]:List Expr).length + ([]:List Keyword).length + (if ([]:List Keyword).isEmpty then 0 else 1) < 30))=true
  line:(apos.endLine==cpos.line)=true
  trees:backTo cpos (starEach [e] X.env)=[(false,eval e X.env)]
structure M2 (X:Cx) (o:Expr) (m:Str) (apos:Pos) (e f:Expr) (cpos:Pos):Prop where
  base:attributeBase o m X.env (eval o X.env)=eval o X.env
  few:((backTo cpos (starEach [e,f] X.env)).all (fun x=>!x.1) && (backToKw cpos (keywordEach [] X.env)).all (fun x=>x.1.isSome)
    && decide (([e,f]:List Expr).length + ([]:List Keyword).length + (if ([]:List Keyword).isEmpty then 0 else 1) < 30))=true
  line:(apos.endLine==cpos.line)=true
  trees:backTo cpos (starEach [e,f] X.env)=[(false,eval e X.env),(false,eval f X.env)]
section
variable {X:Cx} {pins:List (Addr × Obj)} {σ:St} {H:Hp} {s:Shared} {a:Addr} {y d:V} {u r:Value} {o:Option V} {A:Around} {E:Value→Shared→Prop}
end
section
variable {X:Cx} {o e f:Expr} {apos cpos:Pos} {td ty tx:TE}
end
section
variable {X:Cx} {pins:List (Addr × Obj)} {σ:St} {H:Hp} {s:Shared} {a:Addr} {kvs:List (Key × V)} {A:Around} {E:Value→Shared→Prop}
end
section
variable {X:Cx} {pins:List (Addr × Obj)} {σ:St} {H:Hp} {s:Shared} {a:Addr} {y:V} {u:Value} {A:Around} {E:Value→Shared→Prop}
end
end L2
namespace Att
open PySem PySem.W PySem.Calls PyProof.Rows
section
variable {prog:Program} {w:World} {A:Around} {E:Value→Shared→Prop} {s:Shared} {K:Frag}
end
end Att
namespace L2
open PySem PySem.Spec PyProof.Rows
end L2
namespace L2
open PySem PySem.Spec PyProof.Rows
end L2
namespace L2
open PySem PySem.Spec PyProof.Rows
section
variable {P:Program} {w:World} {K:PySem.W.Frag} {mg:Str→Option Value} {base:Heap}
end
section
variable {X:Cx}
end
section
variable {κ:Type} [DecidableEq κ]
end
end L2
set_option Elab.async false
set_option linter.all false
set_option maxRecDepth 100000
set_option maxHeartbeats 4000000
namespace L2
open PySem PySem.Spec PyProof.Rows
theorem closure_gen {env:Env}:∀ (names:List (Str × NameKind)) (acc:List (Str × Addr)),
    (∀ y∈names,y.2=.free→∃ c,env.cells.lookup y.1=some c)→(∀ y c,acc.lookup y=some c→env.cells.lookup y=some c) →
    ∃ cl,(forIn names acc fun (x:Str × NameKind) (cs:List (Str × Addr))=>if (x.2==NameKind.free)=true then (do let c ← cellOf env x.1; pure (ForInStep.yield ((x.1,c)::cs)):Sem _) else pure (ForInStep.yield cs))=pure cl ∧
      (∀ y c,cl.lookup y=some c→env.cells.lookup y=some c)∧(∀ y c,acc.lookup y=some c→∃ c',cl.lookup y=some c')∧∀ y∈names,y.2=.free→∃ c,cl.lookup y.1=some c
  | [],acc,_,ha=>⟨acc,rfl,ha,fun y c e=>⟨c,e⟩,fun _ h=>nomatch h⟩
  | (n,k)::r,acc,hn,ha=>by
    by_cases hk:k=.free
    · subst hk
      obtain ⟨c,hc⟩:=hn (n,.free) List.mem_cons_self rfl
      have hc:env.cells.lookup n=some c:=hc
      obtain ⟨cl,e,h1,h2,h3⟩:=closure_gen r ((n,c)::acc) (fun y hy=>hn y (List.mem_cons_of_mem _ hy)) (fun y c' e=>by
        rw [List.lookup_cons] at e
        cases hq:y==n with
        | true=>rw [hq] at e; cases e; rw [eq_of_beq hq]; exact hc
        | false=>rw [hq] at e; exact ha y c' e)
      have hself:List.lookup n ((n,c)::acc)=some c:=by simp [List.lookup_cons]
      refine ⟨cl,?_,h1,fun y c' e'=>?_,fun y hy hf=>?_⟩
      · rw [List.forIn_cons]
        have e1:cellOf env n=pure c:=by unfold cellOf; rw [hc]
        simp only [beq_self_eq_true,if_true,e1,pure_bind]
        exact e
      · cases hq:y==n with
        | true=>rw [eq_of_beq hq]; exact h2 n c hself
        | false=>exact h2 y c' (by rw [List.lookup_cons,hq]; exact e')
      · rcases List.mem_cons.mp hy with rfl | hy
        · exact h2 n c hself
        · exact h3 y hy hf
    · obtain ⟨cl,e,h1,h2,h3⟩:=closure_gen r acc (fun y hy=>hn y (List.mem_cons_of_mem _ hy)) ha
      refine ⟨cl,?_,h1,h2,fun y hy hf=>?_⟩
      · rw [List.forIn_cons]
        have hb:(k==NameKind.free)=false:=by cases k <;> first | rfl | exact absurd rfl hk
        simp only [hb,Bool.false_eq_true,if_false,pure_bind]
        exact e
      · rcases List.mem_cons.mp hy with rfl | hy
        · exact absurd hf hk
        · exact h3 y hy hf
theorem closure_ok {sc:Scope} {env:Env} (h:∀ y∈sc.names,y.2=.free→∃ c,env.cells.lookup y.1=some c) :
    ∃ cl,closureFor sc env=pure cl∧(∀ y c,cl.lookup y=some c→env.cells.lookup y=some c)∧∀ y∈sc.names,y.2=.free→∃ c,cl.lookup y.1=some c:=by
  obtain ⟨cl,e,h1,_,h3⟩:=closure_gen (env:=env) sc.names [] h (fun y c e=>by simp at e)
  refine ⟨cl,?_,h1,h3⟩
  unfold closureFor
  rw [show (pure cl:Sem _)=(pure cl >>= fun cs=>pure cs) by rw [pure_bind],← e]
theorem lookup_relabel_kind {env:Env}:∀ {names:List (Str × NameKind)} {x:Str} {k:NameKind},
    (names.map fun (n,k)=>if (k==NameKind.free && env.scope.kind==.function && env.kindOf n==some .cell) then (n,NameKind.cell) else (n,k)).lookup x=some k →
    names.lookup x=some k∨(names.lookup x=some .free∧k=.cell)
  | [],_,_,h=>by simp at h
  | (n,k0)::r,x,k,h=>by
    have ih:=@lookup_relabel_kind env r x k
    have h:List.lookup x ((if (k0==NameKind.free && env.scope.kind==.function && env.kindOf n==some .cell)=true then (n,NameKind.cell) else (n,k0))::_)=_:=h
    cases hx:x==n with
    | true =>
      by_cases hc:(k0==NameKind.free && env.scope.kind==.function && env.kindOf n==some .cell)=true
      · rw [if_pos hc] at h
        simp only [List.lookup_cons,hx] at h ⊢
        simp only [Bool.and_eq_true,beq_iff_eq] at hc
        cases h
        exact .inr ⟨by rw [hc.1.1],rfl⟩
      · rw [if_neg hc] at h
        simp only [List.lookup_cons,hx] at h ⊢
        exact .inl h
    | false =>
      by_cases hc:(k0==NameKind.free && env.scope.kind==.function && env.kindOf n==some .cell)=true
      · rw [if_pos hc] at h
        simp only [List.lookup_cons,hx] at h ⊢
        exact ih h
      · rw [if_neg hc] at h
        simp only [List.lookup_cons,hx] at h ⊢
        exact ih h
theorem lookup_relabel_free {env:Env}:∀ {names:List (Str × NameKind)} {x:Str},names.lookup x=some .free →
    (names.map fun (n,k)=>if (k==NameKind.free && env.scope.kind==.function && env.kindOf n==some .cell) then (n,NameKind.cell) else (n,k)).lookup x=some .cell ∨
    (names.map fun (n,k)=>if (k==NameKind.free && env.scope.kind==.function && env.kindOf n==some .cell) then (n,NameKind.cell) else (n,k)).lookup x=some .free
  | [],_,h=>by simp at h
  | (n,k0)::r,x,h=>by
    have ih:=@lookup_relabel_free env r x
    show List.lookup x ((if (k0==NameKind.free && env.scope.kind==.function && env.kindOf n==some .cell)=true then (n,NameKind.cell) else (n,k0))::_)=_∨List.lookup x ((if (k0==NameKind.free && env.scope.kind==.function && env.kindOf n==some .cell)=true then (n,NameKind.cell) else (n,k0))::_)=_
    cases hx:x==n with
    | true =>
      simp only [List.lookup_cons,hx] at h
      cases h
      by_cases hc:(NameKind.free==NameKind.free && env.scope.kind==.function && env.kindOf n==some .cell)=true
      · rw [if_pos hc]; simp only [List.lookup_cons,hx]; exact .inl trivial
      · rw [if_neg hc]; simp only [List.lookup_cons,hx]; exact .inr trivial
    | false =>
      simp only [List.lookup_cons,hx] at h
      by_cases hc:(k0==NameKind.free && env.scope.kind==.function && env.kindOf n==some .cell)=true
      · rw [if_pos hc]; simp only [List.lookup_cons,hx]; exact ih h
      · rw [if_neg hc]; simp only [List.lookup_cons,hx]; exact ih h
def cxComp (X:Cx) (x:Str) (N':List Str) (sc:Scope) (cl:List (Str × Addr)) (C:Addr) (s₂:Shared) (H₂:Hp) (fp:List Addr):Cx :=
  { X with N:=x::N',s₀:=s₂,H₀:=H₂,env:=compEnvC sc cl C X.env,outer:=X.stack,stack:=X.stack,ex:=fp,fn:=fun _=>false,pn:=[],xe:=fun _ _=>False }
def PIfs (X:Cx) (ifs:List Expr) (tt:TT):Prop :=
  ∀ (pins:List (Addr × Obj)) (s:Shared) (σ:St) (H:Hp) (Q:Bool→Hp→Prop),Inv X pins σ H s→tt σ H Q →
    wpAny (model X.prog X.w) X.A (forIn ifs true fun c r=>if r=true then do let ok ← isTrue c X.env (eval c X.env); pure (ForInStep.yield ok) else pure (ForInStep.yield r)) (TP X pins σ Q) X.xe s
def tYes:TT:=fun _ H Q=>Q true H
theorem pifs_nil {X:Cx}:PIfs X [] tYes:=fun _ _ _ H _ I h=>wpAny_tests_nil ⟨H,I,h⟩
def tComp (wi:TI) (ix:List Nat) (tt:TT) (te:TE):TE:=fun σ H Q=>wi σ H fun J H1=>∃ W:Nat→Nat→Hp→List V→Prop,(∃ m,W 0 m H1 [])∧∀ i m H ys,W i m H ys →
  (J.stop i H∧ys.length≤sizeLine∧∀ D,H D=none→Q (.ref D) (upd H D (.lst ys))) ∨
  (J.go i H∧∀ x H',J.yld i H x H'→tt (some x::ix.map (fun j=>σ.getD j none)) H' fun b H2 =>
    if b=true then te (some x::ix.map (fun j=>σ.getD j none)) H2 fun v H3=>ys.length < sizeLine∧∃ m',m' < m∧W (i + 1) m' H3 (ys++[v]) else ∃ m',m' < m∧W (i + 1) m' H2 ys)
section
variable {X:Cx} {x:Str} {px pos:Pos} {iter elt:Expr} {ifs:List Expr} {sc:Scope} {wi:TI} {tt:TT} {te:TE} {ix:List Nat} {N':List Str}
abbrev lobj (ys:List Value):Obj:={ cls:=.type "list",data:=.seq ys.toArray ys.length }
theorem comp_inv0 {pins:List (Addr × Obj)} {σ:St} {H2:Hp} {s2:Shared} {fp:List Addr} {cl:List (Str × Addr)} {tk:Nat} {h₁:Heap} {m₁:Str→Option Value}
    (hN:N'=ix.map fun i=>X.N.getD i ("" : Str)) (hk:sc.kind=.function) (hcell:∀ y∈sc.names,y.2 ≠ .cell)
    (hfree:∀ y∈sc.names,y.2=.free→X.env.kindOf y.1=some .cell∨X.env.kindOf y.1=some .free) (hfv:∀ y∈N',sc.names.lookup y=some .free)
    (h1:∀ y c,cl.lookup y=some c→X.env.cells.lookup y=some c) (h3:∀ y∈sc.names,y.2=.free→∃ c,cl.lookup y.1=some c)
    (I:Inv X pins σ H2 s2) (hf:∀ b∈fp,FpOk X pins H2 b) (hfo:∀ b∈fp,∃ o,s2.heap.get? b=some o)
    (old:∀ b o,s2.heap.get? b=some o→h₁.get? b=some o) (hns:h₁.Ns (s2.heap.objs.size + 1) m₁) (hD:h₁.get? s2.heap.objs.size=some (lobj [])) :
    Inv (cxComp X x N' sc cl (s2.heap.objs.size + 1) s2 H2 fp) [(s2.heap.objs.size,lobj [])] (none::ix.map (fun j=>σ.getD j none)) H2 { s2 with heap:=h₁,toks:=tk }:=by
  have lts:∀ b∈fp,b < s2.heap.objs.size:=fun b hb=>by obtain ⟨o,e⟩:=hfo b hb; exact Heap.lt_size e
  have nstk:∀ b,s2.heap.objs.size≤b→b ∉ frs X.stack:=fun b hb z=>by
    rcases List.mem_cons.mp (I.stkSub b z) with e | z
    · exact absurd (Nat.lt_of_lt_of_le I.lt (e ▸ hb)) (Nat.lt_irrefl _)
    · exact I.nofs hb z
  refine ⟨⟨I.ok.mod,hk,I.ok.glob,I.ok.blt,Nat.le_succ _,fun y z c e1 e2=>I.ok.inj y z c (h1 _ _ e1) (h1 _ _ e2),fun y hy=>?_,fun y c z _=>(by cases z),I.ok.hd,I.ok.frames,.inl rfl,fun b hb=>⟨?_,fun y c e=>?_⟩,I.bs,Nat.le_trans I.ok.bsz I.sz,fun b o e hb=>?_,fun b hb z=>?_,I.stack,I.stkFree⟩,
    rfl,I.bare,Un.kept old,⟨m₁,hns,fun i y v e1 e2 e3=>?_⟩,fun y c e=>?_,I.hok.fresh (Nat.le_succ _),fun y c e=>I.freeC y c (h1 y c e),fun p hp=>?_,I.hok.kept old,?_⟩
  · have hy':(relabel sc X.env).names.lookup y=some .cell∨(relabel sc X.env).names.lookup y=some .free:=hy
    have hq:sc.names.lookup y=some .free:=by
      rcases hy' with q | q
      · rcases lookup_relabel_kind q with q | ⟨q,_⟩
        · exact absurd rfl (hcell _ (PySem.mem_of_lookup q))
        · exact q
      · rcases lookup_relabel_kind q with q | ⟨_,q⟩
        · exact q
        · cases q
    exact h3 (y,.free) (PySem.mem_of_lookup hq) rfl
  · exact Nat.ne_of_lt (Nat.lt_succ_of_lt (lts b hb))
  · exact (hf b hb).2.2.2.2.1 y c (h1 y c e)
  · rcases (hf b hb).2.2.2.1 with z | z
    · exact I.ok.noex b o e z
    · exact absurd (Nat.lt_of_lt_of_le (Heap.lt_size e) (Nat.le_trans I.ok.bsz z)) (Nat.lt_irrefl _)
  · have z:b∈frs X.stack:=z
    rcases List.mem_cons.mp (I.stkSub b z) with e | z
    · exact (hf b hb).2.1 e
    · exact (hf b hb).2.2.1 z
  · cases i with
    | zero=>simp at e2
    | succ j =>
      have e1:N'[j]?=some y:=by simpa [cxComp] using e1
      have e2:(ix.map (fun j=>σ.getD j none))[j]?=some (some v):=by simpa using e2
      rw [hN,List.getElem?_map] at e1
      rw [List.getElem?_map] at e2
      cases q:ix[j]? with
      | none=>rw [q] at e1; cases e1
      | some k =>
        rw [q] at e1 e2
        have e1:X.N.getD k "" = y:=Option.some.inj e1
        have e2:σ.getD k none=some v:=Option.some.inj e2
        have e2':σ[k]?=some (some v):=by
          rw [List.getD_eq_getElem?_getD] at e2
          cases q2:σ[k]? with
          | none=>rw [q2] at e2; cases e2
          | some z=>rw [q2] at e2; rw [show z=some v from e2]
        have hlt:k < X.N.length:=by rw [← I.len]; exact (List.getElem?_eq_some_iff.mp e2').1
        have e1':X.N[k]?=some y:=by
          rw [List.getD_eq_getElem?_getD,List.getElem?_eq_getElem hlt] at e1
          rw [List.getElem?_eq_getElem hlt]; exact congrArg some e1
        have hyN:y∈N':=by
          rw [hN,← e1]
          exact List.mem_map.mpr ⟨k,List.mem_of_getElem? q,rfl⟩
        have hyf:=hfv y hyN
        have hkd:=hfree (y,.free) (PySem.mem_of_lookup hyf) rfl
        have hvis:Vis X.env.scope y:=by
          rcases hkd with z | z
          · exact .inr (.inl z)
          · exact .inr (.inr z)
        obtain ⟨m,hn,hl⟩:=I.loc
        obtain ⟨u,ru,lk⟩:=hl k y v e1' e2' hvis
        refine ⟨u,ru,.inr ⟨?_,?_⟩⟩
        · exact lookup_relabel_free hyf
        · rcases lk with ⟨z,_⟩ | ⟨_,c,hc,hcv⟩
          · rcases hkd with w | w <;> rw [show X.env.kindOf y=_ from w] at z <;> cases z
          · obtain ⟨c',hc'⟩:=h3 (y,.free) (PySem.mem_of_lookup hyf) rfl
            have:=h1 y c' hc'
            rw [hc] at this; cases this
            exact ⟨c,hc',hcv.keeps old⟩
  · obtain ⟨v,q⟩:=I.cell y c (h1 y c e)
    exact ⟨v,q.keeps old⟩
  · have hp:p∈[(s2.heap.objs.size,lobj [])]:=hp
    rw [List.mem_singleton.mp hp]
    exact ⟨hD,I.hok.fresh (Nat.le_refl _),Nat.ne_of_lt (Nat.lt_succ_self _),nstk _ (Nat.le_refl _),fun v z=>by cases z⟩
  · simp [cxComp,hN]
end
end L2
set_option Elab.async false
set_option linter.all false
set_option maxRecDepth 100000
set_option maxHeartbeats 4000000
namespace L2
open PySem PySem.Spec PyProof.Rows
section
variable {X:Cx} {x:Str} {px pos:Pos} {iter elt:Expr} {ifs:List Expr} {sc:Scope} {wi:TI} {tt:TT} {te:TE} {ix:List Nat} {N':List Str}
theorem Vals.snoc {ys:List V} {vs:List Value} {y:V} {u:Value} (h:Vals ys vs) (r:RelV y u):Vals (ys++[y]) (vs++[u]):=Vals.append h (.cons r .nil)
theorem lobj_push (vs:List Value) (u:Value):({ cls:=.type "list",data:=.seq (vs.toArray.push u) (vs.length + 1) }:Obj)=lobj (vs++[u]):=LCg.lst_snoc vs u
theorem comp_out {pins:List (Addr × Obj)} {σ σ':St} {H2 H':Hp} {s2 s4:Shared} {fp:List Addr} {cl:List (Str × Addr)} {ys:List V} {vs:List Value} {h':Heap}
    (I:Inv X pins σ H2 s2) (hf:∀ b∈fp,FpOk X pins H2 b) (hfo:∀ b∈fp,∃ o,s2.heap.get? b=some o)
    (J:Inv (cxComp X x N' sc cl (s2.heap.objs.size + 1) s2 H2 fp) [(s2.heap.objs.size,lobj vs)] σ' H' s4) (hv:Vals ys vs) (hl:ys.length≤sizeLine)
    (sb:Heap.SameBut (s2.heap.objs.size + 1) s4.heap h') :
    Inv X pins σ (upd H' s2.heap.objs.size (.lst ys)) { s4 with heap:=h' }:=by
  have pD:=J.pin (s2.heap.objs.size,lobj vs) (List.mem_append_right _ List.mem_cons_self)
  have hDn:H' s2.heap.objs.size=none:=pD.2.1
  have hCn:H' (s2.heap.objs.size + 1)=none:=J.free
  have u0:Un (frs X.stack) fp H2 H' s2.heap s4.heap:=J.base
  have ne:∀ b o,s2.heap.get? b=some o→b ≠ s2.heap.objs.size∧b ≠ s2.heap.objs.size + 1:=fun b o e=>by
    have:=Heap.lt_size e
    exact ⟨Nat.ne_of_lt this,Nat.ne_of_lt (Nat.lt_succ_of_lt this)⟩
  have f2:∀ b,s2.heap.objs.size≤b→H2 b=none:=fun b hb=>I.hok.fresh hb
  have ou:∀ b o,H2 b=some o→b ≠ s2.heap.objs.size:=fun b o e z=>by rw [z,f2 _ (Nat.le_refl _)] at e; cases e
  have u1:Un (frs X.stack) fp H2 (upd H' s2.heap.objs.size (.lst ys)) s2.heap h':=by
    refine ⟨fun b o e n hb hx=>(sb.2 b (ne b o e).2).trans (u0.keep b o e n hb hx),fun b o e n hb hx=>?_,fun b o e n hx=>?_,fun b o e hx=>?_,fun b xs e=>?_,fun b o u e=>?_,fun b ps e=>?_⟩
    · obtain ⟨sl,q⟩:=u0.slot b o e n hb hx
      exact ⟨sl,(sb.2 b (ne b o e).2).trans q⟩
    · rw [upd_ne (ne b o e).1]; exact u0.free b o e n hx
    · obtain ⟨o',q⟩:=u0.there b o e hx
      exact ⟨o',(sb.2 b (ne b o e).2).trans q⟩
    · rw [upd_ne (ou b _ e)]; exact u0.tups b xs e
    · rw [upd_ne (ou b _ e)]; exact u0.frzs b o u e
    · rw [upd_ne (ou b _ e)]; exact u0.tbls b ps e
  have kk:∀ b u,b ≠ s2.heap.objs.size + 1→s4.heap.get? b=some u→h'.get? b=some u:=fun b u hb q=>(sb.2 b hb).trans q
  have hok:HOk X.prog X.w (upd H' s2.heap.objs.size (.lst ys)) h':=fun b u e=>by
    by_cases hb:b=s2.heap.objs.size
    · subst hb
      rw [upd_same] at e; cases e
      exact ⟨hl,vs,vs.length,hv,kk _ _ (Nat.ne_of_lt (Nat.lt_succ_self _)) pD.1⟩
    · rw [upd_ne hb] at e
      have nC:b ≠ s2.heap.objs.size + 1:=fun z=>by rw [z,hCn] at e; cases e
      refine (J.hok b u e).stay (fun c v hc q=>kk c v ?_ q) (fun c q=>?_) fun c xs q=>?_
      · rcases hc with rfl | hc
        · exact nC
        · intro z; rw [z,hCn] at hc; cases hc
      · rw [upd_ne (fun z=>by rw [z,hDn] at q; cases q)]; exact q
      · rw [upd_ne (fun z=>by rw [z,hDn] at q; cases q)]; exact q
  refine I.call' (s':={ s4 with heap:=h' }) (ch:=fp) J.os u1 hok J.bare fun b hb=>?_
  obtain ⟨_,q1,_,q3,q4,q5⟩:=hf b hb
  exact ⟨q3,q1,q4,q5⟩
theorem comp_core {pins:List (Addr × Obj)} {σ:St} {H2:Hp} {s2:Shared} {fp:List Addr} {cl:List (Str × Addr)} {it:Addr} {tn:Nat→Heap→Prop} {J:It} {Q:VK} {R:Result→Shared→Prop} {h₁:Heap} {m0:Nat} {m₁:Str→Option Value}
    {W:Nat→Nat→Hp→List V→Prop} (hc:X.calm=true)
    (hif:∀ cl C s₂ H₂ fp,PIfs (cxComp X x N' sc cl C s₂ H₂ fp) ifs tt) (hel:∀ cl C s₂ H₂ fp,PE (cxComp X x N' sc cl C s₂ H₂ fp) elt te)
    (hN:N'=ix.map fun i=>X.N.getD i ("" : Str)) (hnd:(x::N').Nodup) (hk:sc.kind=.function) (hx:sc.names.lookup x=some .local) (hcell:∀ y∈sc.names,y.2 ≠ .cell)
    (hnames:∀ y∈sc.names,y.2=.local→sc.names.lookup y.1=some .local)
    (hfree:∀ y∈sc.names,y.2=.free→X.env.kindOf y.1=some .cell∨X.env.kindOf y.1=some .free) (hfv:∀ y∈N',sc.names.lookup y=some .free)
    (h1:∀ y c,cl.lookup y=some c→X.env.cells.lookup y=some c) (h3:∀ y∈sc.names,y.2=.free→∃ c,cl.lookup y.1=some c)
    (I2:Inv X pins σ H2 s2) (T:Turn X.prog X.w X.K (.Name x px) J fp it tn) (st2:tn 0 s2.heap) (f2:∀ b∈fp,FpOk X pins H2 b) (w0:W 0 m0 H2 [])
    (turn:∀ i m H ys,W i m H ys →
      (J.stop i H∧ys.length≤sizeLine∧∀ D,H D=none→Q (.ref D) (upd H D (.lst ys))) ∨
      (J.go i H∧∀ x H',J.yld i H x H'→tt (some x::ix.map (fun j=>σ.getD j none)) H' fun b H2 =>
        if b=true then te (some x::ix.map (fun j=>σ.getD j none)) H2 fun v H3=>ys.length < sizeLine∧∃ m',m' < m∧W (i + 1) m' H3 (ys++[v]) else ∃ m',m' < m∧W (i + 1) m' H2 ys))
    (old:∀ b o,s2.heap.get? b=some o→h₁.get? b=some o) (hns₁:h₁.Ns (s2.heap.objs.size + 1) m₁) (hacc:h₁.get? s2.heap.objs.size=some (lobj []))
    (hR:∀ s5 H4 ys vs σ',Inv (cxComp X x N' sc cl (s2.heap.objs.size + 1) s2 H2 fp) [(s2.heap.objs.size,lobj vs)] σ' H4 s5→Vals ys vs→ys.length≤sizeLine→(∀ D,H4 D=none→Q (.ref D) (upd H4 D (.lst ys)))→R (.ok .next) s5) :
    codeAny (model X.prog X.w) X.A (.compStart (.ListComp elt [⟨.Name x px,iter,ifs,0⟩] sc pos) 0 (.ref it) (.ref s2.heap.objs.size) (compEnvC sc cl (s2.heap.objs.size + 1) X.env)) R { s2 with heap:=h₁,toks:=s2.toks + ([]:List (Str × Value)).length }:=by
  have hfo:∀ b∈fp,∃ o,s2.heap.get? b=some o:=fun b hb=>by obtain ⟨o,e,_⟩:=T.obj _ _ st2 b hb; exact ⟨o,e⟩
  have lts:∀ b∈fp,b < s2.heap.objs.size:=fun b hb=>by obtain ⟨o,e⟩:=hfo b hb; exact Heap.lt_size e
  have I3:=comp_inv0 (x:=x) (tk:=s2.toks + ([]:List (Str × Value)).length) hN hk hcell hfree hfv h1 h3 I2 f2 hfo old hns₁ hacc
  have st3:tn 0 h₁:=T.keep _ _ _ st2 fun b hb o e=>old b o e
  generalize hX:cxComp X x N' sc cl (s2.heap.objs.size + 1) s2 H2 fp=X' at I3
  have eP:X'.prog=X.prog:=by rw [← hX]; rfl
  have eW:X'.w=X.w:=by rw [← hX]; rfl
  have eK:X'.K=X.K:=by rw [← hX]; rfl
  have eA:X'.A=X.A:=by rw [← hX]; rfl
  have eE:X'.env=compEnvC sc cl (s2.heap.objs.size + 1) X.env:=by rw [← hX]; rfl
  have eC:X'.calm=true:=by rw [← hX]; exact hc
  have ePn:X'.pn=[]:=by rw [← hX]; rfl
  have eXe:X'.xe=fun _ _=>False:=by rw [← hX]; rfl
  have eFs:X'.fs=frs X.stack:=by rw [← hX]; rfl
  have eEx:X'.ex=fp:=by rw [← hX]; rfl
  have eN:X'.N=x::N':=by rw [← hX]; rfl
  have eS:X'.s₀=s2:=by rw [← hX]; rfl
  have nst:∀ b∈fp,b ∉ frs X.stack:=fun b hb z=>by
    rcases List.mem_cons.mp (I2.stkSub b z) with e | z
    · exact (f2 b hb).2.1 e
    · exact (f2 b hb).2.2.1 z
  have nstD:s2.heap.objs.size ∉ frs X.stack:=fun z=>by
    rcases List.mem_cons.mp (I2.stkSub _ z) with e | z
    · exact absurd (e ▸ I2.lt) (Nat.lt_irrefl _)
    · exact I2.nofs (Nat.le_refl _) z
  have stat:∀ {H':Hp} {vs:List Value},(∀ b∈fp,H' b=none)→∀ b∈fp,FpOk X' [(s2.heap.objs.size,lobj vs)] H' b:=fun {H' vs} hn b hb=>by
    refine ⟨hn b hb,?_,?_,.inl (by rw [eEx]; exact hb),fun y c e=>?_,fun p hp=>?_⟩
    · rw [eE]; exact Nat.ne_of_lt (Nat.lt_succ_of_lt (lts b hb))
    · rw [eFs]; exact nst b hb
    · rw [eE] at e; exact (f2 b hb).2.2.2.2.1 y c (h1 y c e)
    · rw [ePn] at hp
      rw [List.mem_singleton.mp (show p∈[(s2.heap.objs.size,lobj vs)] from hp)]
      exact Nat.ne_of_gt (lts b hb)
  have loop:∀ s₃:Shared,s₃={ s2 with heap:=h₁,toks:=s2.toks + ([]:List (Str × Value)).length } →
      codeAny (model X.prog X.w) X.A (.compLoop (.ListComp elt [⟨.Name x px,iter,ifs,0⟩] sc pos) 0 (.ref it) (.ref s2.heap.objs.size) (compEnvC sc cl (s2.heap.objs.size + 1) X.env))
        (R) s₃:=by
    rintro s₃ rfl
    refine codeAny_compLoop_tests (fun n s'=>∃ i σv H' ys vs,Inv X' [(s2.heap.objs.size,lobj vs)] (σv::ix.map (fun j=>σ.getD j none)) H' s'∧Vals ys vs∧tn i s'.heap∧(∀ b∈fp,H' b=none)∧W i n H' ys) ?_ m0
      ⟨0,none,H2,[],[],I3,.nil,st3,fun b hb=>(f2 b hb).1,w0⟩
    rintro n s4 ⟨i,σv,H4,ys,vs,I4,hv4,st4,fr4,w4⟩
    rcases turn i n H4 ys w4 with ⟨stop,hl,qn⟩ | ⟨go,step⟩
    · have D:=T.done X' eP eW eK eC i _ s4 _ H4 (notedBy (model X.prog X.w) X.A (compEnvC sc cl (s2.heap.objs.size + 1) X.env) fun e s'=>R (.error e) s') I4 (stat fr4) st4 stop
      rw [eA] at D
      refine thn D fun r s5 ⟨hr,I5⟩=>?_
      subst hr
      exact hR s5 H4 ys vs _ (hX ▸ I5) hv4 hl qn
    · have D:=T.item X' eP eW eK eC i _ s4 _ H4 (notedBy (model X.prog X.w) X.A (compEnvC sc cl (s2.heap.objs.size + 1) X.env) fun e s'=>R (.error e) s') I4 (stat fr4) st4 go
      rw [eA] at D
      refine thn D fun r s5 ⟨u,hr,h5⟩=>?_
      subst hr
      have key:wpAny (model X.prog X.w) X.A (letOwnedTupleGo (.Name x px) (.ref it) u >>= fun _=>assign (.Name x px) (compEnvC sc cl (s2.heap.objs.size + 1) X.env) u) (fun _ s₂ =>
          wpAny (model X.prog X.w) X.A (forIn ifs true fun c r=>if r=true then do let ok ← isTrue c (compEnvC sc cl (s2.heap.objs.size + 1) X.env) (eval c (compEnvC sc cl (s2.heap.objs.size + 1) X.env)); pure (ForInStep.yield ok) else pure (ForInStep.yield r)) (fun ok s₃ =>
            if ok=true then wpAny (model X.prog X.w) X.A (eval elt (compEnvC sc cl (s2.heap.objs.size + 1) X.env)) (fun x s₄ =>
              wpAny (model X.prog X.w) X.A (call (.builtin "list.append") [.ref s2.heap.objs.size,x]) (fun _ s₅=>∃ m,m < n∧∃ i σv H' ys vs,Inv X' [(s2.heap.objs.size,lobj vs)] (σv::ix.map (fun j=>σ.getD j none)) H' s₅∧Vals ys vs∧tn i s₅.heap∧(∀ b∈fp,H' b=none)∧W i m H' ys)
                (notedBy (model X.prog X.w) X.A (compEnvC sc cl (s2.heap.objs.size + 1) X.env) fun e s'=>R (.error e) s') s₄)
              (notedBy (model X.prog X.w) X.A (compEnvC sc cl (s2.heap.objs.size + 1) X.env) fun e s'=>R (.error e) s') s₃
            else ∃ m,m < n∧∃ i σv H' ys vs,Inv X' [(s2.heap.objs.size,lobj vs)] (σv::ix.map (fun j=>σ.getD j none)) H' s₃∧Vals ys vs∧tn i s₃.heap∧(∀ b∈fp,H' b=none)∧W i m H' ys)
            (notedBy (model X.prog X.w) X.A (compEnvC sc cl (s2.heap.objs.size + 1) X.env) fun e s'=>R (.error e) s') s₂)
          (notedBy (model X.prog X.w) X.A (compEnvC sc cl (s2.heap.objs.size + 1) X.env) fun e s'=>R (.error e) s') s5:=by
        refine wpAny_bind (thn h5 fun _ s6 ⟨z,H6,I6,r6,y6,st6,fr6⟩=>?_)
        have I6':=I6.pinned (stat fr6) (T.obj _ _ st6)
        have q6:=step z H6 y6
        refine wpAny_assign_Name (?_:wpAny _ _ (storeName (compEnvC sc cl (s2.heap.objs.size + 1) X.env) x u) _ _ s6)
        rw [← eE]
        refine store_ok (i:=0) I6' (by rw [eN]; exact hnd) (by rw [eN]; rfl) (.inl (by rw [eE]; exact lookup_relabel_local hx)) r6 (fun s7 I7=>?_) (.inr (by rw [eE]; exact lookup_relabel_local hx))
        have t7:=(hX ▸ hif cl (s2.heap.objs.size + 1) s2 H2 fp:PIfs X' ifs tt) _ s7 _ H6 _ I7 q6
        rw [eP,eW,eA] at t7
        refine wpAny_mono t7 (fun b s8 ⟨H8,I8,q8⟩=>?_) (fun e s' z=>by rw [eXe] at z; exact z.elim)
        have keepT:∀ {s':Shared} {H':Hp} {σ':St},Inv X' ([(s2.heap.objs.size,lobj vs)]++pinsAt fp s6.heap) σ' H' s'→tn (i + 1) s'.heap∧∀ b∈fp,H' b=none:=fun {s' H' σ'} J'=>by
          refine ⟨T.keep _ _ _ st6 fun b hb o e=>(J'.pin (b,o) (List.mem_append_right _ (List.mem_append_right _ (mem_pinsAt hb e)))).1,fun b hb=>?_⟩
          obtain ⟨o,e,d⟩:=T.obj _ _ st6 b hb
          exact (J'.pin (b,o) (List.mem_append_right _ (List.mem_append_right _ (mem_pinsAt hb e)))).2.1
        cases b with
        | false =>
          rw [if_neg Bool.false_ne_true] at q8 ⊢
          obtain ⟨m',hm,w8⟩:=q8
          obtain ⟨k1,k2⟩:=keepT I8
          exact ⟨m',hm,i + 1,some z,H8,ys,vs,I8.unpinned,hv4,k1,k2,w8⟩
        | true =>
          rw [if_pos rfl] at q8 ⊢
          have t8:=(hX ▸ hel cl (s2.heap.objs.size + 1) s2 H2 fp:PE X' elt te) _ s8 _ H8 _ I8 q8
          rw [eP,eW,eA] at t8
          refine wpAny_mono t8 (fun v s9 ⟨y,H9,I9,r9,hsz,m',hm,w9⟩=>?_) (fun e s' z=>by rw [eXe] at z; exact z.elim)
          have pD:=I9.pin (s2.heap.objs.size,lobj vs) (List.mem_append_right _ (List.mem_append_left _ List.mem_cons_self))
          obtain ⟨k1,k2⟩:=keepT I9
          have hvl:=hv4.length
          refine append_at (D:=s2.heap.objs.size) (its:=vs.toArray) (n:=vs.length) pD.1 (fun h' sb hD=>?_) (by rw [List.size_toArray]; omega)
          have I9u:Inv X' [] (some z::ix.map (fun j=>σ.getD j none)) H9 s9:=I9.pins_of fun p hp=>nomatch hp
          have cne:∀ y c,X'.env.cells.lookup y=some c→c ≠ s2.heap.objs.size:=fun y c e=>by
            rw [eE] at e
            obtain ⟨v',q⟩:=I2.cell y c (h1 y c e)
            exact Nat.ne_of_lt q.lt
          have I10:Inv X' [] (some z::ix.map (fun j=>σ.getD j none)) H9 { s9 with heap:=h' }:=I9u.turned (t':=s9.toks) (it:=s2.heap.objs.size) (fun b o hb e=>(sb.2 b hb).trans e) pD.2.1 (by rw [eE]; exact Nat.ne_of_lt (Nat.lt_succ_self _)) (.inr (by rw [eS]; exact Nat.le_refl _)) cne (fun p hp=>by rw [ePn] at hp; exact nomatch hp)
          have I11:Inv X' [(s2.heap.objs.size,lobj (vs++[v]))] (some z::ix.map (fun j=>σ.getD j none)) H9 { s9 with heap:=h' }:=I10.pins_of fun p hp=>by
            rw [List.mem_singleton.mp hp]
            exact ⟨hD.trans (congrArg some (lobj_push vs v)),pD.2.1,by rw [eE]; exact Nat.ne_of_lt (Nat.lt_succ_self _),by rw [eFs]; exact nstD,fun v' z'=>by cases z'⟩
          exact ⟨m',hm,i + 1,some z,H9,ys++[y],vs++[v],I11,hv4.snoc r9,T.keep _ _ _ k1 (fun b hb o e=>(sb.2 b (Nat.ne_of_lt (lts b hb))).trans e),k2,w9⟩
      exact key
  exact codeAny_compStart_list (loop _ rfl) (T.self X.A 0 _ _ _ st3 (loop _ rfl))
theorem Heap.SameBut.rf {a:Addr} {h:Heap} (e:∃ o,h.get? a=some o):Heap.SameBut a h h:=by
  first | exact ⟨rfl,fun _ _=>rfl⟩ | exact ⟨e,fun _ _=>rfl⟩
structure CompOk (X:Cx) (x:Str) (N':List Str) (ix:List Nat) (sc:Scope):Prop where
  nm:N'=ix.map fun i=>X.N.getD i ("" : Str)
  nd:(x::N').Nodup
  kind:sc.kind=.function
  hx:sc.names.lookup x=some .local
  cell:∀ y∈sc.names,y.2 ≠ .cell
  names:∀ y∈sc.names,y.2=.local→sc.names.lookup y.1=some .local
  free:∀ y∈sc.names,y.2=.free→X.env.kindOf y.1=some .cell∨X.env.kindOf y.1=some .free
  fv:∀ y∈N',sc.names.lookup y=some .free
theorem pe_comp (c:CompOk X x N' ix sc) (hc:X.calm=true) (hi:PI X (.Name x px) iter wi)
    (hif:∀ cl C s₂ H₂ fp,PIfs (cxComp X x N' sc cl C s₂ H₂ fp) ifs tt) (hel:∀ cl C s₂ H₂ fp,PE (cxComp X x N' sc cl C s₂ H₂ fp) elt te)
    (hs:∀ v,foldedSetIterable iter X.env v=pure v:=by intro _; rfl) :
    PE X (.ListComp elt [⟨.Name x px,iter,ifs,0⟩] sc pos) (tComp wi ix tt te):=by
  intro pins s σ H Q I h
  obtain ⟨cl,hcl,h1,h3⟩:=closure_ok (sc:=sc) (env:=X.env) (fun y hy hf=>I.ok.has y.1 (c.free y hy hf))
  rw [eval_ListComp]
  refine wpAny_comprehension_free (use:=none) rfl hs hcl c.kind c.names (thn (hi pins s σ H _ I h) fun v s1 g1=>thn g1 fun itv s2 h2=>?_)
  obtain ⟨it,fp,tn,J,H2,rfl,I2,T,st2,f2,W,⟨m0,w0⟩,turn⟩:=h2
  refine wpAny_newObj_type (wpAny_newFunctionEnv c.cell (by intro y hy; simp at hy) (fun h₁ hns₁ hsb₁=>?_) c.kind)
  dsimp only at hns₁ hsb₁ ⊢
  have hCsz:(s2.heap.push { cls:=.type "list",dict:=none,data:=.seq ([]:List Value).toArray }).objs.size=s2.heap.objs.size + 1:=Heap.size_push ..
  rw [hCsz] at hns₁ hsb₁ ⊢
  have old:∀ b o,s2.heap.get? b=some o→h₁.get? b=some o:=fun b o e=>hsb₁.extBut b o (Nat.ne_of_lt (Nat.lt_succ_of_lt (Heap.lt_size e))) (Heap.get?_push_of_some _ (Heap.get?_push_of_some _ e))
  have hacc:h₁.get? s2.heap.objs.size=some (lobj []):=hsb₁.extBut _ _ (Nat.ne_of_lt (Nat.lt_succ_self _)) (Heap.get?_push_of_some _ (Heap.get?_push_size _ rfl))
  have hfo:∀ b∈fp,∃ o,s2.heap.get? b=some o:=fun b hb=>by obtain ⟨o,e,_⟩:=T.obj _ _ st2 b hb; exact ⟨o,e⟩
  refine comp_core hc hif hel c.nm c.nd c.kind c.hx c.cell c.names c.free c.fv h1 h3 I2 T st2 f2 w0 turn old hns₁ hacc fun s5 H4 ys vs σ' I5 hv4 hl qn=>?_
  obtain ⟨m5,hn5,_⟩:=I5.loc
  refine ⟨m5,hn5,fun h' sb=>?_⟩
  have hDn:=(I5.pin (s2.heap.objs.size,lobj vs) (List.mem_append_right _ List.mem_cons_self)).2.1
  exact ⟨.ref s2.heap.objs.size,_,comp_out I2 f2 hfo I5 hv4 hl sb,rfl,qn _ hDn⟩
theorem ps_comp {y:Str} {i:Nat} {py spos:Pos} (c:CompOk X x N' ix sc) (hc:X.calm=true) (hnN:X.N.Nodup) (hiy:X.N[i]?=some y) (hly:Loc X.env.scope y) (hi:PI X (.Name x px) iter wi)
    (hif:∀ cl C s₂ H₂ fp,PIfs (cxComp X x N' sc cl C s₂ H₂ fp) ifs tt) (hel:∀ cl C s₂ H₂ fp,PE (cxComp X x N' sc cl C s₂ H₂ fp) elt te)
    (hsw:swapsWith (.ListComp elt [⟨.Name x px,iter,ifs,0⟩] sc pos) (some (.Name y py)) spos.line X.env=pure true)
    (hf:X.fn y=true∨X.env.scope.names.lookup y=some .local:=by first | exact .inl rfl | exact .inr rfl | assumption)
    (hs:∀ v,foldedSetIterable iter X.env v=pure v:=by intro _; rfl) :
    PS X (.Assign [.Name y py] (.ListComp elt [⟨.Name x px,iter,ifs,0⟩] sc pos) spos) (tAsg (tComp wi ix tt te) (gName i)):=by
  intro pins s σ H Dn I h
  have h:tComp wi ix tt te σ H fun v H1=>Dn.nx (σ.set i (some v)) H1:=h
  obtain ⟨cl,hcl,h1,h3⟩:=closure_ok (sc:=sc) (env:=X.env) (fun y hy hf=>I.ok.has y.1 (c.free y hy hf))
  rw [exec_Assign_Name_used _ _ _ _ hsw]
  refine wpAny_bind (wpAny_standAt (wpAny_bind ?_))
  show wpAny _ X.A (do let _ ← comprehension (.ListComp elt [⟨.Name x px,iter,ifs,0⟩] sc pos) sc X.env _ (newList []) false (eval iter X.env) (some (assign (.Name y py) X.env))) _ _ s
  refine wpAny_bind (wpAny_mono (wpAny_comprehension_free (use:=some (assign (.Name y py) X.env)) (Q:=fun _ s'=>SP X pins Dn .next s') rfl hs hcl c.kind c.names
    (thn (hi pins s σ H _ I h) fun v s1 g1=>thn g1 fun itv s2 h2=>?_)) (fun _ s' hq=>wpAny_pure (wpAny_pure hq)) fun _ _ e=>e)
  obtain ⟨it,fp,tn,J,H2,rfl,I2,T,st2,f2,W,⟨m0,w0⟩,turn⟩:=h2
  refine wpAny_newObj_type (wpAny_newFunctionEnv c.cell (by intro y hy; simp at hy) (fun h₁ hns₁ hsb₁=>?_) c.kind)
  dsimp only at hns₁ hsb₁ ⊢
  have hCsz:(s2.heap.push { cls:=.type "list",dict:=none,data:=.seq ([]:List Value).toArray }).objs.size=s2.heap.objs.size + 1:=Heap.size_push ..
  rw [hCsz] at hns₁ hsb₁ ⊢
  have old:∀ b o,s2.heap.get? b=some o→h₁.get? b=some o:=fun b o e=>hsb₁.extBut b o (Nat.ne_of_lt (Nat.lt_succ_of_lt (Heap.lt_size e))) (Heap.get?_push_of_some _ (Heap.get?_push_of_some _ e))
  have hacc:h₁.get? s2.heap.objs.size=some (lobj []):=hsb₁.extBut _ _ (Nat.ne_of_lt (Nat.lt_succ_self _)) (Heap.get?_push_of_some _ (Heap.get?_push_size _ rfl))
  have hfo:∀ b∈fp,∃ o,s2.heap.get? b=some o:=fun b hb=>by obtain ⟨o,e,_⟩:=T.obj _ _ st2 b hb; exact ⟨o,e⟩
  refine comp_core (Q:=fun v H1=>Dn.nx (σ.set i (some v)) H1) hc hif hel c.nm c.nd c.kind c.hx c.cell c.names c.free c.fv h1 h3 I2 T st2 f2 w0 turn old hns₁ hacc fun s5 H4 ys vs σ' I5 hv4 hl qn=>?_
  obtain ⟨m5,hn5,_⟩:=I5.loc
  have hn5:s5.heap.Ns (s2.heap.objs.size + 1) m5:=hn5
  have hDn:=(I5.pin (s2.heap.objs.size,lobj vs) (List.mem_append_right _ List.mem_cons_self)).2.1
  have oC:∃ o,s5.heap.get? (s2.heap.objs.size + 1)=some o:=let ⟨o,_,_,e,_⟩:=hn5; ⟨o,e⟩
  have I6:Inv X pins σ (upd H4 s2.heap.objs.size (.lst ys)) { s5 with heap:=s5.heap }:=comp_out I2 f2 hfo I5 hv4 hl (Heap.SameBut.rf oC)
  show wpAny _ X.A (assign (.Name y py) X.env (.ref s2.heap.objs.size)) _ _ s5
  have HC:upd H4 s2.heap.objs.size (.lst ys) (s2.heap.objs.size + 1)=none:=by rw [upd_ne (Nat.ne_of_gt (Nat.lt_succ_self _))]; exact I5.free
  have ltC:∀ a o,s2.heap.get? a=some o→s2.heap.objs.size + 1 ≠ a:=fun a o e=>Nat.ne_of_gt (Nat.lt_succ_of_lt (Heap.lt_size e))
  have oL:∃ o,s2.heap.get? X.env.locals=some o:=let ⟨m,hn,_⟩:=I2.loc; let ⟨o,_,_,e,_⟩:=hn; ⟨o,e⟩
  have cL:s2.heap.objs.size + 1 ≠ X.env.locals:=let ⟨o,e⟩:=oL; ltC _ o e
  have cC:∀ z c',X.env.cells.lookup z=some c'→c' ≠ s2.heap.objs.size + 1:=fun z c' e=>by
    obtain ⟨v',o,e',_⟩:=I2.cell z c' e
    exact Ne.symm (ltC _ o e')
  refine wpAny_assign_Name (store_ok2 (v:=.ref s2.heap.objs.size) I6 hnN hiy hly rfl (fun s7 I7 ⟨a,sb,ha⟩=>?_) hf)
  have naC:s2.heap.objs.size + 1 ≠ a:=by
    rcases ha with rfl | ha
    · exact cL
    · exact Ne.symm (cC _ _ ha)
  refine ⟨m5,hn5.sameBut sb naC,fun h' sb'=>?_⟩
  refine ⟨_,_,I7.turned (t':=s7.toks) (it:=s2.heap.objs.size + 1) (fun b o hb e=>(sb'.2 b hb).trans e) HC cL (.inr ?_) cC (fun p hp=>?_),qn _ hDn⟩
  · exact Nat.le_succ_of_le I2.sz
  · exact Ne.symm (ltC _ _ (I2.pin p hp).1)
end
end L2
set_option Elab.async false
set_option linter.all false
set_option maxRecDepth 100000
set_option maxHeartbeats 4000000
namespace L2
open PySem PySem.Spec PyProof.Rows
section
variable {X:Cx} {xs:List Str} {pos:Pos} {tg iter elt:Expr} {ifs:List Expr} {sc:Scope} {wi:TI} {g:TG} {tt:TT} {te:TE} {ix:List Nat} {N':List Str}
structure CompOkP (X:Cx) (xs N':List Str) (ix:List Nat) (sc:Scope):Prop where
  nm:N'=ix.map fun i=>X.N.getD i ("" : Str)
  nd:(xs++N').Nodup
  kind:sc.kind=.function
  hx:∀ y∈xs,sc.names.lookup y=some .local
  cell:∀ y∈sc.names,y.2 ≠ .cell
  names:∀ y∈sc.names,y.2=.local→sc.names.lookup y.1=some .local
  free:∀ y∈sc.names,y.2=.free→X.env.kindOf y.1=some .cell∨X.env.kindOf y.1=some .free
  fv:∀ y∈N',sc.names.lookup y=some .free
end
end L2
set_option Elab.async false
set_option linter.all false
set_option maxRecDepth 100000
set_option maxHeartbeats 4000000
namespace L2
open PySem PySem.Spec PyProof.Rows
inductive D where
  | non | bl (b:Bool) | int (i:Int) | str (s:Str) | tup (ds:List D) | lst (ds:List D)
  | dct (ks:List Int) (ds:List D)
inductive Im where
  | t (vs:List V) | d (kvs:List (Key × V))
@[reducible] def Im.out:Im→HO | .t vs=>.tup vs | .d kvs=>.dK kvs
def dkv (ks:List Int) (vs:List V):List (Key × V):=ks.zipWith (fun k v=>(Sum.inl k,v)) vs
def KL (K:PySem.W.Frag) (a:Addr) (xs:List V):Prop :=
  ∃ (o:Obj) (its:Array Value) (n:Nat),K.lookup a=some o∧o.cls=.type "list"∧o.dict=none∧o.data=.seq its n∧its.size≤sizeLine∧Vals xs its.toList
mutual
inductive Rep (K:PySem.W.Frag) (H:Hp) (O:Addr→Prop):D→V→Prop
  | non:Rep K H O .non .non
  | bl (b:Bool):Rep K H O (.bl b) (.bl b)
  | int (i:Int):Rep K H O (.int i) (.int i)
  | str (s:Str):Rep K H O (.str s) (.str s)
  | tup {a:Addr} {vs:List V} {ds:List D}:H a=some (.tup vs)→Reps K H O ds vs→Rep K H O (.tup ds) (.ref a)
  | lst {a:Addr} {vs:List V} {ds:List D}:O a→Rd H a (.lst vs)→Reps K H O ds vs→Rep K H O (.lst ds) (.ref a)
  | klst {a:Addr} {vs:List V} {ds:List D}:KL K a vs→Reps K H O ds vs→Rep K H O (.lst ds) (.ref a)
  | dct {a:Addr} {ks:List Int} {vs:List V} {ds:List D}:H a=some (.dK (dkv ks vs))→Reps K H O ds vs→Rep K H O (.dct ks ds) (.ref a)
inductive Reps (K:PySem.W.Frag) (H:Hp) (O:Addr→Prop):List D→List V→Prop
  | nil:Reps K H O [] []
  | cons {d:D} {v:V} {ds:List D} {vs:List V}:Rep K H O d v→Reps K H O ds vs→Reps K H O (d::ds) (v::vs)
end
section
variable {K:PySem.W.Frag} {H H':Hp} {O O':Addr→Prop}
mutual
theorem Rep.mono (ht:∀ a (u:Im),H a=some u.out→H' a=some u.out) (hl:∀ a vs,O a→Rd H a (.lst vs)→O' a∧Rd H' a (.lst vs)):∀ {d:D} {v:V},Rep K H O d v→Rep K H' O' d v
  | _,_,.non=>.non
  | _,_,.bl b=>.bl b
  | _,_,.int i=>.int i
  | _,_,.str s=>.str s
  | _,_,.tup h r=>.tup (ht _ (.t _) h) (Reps.mono ht hl r)
  | _,_,.lst o h r=>.lst (hl _ _ o h).1 (hl _ _ o h).2 (Reps.mono ht hl r)
  | _,_,.klst h r=>.klst h (Reps.mono ht hl r)
  | _,_,.dct h r=>.dct (ht _ (.d _) h) (Reps.mono ht hl r)
theorem Reps.mono (ht:∀ a (u:Im),H a=some u.out→H' a=some u.out) (hl:∀ a vs,O a→Rd H a (.lst vs)→O' a∧Rd H' a (.lst vs)):∀ {ds:List D} {vs:List V},Reps K H O ds vs→Reps K H' O' ds vs
  | _,_,.nil=>.nil
  | _,_,.cons r t=>.cons (Rep.mono ht hl r) (Reps.mono ht hl t)
end
theorem Reps.length:∀ {ds:List D} {vs:List V},Reps K H O ds vs→ds.length=vs.length
  | _,_,.nil=>rfl
  | _,_,.cons _ t=>by rw [List.length_cons,List.length_cons,Reps.length t]
theorem Reps.get:∀ {ds:List D} {vs:List V} {i:Nat} {d:D},Reps K H O ds vs→ds[i]?=some d→∃ v,vs[i]?=some v∧Rep K H O d v
  | _,_,_,_,.nil,e=>by simp at e
  | _,_,0,_,.cons r _,e=>by simp at e; subst e; exact ⟨_,rfl,r⟩
  | _,_,i + 1,d,.cons _ t,e=>by
    obtain ⟨u,h1,h2⟩:=Reps.get (i:=i) (d:=d) t (by simpa using e)
    exact ⟨u,by simpa using h1,h2⟩
theorem Reps.append:∀ {ds es:List D} {vs ws:List V},Reps K H O ds vs→Reps K H O es ws→Reps K H O (ds++es) (vs++ws)
  | _,_,_,_,.nil,s=>s
  | _,_,_,_,.cons r t,s=>.cons r (Reps.append t s)
theorem Reps.take:∀ {ds:List D} {vs:List V} (n:Nat),Reps K H O ds vs→Reps K H O (ds.take n) (vs.take n)
  | _,_,0,_=>.nil
  | _,_,_ + 1,.nil=>.nil
  | _,_,n + 1,.cons r t=>.cons r (Reps.take n t)
theorem Reps.drop:∀ {ds:List D} {vs:List V} (n:Nat),Reps K H O ds vs→Reps K H O (ds.drop n) (vs.drop n)
  | _,_,0,r=>r
  | _,_,_ + 1,.nil=>.nil
  | _,_,n + 1,.cons _ t=>Reps.drop n t
theorem Reps.set {d:D} {v:V} (r:Rep K H O d v):∀ {ds:List D} {vs:List V} (i:Nat),Reps K H O ds vs→Reps K H O (ds.set i d) (vs.set i v)
  | _,_,_,.nil=>.nil
  | _,_,0,.cons _ t=>.cons r t
  | _,_,i + 1,.cons q t=>.cons q (Reps.set r i t)
theorem Reps.eraseIdx:∀ {ds:List D} {vs:List V} (i:Nat),Reps K H O ds vs→Reps K H O (ds.eraseIdx i) (vs.eraseIdx i)
  | _,_,_,.nil=>.nil
  | _,_,0,.cons _ t=>t
  | _,_,i + 1,.cons q t=>.cons q (Reps.eraseIdx i t)
theorem Reps.dropLast:∀ {ds:List D} {vs:List V},Reps K H O ds vs→Reps K H O ds.dropLast vs.dropLast
  | _,_,.nil=>.nil
  | _,_,.cons _ .nil=>.nil
  | _,_,.cons r (.cons q t)=>.cons r (Reps.dropLast (.cons q t))
theorem Reps.reverse {ds:List D} {vs:List V} (h:Reps K H O ds vs):Reps K H O ds.reverse vs.reverse:=by
  induction ds generalizing vs with
  | nil=>cases h; exact .nil
  | cons d ds ih =>
    cases h with
    | cons r t=>rw [List.reverse_cons,List.reverse_cons]; exact (ih t).append (.cons r .nil)
theorem Rep.int_ {i:Int} {v:V} (h:Rep K H O (.int i) v):v=.int i:=by cases h; rfl
theorem Rep.bl_ {i:Bool} {v:V} (h:Rep K H O (.bl i) v):v=.bl i:=by cases h; rfl
theorem Rep.tup_ {ds:List D} {v:V} (h:Rep K H O (.tup ds) v):∃ a vs,v=.ref a∧H a=some (.tup vs)∧Reps K H O ds vs:=by cases h with | tup a b=>exact ⟨_,_,rfl,a,b⟩
def LsOk (K:PySem.W.Frag) (H:Hp) (O:Addr→Prop) (a:Addr) (vs:List V):Prop:=(O a∧Rd H a (.lst vs))∨KL K a vs
theorem LsOk.sq {a:Addr} {vs:List V} (h:LsOk K H O a vs):SqL K H a vs:=h.elim (fun z=>.inl z.2) .inr
theorem Rep.lst_ {ds:List D} {v:V} (h:Rep K H O (.lst ds) v):∃ a vs,v=.ref a∧LsOk K H O a vs∧Reps K H O ds vs:=by
  cases h with
  | lst o a b=>exact ⟨_,_,rfl,.inl ⟨o,a⟩,b⟩
  | klst a b=>exact ⟨_,_,rfl,.inr a,b⟩
end
inductive Sl where
  | sh (d:D) | ow (ds:List D) | o2 (dss:List (List D))
abbrev DE0:=List (Option Sl)
def Ow (G W:Addr→Prop):Addr→Prop:=fun a=>G a∧¬ W a
def Inn (K:PySem.W.Frag) (G W:Addr→Prop) (H:Hp) (dss:List (List D)) (ls:List Addr):Prop :=
  ls.length=dss.length∧∀ (j:Nat) (ds:List D) (a:Addr),dss[j]?=some ds→ls[j]?=some a→W a∧∃ vs,H a=some (.lst vs)∧Reps K H (Ow G W) ds vs
def SlOk (K:PySem.W.Frag) (G W:Addr→Prop) (H:Hp):Sl→V→Prop
  | .sh d,v=>Rep K H (Ow G W) d v
  | .ow ds,v=>∃ l vs,v=.ref l∧W l∧H l=some (.lst vs)∧Reps K H (Ow G W) ds vs
  | .o2 dss,v=>∃ (l:Addr) (ls:List Addr),v=.ref l∧W l∧H l=some (.lst (ls.map V.ref))∧(l::ls).Nodup∧Inn K G W H dss ls
def Owns (H:Hp):Sl→V→Addr→Prop
  | .sh _,_,_=>False
  | .ow _,v,a=>v=.ref a
  | .o2 _,v,a=>v=.ref a∨∃ (l:Addr) (ls:List Addr),v=.ref l∧H l=some (.lst (ls.map V.ref))∧a∈ls
structure Ok (K:PySem.W.Frag) (G:Addr→Prop) (H0:Hp) (W:Addr→Prop) (env:DE0) (σ:St) (H:Hp):Prop where
  stay:Same H0 H
  good:∀ a,H0 a=none→G a
  wl:∀ l,W l→H0 l=none∧∃ vs,H l=some (.lst vs)
  slot:∀ (i:Nat) (s:Sl),env[i]?=some (some s)→∃ v,σ[i]?=some (some v)∧SlOk K G W H s v
  uniq:∀ (i j:Nat) (s s':Sl) (v v':V) (a:Addr),env[i]?=some (some s)→env[j]?=some (some s')→σ[i]?=some (some v)→σ[j]?=some (some v')→Owns H s v a→Owns H s' v' a→i=j
  len:env.length=σ.length
theorem refs_inj {ls ls':List Addr} (h:ls.map V.ref=ls'.map V.ref):ls=ls':=by
  induction ls generalizing ls' with
  | nil=>cases ls' with | nil=>rfl | cons b r=>cases h
  | cons a t ih=>cases ls' with | nil=>cases h | cons b r=>simp only [List.map_cons,List.cons.injEq,V.ref.injEq] at h; rw [h.1,ih h.2]
theorem SlOk.owns {K:PySem.W.Frag} {G W:Addr→Prop} {H:Hp} {s:Sl} {v:V} {a:Addr} (h:SlOk K G W H s v) (o:Owns H s v a):W a:=by
  cases s with
  | sh d=>exact o.elim
  | ow ds=>obtain ⟨l,vs,e,hW,_⟩:=h; rw [show v=.ref a from o] at e; cases e; exact hW
  | o2 dss =>
    obtain ⟨l,ls,e,hW,hl,nd,hi⟩:=h
    rcases o with o | ⟨l',ls',e',hl',ha⟩
    · rw [o] at e; cases e; exact hW
    · rw [e] at e'; cases e'
      rw [hl] at hl'
      have:=refs_inj (by simpa using hl')
      subst this
      obtain ⟨j,hj,e2⟩:=List.getElem_of_mem ha
      have hj':j < dss.length:=by rw [← hi.1]; exact hj
      exact (hi.2 j dss[j] a (by simp [hj']) (by simp [hj,e2])).1
theorem SlOk.back {K:PySem.W.Frag} {G W:Addr→Prop} {H H':Hp} {s:Sl} {v:V} {a:Addr} (h:SlOk K G W H s v) (k:∀ l,v=.ref l→W l→∀ vs,H l=some (.lst vs)→H' l=some (.lst vs)) (o:Owns H' s v a):Owns H s v a:=by
  cases s with
  | sh d=>exact o.elim
  | ow ds=>exact o
  | o2 dss =>
    obtain ⟨l,ls,e,hW,hl,nd,hi⟩:=h
    rcases o with o | ⟨l',ls',e',hl',ha⟩
    · exact .inl o
    · rw [e] at e'; cases e'
      rw [k l e hW _ hl] at hl'
      have:=refs_inj (by simpa using hl')
      subst this
      exact .inr ⟨l,ls,e,hl,ha⟩
structure Step (W:Addr→Prop) (H:Hp) (W':Addr→Prop) (H':Hp):Prop where
  keep:∀ b o,H b=some o→¬ W b→H' b=some o
  ws:∀ l,W' l→W l∨H l=none
theorem Step.refl {W:Addr→Prop} {H:Hp}:Step W H W H:=⟨fun _ _ e _=>e,fun _ h=>.inl h⟩
theorem Step.trans {W W1 W2:Addr→Prop} {H H1 H2:Hp} (a:Step W H W1 H1) (b:Step W1 H1 W2 H2):Step W H W2 H2 where
  keep:=fun c o e n=>b.keep c o (a.keep c o e n) fun z=>(a.ws c z).elim n fun q=>by rw [q] at e; cases e
  ws:=fun l h=>by
    rcases b.ws l h with z | z
    · exact a.ws l z
    · by_cases n:W l
      · exact .inl n
      · cases e:H l with
        | none=>exact .inr rfl
        | some o=>rw [a.keep l o e n] at z; cases z
theorem Step.same {W:Addr→Prop} {H H':Hp} (h:Same H H'):Step W H W H':=⟨fun b o e _=>h b o e,fun _ h=>.inl h⟩
section
variable {K:PySem.W.Frag} {G W W':Addr→Prop} {H0 H H':Hp} {env:DE0} {σ:St}
theorem Ok.wkeep (ok:Ok K G H0 W env σ H) (st:Step W H W' H'):∀ b o,H b=some o→(∀ xs,o ≠ .lst xs)→H' b=some o:=fun b o e n =>
  st.keep b o e fun z=>by obtain ⟨_,vs,q⟩:=ok.wl b z; rw [e] at q; cases q; exact n vs rfl
theorem Rd.keep {a:Addr} {u:HO} (h:Rd H a u) (k:∀ o,H a=some o→H' a=some o):Rd H' a u:=by
  rcases h with h | ⟨o,h⟩
  · exact .inl (k _ h)
  · exact .inr ⟨o,k _ h⟩
theorem Ok.tstep (ok:Ok K G H0 W env σ H) (st:Step W H W' H'):∀ a vs,H a=some (.tup vs)→H' a=some (.tup vs):=fun _ _ h=>ok.wkeep st _ _ h fun _ z=>by cases z
theorem Ok.istep (ok:Ok K G H0 W env σ H) (st:Step W H W' H'):∀ a (u:Im),H a=some u.out→H' a=some u.out:=fun _ u h=>ok.wkeep st _ _ h fun _ z=>by cases u <;> cases z
theorem Ok.lstep (ok:Ok K G H0 W env σ H) (st:Step W H W' H'):∀ a vs,Ow G W a→Rd H a (.lst vs)→Ow G W' a∧Rd H' a (.lst vs):=fun a vs o h=>by
  refine ⟨⟨o.1,fun z=>?_⟩,h.keep fun u e=>st.keep a u e o.2⟩
  rcases st.ws a z with q | q
  · exact o.2 q
  · rcases h with h | ⟨_,h⟩ <;> rw [q] at h <;> cases h
theorem Ok.lsstep (ok:Ok K G H0 W env σ H) (st:Step W H W' H') {a:Addr} {vs:List V} (h:LsOk K H (Ow G W) a vs):LsOk K H' (Ow G W') a vs:=h.elim (fun z=>.inl (ok.lstep st a vs z.1 z.2)) .inr
theorem Ok.rep (ok:Ok K G H0 W env σ H) (st:Step W H W' H') {d:D} {v:V} (r:Rep K H (Ow G W) d v):Rep K H' (Ow G W') d v:=r.mono (ok.istep st) (ok.lstep st)
theorem Ok.reps (ok:Ok K G H0 W env σ H) (st:Step W H W' H') {d:List D} {v:List V} (r:Reps K H (Ow G W) d v):Reps K H' (Ow G W') d v:=r.mono (ok.istep st) (ok.lstep st)
theorem Inn.step {dss:List (List D)} {ls:List Addr} (h:Inn K G W H dss ls) (k:∀ a vs,W a→a∈ls→H a=some (.lst vs)→H' a=some (.lst vs)) (w:∀ a,W a→a∈ls→W' a) (r:∀ ds vs,Reps K H (Ow G W) ds vs→Reps K H' (Ow G W') ds vs):Inn K G W' H' dss ls :=
  ⟨h.1,fun j ds a e1 e2=>by
    obtain ⟨hW,vs,ha,rp⟩:=h.2 j ds a e1 e2
    exact ⟨w a hW (List.mem_of_getElem? e2),vs,k a vs hW (List.mem_of_getElem? e2) ha,r ds vs rp⟩⟩
theorem Ok.slstep (ok:Ok K G H0 W env σ H) (st:Step W H W' H') {s:Sl} {v:V} (h:SlOk K G W H s v) (k:∀ a vs,Owns H s v a→H a=some (.lst vs)→W' a∧H' a=some (.lst vs)):SlOk K G W' H' s v:=by
  cases s with
  | sh d=>exact ok.rep st h
  | ow ds =>
    obtain ⟨l,vs,e,hW,hl,r⟩:=h
    obtain ⟨h1,h2⟩:=k l vs e hl
    exact ⟨l,vs,e,h1,h2,ok.reps st r⟩
  | o2 dss =>
    obtain ⟨l,ls,e,hW,hl,nd,hi⟩:=h
    obtain ⟨h1,h2⟩:=k l _ (.inl e) hl
    have ik:∀ a vs,a∈ls→H a=some (.lst vs)→W' a∧H' a=some (.lst vs):=fun a vs ha e2=>k a vs (.inr ⟨l,ls,e,hl,ha⟩) e2
    refine ⟨l,ls,e,h1,h2,nd,hi.1,fun j ds a e1 e2=>?_⟩
    obtain ⟨_,vs,ha,rp⟩:=hi.2 j ds a e1 e2
    obtain ⟨k1,k2⟩:=ik a vs (List.mem_of_getElem? e2) ha
    exact ⟨k1,vs,k2,ok.reps st rp⟩
theorem Ok.same (ok:Ok K G H0 W env σ H) (s:Same H H'):Ok K G H0 W env σ H':=by
  have st:Step W H W H':=Step.same s
  have bk:∀ {i:Nat} {sl:Sl} {v:V} {a:Addr},env[i]?=some (some sl)→σ[i]?=some (some v)→Owns H' sl v a→Owns H sl v a:=fun {i sl v a} e e1 o=>by
    obtain ⟨v',e2,h⟩:=ok.slot i sl e
    rw [e1] at e2; cases e2
    exact h.back (fun l _ _ vs q=>s l _ q) o
  refine ⟨ok.stay.trans s,ok.good,fun l h=>?_,fun i sl e=>?_,fun i j s1 s2 v1 v2 a e1 e2 e3 e4 o1 o2=>ok.uniq i j s1 s2 v1 v2 a e1 e2 e3 e4 (bk e1 e3 o1) (bk e2 e4 o2),ok.len⟩
  · obtain ⟨a,vs,b⟩:=ok.wl l h
    exact ⟨a,vs,s _ _ b⟩
  · obtain ⟨v,e1,h⟩:=ok.slot i sl e
    exact ⟨v,e1,ok.slstep st h fun a vs o e2=>⟨h.owns o,s _ _ e2⟩⟩
theorem same_upd {a:Addr} {o:HO} (h:H a=none):Same H (upd H a o):=fun b u e=>by rw [upd_ne (ne_of_none e h)]; exact e
def addW (W:Addr→Prop) (l:Addr):Addr→Prop:=fun a=>W a∨a=l
theorem Ok.fresh0 (ok:Ok K G H0 W env σ H) {l:Addr} {vs:List V} (s:Same H H') (hl:H l=none) (hl':H' l=some (.lst vs)) :
    ¬ W l∧H0 l=none∧Ok K G H0 (addW W l) env σ H'∧Step W H (addW W l) H':=by
  have n0:H0 l=none:=ok.stay.free hl
  have nW:¬ W l:=fun z=>by obtain ⟨_,vs,q⟩:=ok.wl l z; rw [hl] at q; cases q
  have st:Step W H (addW W l) H':=⟨fun b o e _=>s b o e,fun a z=>z.elim .inl fun q=>.inr (by rw [q]; exact hl)⟩
  have ok':=ok.same s
  refine ⟨nW,n0,⟨ok.stay.trans s,ok.good,fun a z=>?_,fun i sl e=>?_,ok'.uniq,ok.len⟩,st⟩
  · rcases z with z | rfl
    · obtain ⟨q,us,b⟩:=ok.wl a z
      exact ⟨q,us,s _ _ b⟩
    · exact ⟨n0,vs,hl'⟩
  · obtain ⟨v,e1,h⟩:=ok.slot i sl e
    exact ⟨v,e1,ok.slstep st h fun a vs o e2=>⟨.inl (h.owns o),s _ _ e2⟩⟩
theorem Ok.fresh (ok:Ok K G H0 W env σ H) {l:Addr} {vs:List V} {ds:List D} (s:Same H H') (hl:H l=none) (hl':H' l=some (.lst vs)) (r:Reps K H' (fun a=>(Ow G W a∨H a=none)∧a ≠ l) ds vs) :
    ¬ W l∧H0 l=none∧Ok K G H0 (addW W l) env σ H'∧Reps K H' (Ow G (addW W l)) ds vs∧Step W H (addW W l) H':=by
  have n0:H0 l=none:=ok.stay.free hl
  have nW:¬ W l:=fun z=>by obtain ⟨_,vs,q⟩:=ok.wl l z; rw [hl] at q; cases q
  have st:Step W H (addW W l) H':=⟨fun b o e _=>s b o e,fun a z=>z.elim .inl fun q=>.inr (by rw [q]; exact hl)⟩
  have wH:∀ a,W a→H a ≠ none:=fun a z q=>by obtain ⟨_,vs,e⟩:=ok.wl a z; rw [q] at e; cases e
  have ok':=ok.same s
  refine ⟨nW,n0,⟨ok.stay.trans s,ok.good,fun a z=>?_,fun i sl e=>?_,ok'.uniq,ok.len⟩,r.mono (fun _ _ h=>h) fun a us o h=>⟨⟨?_,?_⟩,h⟩,st⟩
  · rcases z with z | rfl
    · obtain ⟨q,us,b⟩:=ok.wl a z
      exact ⟨q,us,s _ _ b⟩
    · exact ⟨n0,vs,hl'⟩
  · obtain ⟨v,e1,h⟩:=ok.slot i sl e
    exact ⟨v,e1,ok.slstep st h fun a vs o e2=>⟨.inl (h.owns o),s _ _ e2⟩⟩
  · rcases o.1 with q | q
    · exact q.1
    · exact ok.good a (ok.stay.free q)
  · rintro (z | z)
    · rcases o.1 with q | q
      · exact q.2 z
      · exact wH a z q
    · exact o.2 z
theorem Ok.noOwn (ok:Ok K G H0 W env σ H) {l:Addr} (nW:¬ W l):∀ (j:Nat) (s:Sl) (v:V),env[j]?=some (some s)→σ[j]?=some (some v)→¬ Owns H s v l:=fun j s v e e1 o=>by
  obtain ⟨v',e2,h⟩:=ok.slot j s e
  rw [e1] at e2; cases e2
  exact nW (h.owns o)
theorem nodup_at {α:Type} {N:List α} (hN:N.Nodup) {i j:Nat} {x:α} (a:N[i]?=some x) (b:N[j]?=some x):i=j:=by
  obtain ⟨h1,e1⟩:=List.getElem?_eq_some_iff.mp a
  obtain ⟨h2,e2⟩:=List.getElem?_eq_some_iff.mp b
  exact (List.getElem_inj hN).mp (e1.trans e2.symm)
theorem getset {α:Type} {xs:List α} {i j:Nat} {x y:α} (h:(xs.set i x)[j]?=some y):(i=j∧y=x∧i < xs.length)∨(i ≠ j∧xs[j]?=some y):=by
  by_cases hj:i=j
  · subst hj
    by_cases hi:i < xs.length
    · rw [List.getElem?_set_self hi] at h; cases h; exact .inl ⟨rfl,rfl,hi⟩
    · rw [List.getElem?_eq_none (by rw [List.length_set]; omega)] at h; cases h
  · rw [List.getElem?_set_ne hj] at h; exact .inr ⟨hj,h⟩
theorem Ok.put (ok:Ok K G H0 W env σ H) {i:Nat} {s:Sl} {v:V} (h:SlOk K G W H s v) (no:∀ (j:Nat) (s':Sl) (v':V) (a:Addr),env[j]?=some (some s')→σ[j]?=some (some v')→Owns H s v a→¬ Owns H s' v' a) :
    Ok K G H0 W (env.set i (some s)) (σ.set i (some v)) H:=by
  refine ⟨ok.stay,ok.good,ok.wl,fun j sl e=>?_,fun j k s1 s2 v1 v2 a e1 e2 e3 e4 o1 o2=>?_,by rw [List.length_set,List.length_set,ok.len]⟩
  · rcases getset e with ⟨rfl,q,hi⟩ | ⟨hj,q⟩
    · cases q
      exact ⟨v,List.getElem?_set_self (by rw [← ok.len]; exact hi),h⟩
    · obtain ⟨u,e1,r⟩:=ok.slot j sl q
      exact ⟨u,by rw [List.getElem?_set_ne hj]; exact e1,r⟩
  · rcases getset e1 with ⟨a1,b1,c1⟩ | ⟨a1,b1⟩ <;> rcases getset e2 with ⟨a2,b2,c2⟩ | ⟨a2,b2⟩
    · rw [← a1,← a2]
    · subst a1
      cases b1
      rw [List.getElem?_set_self (by rw [← ok.len]; exact c1)] at e3; cases e3
      rw [List.getElem?_set_ne a2] at e4
      exact absurd o2 (no k s2 v2 a b2 e4 o1)
    · subst a2
      cases b2
      rw [List.getElem?_set_self (by rw [← ok.len]; exact c2)] at e4; cases e4
      rw [List.getElem?_set_ne a1] at e3
      exact absurd o1 (no j s1 v1 a b1 e3 o2)
    · rw [List.getElem?_set_ne a1] at e3
      rw [List.getElem?_set_ne a2] at e4
      exact ok.uniq j k s1 s2 v1 v2 a b1 b2 e3 e4 o1 o2
theorem Ok.set (ok:Ok K G H0 W env σ H) {i:Nat} {d:D} {v:V} (r:Rep K H (Ow G W) d v):Ok K G H0 W (env.set i (some (.sh d))) (σ.set i (some v)) H :=
  ok.put (s:=.sh d) r fun _ _ _ _ _ _ o=>o.elim
theorem Ok.setO (ok:Ok K G H0 W env σ H) {i:Nat} {ds:List D} {l:Addr} {vs:List V} (hW:W l) (hl:H l=some (.lst vs)) (r:Reps K H (Ow G W) ds vs) (no:∀ (j:Nat) (s:Sl) (v:V),env[j]?=some (some s)→σ[j]?=some (some v)→¬ Owns H s v l) :
    Ok K G H0 W (env.set i (some (.ow ds))) (σ.set i (some (.ref l))) H :=
  ok.put (s:=.ow ds) ⟨l,vs,rfl,hW,hl,r⟩ fun j s' v' a e e1 o=>by
    have:l=a:=by have o:V.ref l=V.ref a:=o; simpa using o
    subst this
    exact no j s' v' e e1
theorem Ok.let (ok:Ok K G H0 W env σ H) {i:Nat} {s:Sl} {v:V} {d:D} (e:env[i]?=some (some s)) (e1:σ[i]?=some (some v)) (W':Addr→Prop) (hW:∀ a,W' a↔W a∧¬ Owns H s v a) (r:Rep K H (Ow G W') d v) :
    Step W H W' H∧Ok K G H0 W' (env.set i (some (.sh d))) σ H:=by
  have st:Step W H W' H:=⟨fun b o q _=>q,fun a z=>.inl ((hW a).mp z).1⟩
  have hi:i < env.length:=(List.getElem?_eq_some_iff.mp e).1
  refine ⟨st,⟨ok.stay,ok.good,fun a z=>ok.wl a ((hW a).mp z).1,fun j sl q=>?_,fun j k s1 s2 v1 v2 a q1 q2 q3 q4 o1 o2=>?_,by rw [List.length_set,ok.len]⟩⟩
  · rcases getset q with ⟨rfl,q',_⟩ | ⟨hj,q'⟩
    · cases q'
      exact ⟨v,e1,r⟩
    · obtain ⟨u,e2,h⟩:=ok.slot j sl q'
      exact ⟨u,e2,ok.slstep st h fun a vs o q2=>⟨(hW a).mpr ⟨h.owns o,fun z=>hj (ok.uniq i j s sl v u a e q' e1 e2 z o)⟩,q2⟩⟩
  · rcases getset q1 with ⟨_,b1,_⟩ | ⟨a1,b1⟩
    · cases b1; exact o1.elim
    · rcases getset q2 with ⟨_,b2,_⟩ | ⟨a2,b2⟩
      · cases b2; exact o2.elim
      · exact ok.uniq j k s1 s2 v1 v2 a b1 b2 q3 q4 o1 o2
theorem Ok.share (ok:Ok K G H0 W env σ H) {i:Nat} {ds:List D} (e:env[i]?=some (some (.ow ds))) :
    ∃ W' v,σ[i]?=some (some v)∧Step W H W' H∧Ok K G H0 W' (env.set i (some (.sh (.lst ds)))) σ H∧Rep K H (Ow G W') (.lst ds) v:=by
  obtain ⟨v,e1,l,vs,rfl,hW,hl,r⟩:=ok.slot i _ e
  have rp:Rep K H (Ow G fun a=>W a∧¬ Owns H (.ow ds) (.ref l) a) (.lst ds) (.ref l) :=
    .lst ⟨ok.good l (ok.wl l hW).1,fun z=>z.2 rfl⟩ (.inl hl) (r.mono (fun _ _ h=>h) fun a us o h=>⟨⟨o.1,fun z=>o.2 z.1⟩,h⟩)
  obtain ⟨st,ok'⟩:=ok.let e e1 _ (fun a=>Iff.rfl) rp
  exact ⟨_,.ref l,e1,st,ok',rp⟩
theorem inn_reps:∀ {dss:List (List D)} {ls:List Addr},Inn K G W H dss ls→(∀ a,a∈ls→W a→G a∧¬ W' a)→(∀ ds vs,Reps K H (Ow G W) ds vs→Reps K H (Ow G W') ds vs)→Reps K H (Ow G W') (dss.map D.lst) (ls.map V.ref)
  | [],[],_,_,_=>.nil
  | [],_::_,h,_,_=>by have:=h.1; cases this
  | _::_,[],h,_,_=>by have:=h.1; cases this
  | ds::dss,a::ls,h,g,r=>by
    obtain ⟨hW,vs,ha,rp⟩:=h.2 0 ds a rfl rfl
    refine .cons (.lst (g a List.mem_cons_self hW) (.inl ha) (r _ _ rp)) (inn_reps (dss:=dss) (ls:=ls) ⟨Nat.succ.inj h.1,fun j ds' a' e1 e2=>h.2 (j + 1) ds' a' (by simpa using e1) (by simpa using e2)⟩ (fun a' ha'=>g a' (List.mem_cons_of_mem _ ha')) r)
theorem Ok.share2 (ok:Ok K G H0 W env σ H) {i:Nat} {dss:List (List D)} (e:env[i]?=some (some (.o2 dss))) :
    ∃ W' v,σ[i]?=some (some v)∧Step W H W' H∧Ok K G H0 W' (env.set i (some (.sh (.lst (dss.map D.lst))))) σ H∧Rep K H (Ow G W') (.lst (dss.map D.lst)) v:=by
  obtain ⟨v,e1,l,ls,rfl,hW,hl,nd,hi⟩:=ok.slot i _ e
  have rp:Rep K H (Ow G fun a=>W a∧¬ Owns H (.o2 dss) (.ref l) a) (.lst (dss.map D.lst)) (.ref l) :=
    .lst ⟨ok.good l (ok.wl l hW).1,fun z=>z.2 (.inl rfl)⟩ (.inl hl) (inn_reps hi (fun a ha wa=>⟨ok.good a (ok.wl a wa).1,fun z=>z.2 (.inr ⟨l,ls,rfl,hl,ha⟩)⟩) fun ds vs r=>r.mono (fun _ _ h=>h) fun a us o h=>⟨⟨o.1,fun z=>o.2 z.1⟩,h⟩)
  obtain ⟨st,ok'⟩:=ok.let e e1 _ (fun a=>Iff.rfl) rp
  exact ⟨_,.ref l,e1,st,ok',rp⟩
theorem Ok.chg (ok:Ok K G H0 W env σ H) {i:Nat} {s s':Sl} {v:V} {a:Addr} {vs':List V} (e:env[i]?=some (some s)) (e1:σ[i]?=some (some v)) (ho:Owns H s v a) (hs:SlOk K G W (upd H a (.lst vs')) s' v)
    (hb:∀ b,Owns (upd H a (.lst vs')) s' v b→Owns H s v b):Ok K G H0 W (env.set i (some s')) σ (upd H a (.lst vs'))∧Step W H W (upd H a (.lst vs')):=by
  have hWa:W a:=by obtain ⟨v',e2,h⟩:=ok.slot i s e; rw [e1] at e2; cases e2; exact h.owns ho
  have st:Step W H W (upd H a (.lst vs')):=⟨fun b o q n=>by rw [upd_ne (fun z:b=a=>n (by rw [z]; exact hWa))]; exact q,fun b z=>.inl z⟩
  have ne:∀ {j:Nat} {sl:Sl} {u:V} {b:Addr},i ≠ j→env[j]?=some (some sl)→σ[j]?=some (some u)→Owns H sl u b→b ≠ a:=fun {j sl u b} hj q q1 o z=>by
    subst z
    exact hj (ok.uniq i j s sl v u b e q e1 q1 ho o)
  have own_top:∀ {sl:Sl} {u:V} {l:Addr},SlOk K G W H sl u→(∀ d,sl ≠ .sh d)→u=.ref l→Owns H sl u l:=fun {sl u l} h nd q=>by
    cases sl with
    | sh d=>exact absurd rfl (nd d)
    | ow ds=>exact q
    | o2 dss=>exact .inl q
  have bk:∀ {j:Nat} {sl:Sl} {u:V} {b:Addr},i ≠ j→env[j]?=some (some sl)→σ[j]?=some (some u)→Owns (upd H a (.lst vs')) sl u b→Owns H sl u b:=fun {j sl u b} hj q q1 o=>by
    obtain ⟨u',q2,h⟩:=ok.slot j sl q
    rw [q1] at q2; cases q2
    cases sl with
    | sh d=>exact o.elim
    | ow ds=>exact o
    | o2 dss=>exact h.back (fun l q3 _ vs q4=>by rw [upd_ne (ne hj q q1 (own_top h (fun d z=>by cases z) q3))]; exact q4) o
  refine ⟨⟨fun b o q=>?_,ok.good,fun b z=>?_,fun j sl q=>?_,fun j k s1 s2 v1 v2 b q1 q2 q3 q4 o1 o2=>?_,by rw [List.length_set,ok.len]⟩,st⟩
  · rw [upd_ne (fun z=>by rw [z,(ok.wl a hWa).1] at q; cases q)]; exact ok.stay b o q
  · obtain ⟨q,us,hb⟩:=ok.wl b z
    by_cases h:b=a
    · exact ⟨q,vs',by rw [h,upd_same]⟩
    · exact ⟨q,us,by rw [upd_ne h]; exact hb⟩
  · rcases getset q with ⟨rfl,q',_⟩ | ⟨hj,q'⟩
    · cases q'
      exact ⟨v,e1,hs⟩
    · obtain ⟨u,e2,h⟩:=ok.slot j sl q'
      exact ⟨u,e2,ok.slstep st h fun b vs o q2=>⟨h.owns o,by rw [upd_ne (ne hj q' e2 o)]; exact q2⟩⟩
  · have back:∀ {m:Nat} {sl:Sl} {u:V},(env.set i (some s'))[m]?=some (some sl)→σ[m]?=some (some u)→Owns (upd H a (.lst vs')) sl u b→∃ sl',env[m]?=some (some sl')∧Owns H sl' u b:=fun {m sl u} q q1 o=>by
      rcases getset q with ⟨rfl,q',_⟩ | ⟨hj,q'⟩
      · cases q'
        rw [e1] at q1; cases q1
        exact ⟨s,e,hb b o⟩
      · exact ⟨sl,q',bk hj q' q1 o⟩
    obtain ⟨t1,b1,c1⟩:=back q1 q3 o1
    obtain ⟨t2,b2,c2⟩:=back q2 q4 o2
    exact ok.uniq j k t1 t2 v1 v2 b b1 b2 q3 q4 c1 c2
theorem Ok.turn (ok:Ok K G H0 W env σ H) {i:Nat} {ds ds':List D} {l:Addr} {vs':List V} (e:env[i]?=some (some (.ow ds))) (e1:σ[i]?=some (some (.ref l))) (r:Reps K H (Ow G W) ds' vs') :
    Ok K G H0 W (env.set i (some (.ow ds'))) σ (upd H l (.lst vs'))∧Step W H W (upd H l (.lst vs')):=by
  obtain ⟨v,e1',l',vs,rfl,hW,hl,_⟩:=ok.slot i _ e
  rw [e1] at e1'; cases e1'
  have st:Step W H W (upd H l (.lst vs')):=⟨fun b o q n=>by rw [upd_ne (fun z:b=l=>n (by rw [z]; exact hW))]; exact q,fun b z=>.inl z⟩
  exact ok.chg e e1 (show Owns H (.ow ds) (.ref l) l from rfl) ⟨l,vs',rfl,hW,upd_same,ok.reps st r⟩ fun b o=>o
theorem Ok.turn2 (ok:Ok K G H0 W env σ H) {i j:Nat} {dss:List (List D)} {ds ds':List D} {l a:Addr} {ls:List Addr} {vs':List V} (e:env[i]?=some (some (.o2 dss))) (e1:σ[i]?=some (some (.ref l))) (hl:H l=some (.lst (ls.map V.ref)))
    (hj:dss[j]?=some ds) (ha:ls[j]?=some a) (r:Reps K H (Ow G W) ds' vs'):Ok K G H0 W (env.set i (some (.o2 (dss.set j ds')))) σ (upd H a (.lst vs'))∧Step W H W (upd H a (.lst vs')):=by
  obtain ⟨v,e1',l',ls',rfl,hW,hl',nd,hi⟩:=ok.slot i _ e
  rw [e1] at e1'; cases e1'
  rw [hl] at hl'
  have:=refs_inj (by simpa using hl')
  subst this
  have hm:a∈ls:=List.mem_of_getElem? ha
  have hWa:W a:=(hi.2 j ds a hj ha).1
  have st:Step W H W (upd H a (.lst vs')):=⟨fun b o q n=>by rw [upd_ne (fun z:b=a=>n (by rw [z]; exact hWa))]; exact q,fun b z=>.inl z⟩
  have nla:l ≠ a:=fun z=>by subst z; exact (List.nodup_cons.mp nd).1 hm
  have hl2:upd H a (.lst vs') l=some (.lst (ls.map V.ref)):=by rw [upd_ne nla]; exact hl
  refine ok.chg e e1 (.inr ⟨l,ls,rfl,hl,hm⟩) ⟨l,ls,rfl,hW,hl2,nd,by rw [List.length_set]; exact hi.1,fun k es b q1 q2=>?_⟩ fun b o=>?_
  · rcases getset q1 with ⟨rfl,z,_⟩ | ⟨hk,q'⟩
    · cases z
      rw [ha] at q2; cases q2
      exact ⟨hWa,vs',upd_same,ok.reps st r⟩
    · obtain ⟨hWb,us,hb,rb⟩:=hi.2 k es b q' q2
      refine ⟨hWb,us,?_,ok.reps st rb⟩
      have hne:b ≠ a:=fun z=>hk (by
        subst z
        exact nodup_at (List.nodup_cons.mp nd).2 ha q2)
      rw [upd_ne hne]; exact hb
  · rcases o with o | ⟨l',ls',z,q,hb⟩
    · exact .inl o
    · cases z
      rw [hl2] at q
      have:=refs_inj (by simpa using q)
      subst this
      exact .inr ⟨l,ls,rfl,hl,hb⟩
end
end L2
set_option Elab.async false
set_option linter.all false
set_option maxRecDepth 100000
set_option maxHeartbeats 4000000
noncomputable section
namespace L2
open PySem PySem.Spec PyProof.Rows
abbrev FE:=DE0→Option (D × DE0)
abbrev FT:=DE0→Option (Bool × DE0)
abbrev FA:=DE0→Option (List D × DE0)
def tD (K:PySem.W.Frag) (G:Addr→Prop) (H0:Hp) (f:FE):TE:=fun σ H Q=>∃ W env d env',Ok K G H0 W env σ H∧f env=some (d,env') ∧
  ∀ W' v H',Step W H W' H'→Ok K G H0 W' env' σ H'→Rep K H' (Ow G W') d v→Q v H'
def tDT (K:PySem.W.Frag) (G:Addr→Prop) (H0:Hp) (f:FT):TT:=fun σ H Q=>∃ W env b env',Ok K G H0 W env σ H∧f env=some (b,env') ∧
  ∀ W' H',Step W H W' H'→Ok K G H0 W' env' σ H'→Q b H'
def tDA (K:PySem.W.Frag) (G:Addr→Prop) (H0:Hp) (f:FA):TA:=fun σ H Q=>∃ W env ds env',Ok K G H0 W env σ H∧f env=some (ds,env') ∧
  ∀ W' vs H',Step W H W' H'→Ok K G H0 W' env' σ H'→Reps K H' (Ow G W') ds vs→Q vs H'
def tDF (K:PySem.W.Frag) (G:Addr→Prop) (H0:Hp) (f:FA):TE:=fun σ H Q=>∃ W env ds env',Ok K G H0 W env σ H∧f env=some (ds,env') ∧
  ∀ W' l vs H',Step W H (addW W' l) H'→Ok K G H0 W' env' σ H'→Ok K G H0 (addW W' l) env' σ H'→¬ W' l→H' l=some (.lst vs)→Reps K H' (Ow G (addW W' l)) ds vs→Q (.ref l) H'
def DEx (X:Cx) (G:Addr→Prop) (H0:Hp) (e:Expr) (f:FE):Prop:=PE X e (tD X.K G H0 f)
def DTx (X:Cx) (G:Addr→Prop) (H0:Hp) (e:Expr) (f:FT):Prop:=PT X e (tDT X.K G H0 f)
def DAx (X:Cx) (G:Addr→Prop) (H0:Hp) (es:List Expr) (f:FA):Prop:=PA X es (tDA X.K G H0 f)
def DFx (X:Cx) (G:Addr→Prop) (H0:Hp) (e:Expr) (f:FA):Prop:=PE X e (tDF X.K G H0 f)
theorem PE.imp {X:Cx} {e:Expr} {t t':TE} (h:PE X e t) (i:∀ σ H Q,t' σ H Q→t σ H Q):PE X e t':=fun pins s σ H Q I q=>h pins s σ H Q I (i σ H Q q)
theorem PT.imp {X:Cx} {e:Expr} {t t':TT} (h:PT X e t) (i:∀ σ H Q,t' σ H Q→t σ H Q):PT X e t':=fun pins s σ H Q I q=>h pins s σ H Q I (i σ H Q q)
theorem PA.imp {X:Cx} {e:List Expr} {t t':TA} (h:PA X e t) (i:∀ σ H Q,t' σ H Q→t σ H Q):PA X e t':=fun pos pins s σ H Q I q=>h pos pins s σ H Q I (i σ H Q q)
@[simp] def fVar (i:Nat):FE:=fun e=>match e[i]? with
  | some (some (.sh d))=>some (d,e)
  | some (some (.ow ds))=>some (.lst ds,e.set i (some (.sh (.lst ds))))
  | some (some (.o2 dss))=>some (.lst (dss.map D.lst),e.set i (some (.sh (.lst (dss.map D.lst)))))
  | _=>none
@[simp] def fC (d:D):FE:=fun e=>some (d,e)
@[simp] def fBin (op:D→D→Option D) (f g:FE):FE:=fun e=>(f e).bind fun r=>(g r.2).bind fun q=>(op r.1 q.1).map fun d=>(d,q.2)
@[simp] def fUn (op:D→Option D) (f:FE):FE:=fun e=>(f e).bind fun r=>(op r.1).map fun d=>(d,r.2)
@[simp] def fAnd (f g:FT):FT:=fun e=>(f e).bind fun r=>if r.1=true then g r.2 else some (false,r.2)
@[simp] def fOr (f g:FT):FT:=fun e=>(f e).bind fun r=>if r.1=true then some (true,r.2) else g r.2
@[simp] def fNot (f:FT):FT:=fun e=>(f e).map fun r=>(!r.1,r.2)
@[simp] def fTst (f:FE):FT:=fun e=>(f e).bind fun r=>match r.1 with | .bl b=>some (b,r.2) | _=>none
@[simp] def fAndV (f g:FE):FE:=fun e=>(f e).bind fun r=>match r.1 with | .bl true=>g r.2 | .bl false=>some (.bl false,r.2) | _=>none
@[simp] def fOrV (f g:FE):FE:=fun e=>(f e).bind fun r=>match r.1 with | .bl true=>some (.bl true,r.2) | .bl false=>g r.2 | _=>none
@[simp] def fNotV (f:FE):FE:=fun e=>(f e).bind fun r=>match r.1 with | .bl b=>some (.bl (!b),r.2) | _=>none
@[simp] def fIf (c:FT) (f g:FE):FE:=fun e=>(c e).bind fun r=>if r.1=true then f r.2 else g r.2
@[simp] def fNil:FA:=fun e=>some ([],e)
@[simp] def fCons (f:FE) (g:FA):FA:=fun e=>(f e).bind fun r=>(g r.2).bind fun q=>some (r.1::q.1,q.2)
@[simp] def fTup (g:FA):FE:=fun e=>(g e).bind fun r=>if r.1.length≤64 then some (.tup r.1,r.2) else none
@[simp] def fDisp (g:FA):FA:=fun e=>(g e).bind fun r=>if r.1.length≤64 then some (r.1,r.2) else none
@[simp] def fLst (g:FA):FE:=fun e=>(g e).map fun r=>(.lst r.1,r.2)
@[simp] def dAddI:D→D→Option D | .int i,.int j=>some (.int (i + j)) | _,_=>none
@[simp] def dSub:D→D→Option D | .int i,.int j=>some (.int (i - j)) | _,_=>none
def Small (i:Int):Prop:=-(2 ^ 64) < i∧i < 2 ^ 64
noncomputable instance (i:Int):Decidable (Small i):=Classical.propDecidable _
def Few (n:Nat):Prop:=n≤2 ^ 20
noncomputable instance (n:Nat):Decidable (Few n):=Classical.propDecidable _
def Bnd (lo hi i:Int):Prop:=lo≤i∧i < hi
noncomputable instance (lo hi i:Int):Decidable (Bnd lo hi i):=Classical.propDecidable _
def dMul:D→D→Option D | .int i,.int j=>if Small i∨Small j then some (.int (i * j)) else none | _,_=>none
def dMod:D→D→Option D | .int i,.int j=>if 0 < j then some (.int (i % j)) else none | _,_=>none
def dDiv:D→D→Option D | .int i,.int j=>if Bnd 1 1073741824 j then some (.int (i / j)) else none | _,_=>none
@[simp] def dNeg:D→Option D | .int i=>some (.int (-i)) | _=>none
@[simp] def dLt:D→D→Option D | .int i,.int j=>some (.bl (decide (i < j))) | _,_=>none
@[simp] def dLe:D→D→Option D | .int i,.int j=>some (.bl (decide (i≤j))) | _,_=>none
@[simp] def dGt:D→D→Option D | .int i,.int j=>some (.bl (decide (j < i))) | _,_=>none
@[simp] def dGe:D→D→Option D | .int i,.int j=>some (.bl (decide (j≤i))) | _,_=>none
@[simp] def dEq:D→D→Option D
  | .int i,.int j=>some (.bl (decide (i=j))) | .str i,.str j=>some (.bl (decide (i=j))) | .bl i,.bl j=>some (.bl (decide (i=j))) | _,_=>none
@[simp] def dNe:D→D→Option D
  | .int i,.int j=>some (.bl (!decide (i=j))) | .str i,.str j=>some (.bl (!decide (i=j))) | .bl i,.bl j=>some (.bl (!decide (i=j))) | _,_=>none
@[simp] def dIx:D→D→Option D | .tup ds,.int i=>atI ds i | .lst ds,.int i=>atI ds i | _,_=>none
section
variable {X:Cx} {G:Addr→Prop} {H0:Hp} {a b c e:Expr} {f g:FE} {pos:Pos}
def OpD (X:Cx) (G:Addr→Prop) (H0:Hp) (r:R2) (op:D→D→Option D):Prop :=
  ∀ W env σ H x y d1 d2 d (Q:VK),Ok X.K G H0 W env σ H→Rep X.K H (Ow G W) d1 x→Rep X.K H (Ow G W) d2 y→op d1 d2=some d →
    (∀ v H',Step W H W H'→Ok X.K G H0 W env σ H'→Rep X.K H' (Ow G W) d v→Q v H')→r x y H Q
theorem tOp_D {r:R2} {op:D→D→Option D} (ho:OpD X G H0 r op):∀ σ H Q,tD X.K G H0 (fBin op f g) σ H Q→tOp r (tD X.K G H0 f) (tD X.K G H0 g) σ H Q:=by
  rintro σ H Q ⟨W,env,d,env',ok,e,k⟩
  cases e1:f env with
  | none=>simp [fBin,e1] at e
  | some r1 =>
    cases e2:g r1.2 with
    | none=>simp [fBin,e1,e2] at e
    | some r2 =>
      have e:(op r1.1 r2.1).map (fun d=>(d,r2.2))=some (d,env'):=by simpa [fBin,e1,e2] using e
      cases e3:op r1.1 r2.1 with
      | none=>rw [e3] at e; cases e
      | some d' =>
        rw [e3] at e
        have e4:(d',r2.2)=(d,env'):=Option.some.inj e
        cases e4
        refine ⟨W,env,r1.1,r1.2,ok,e1,fun W1 v1 H1 s1 ok1 p1=>⟨W1,r1.2,r2.1,r2.2,ok1,e2,fun W2 v2 H2 s2 ok2 p2=>?_⟩⟩
        exact ho W2 _ σ H2 v1 v2 _ _ _ Q ok2 (ok1.rep s2 p1) p2 e3 fun v H3 s3 ok3 p3=>k W2 v H3 ((s1.trans s2).trans s3) ok3 p3
theorem de_bin {op:Operator} {r:R2} {p:D→D→Option D} (ho:OpR X (binaryOp op) r) (hd:OpD X G H0 r p) (ha:DEx X G H0 a f) (hb:DEx X G H0 b g):DEx X G H0 (.BinOp a op b pos) (fBin p f g) :=
  (pe_op ho ha hb).imp (tOp_D hd)
theorem de_cmp {op:CmpOp} {r:R2} {p:D→D→Option D} (ho:OpR X (compareOp op) r) (hd:OpD X G H0 r p) (ha:DEx X G H0 a f) (hb:DEx X G H0 b g) (hm:behindInMarks op b=false):DEx X G H0 (.Compare a [op] [b] pos) (fBin p f g) :=
  (pe_cmpR ho ha hb hm).imp (tOp_D hd)
theorem de_ixR {r:R2} {p:D→D→Option D} (hr:IxR X r) (hd:OpD X G H0 r p) (ha:DEx X G H0 a f) (hb:DEx X G H0 b g) (hs:PlainIx b):DEx X G H0 (.Subscript a b pos) (fBin p f g) :=
  (pe_ix hr ha hb hs).imp (tOp_D hd)
theorem tst_D {t:TE} {f:FE} (h:∀ σ H Q,tD X.K G H0 f σ H Q→t σ H Q):∀ σ H Q,tDT X.K G H0 (fTst f) σ H Q→tTest t σ H Q:=by
  rintro σ H Q ⟨W,env,b,env',ok,e,k⟩
  refine h σ H _ ?_
  cases e1:f env with
  | none=>simp [fTst,e1] at e
  | some r1 =>
    obtain ⟨d,env1⟩:=r1
    cases d with
    | bl b' =>
      have e:some (b',env1)=some (b,env'):=by simpa [fTst,e1] using e
      cases e
      exact ⟨W,env,_,_,ok,e1,fun W1 v1 H1 s1 ok1 p1=>⟨_,p1.bl_,k W1 H1 s1 ok1⟩⟩
    | _=>simp [fTst,e1] at e
theorem dt_cmp {op:CmpOp} {r:R2} {p:D→D→Option D} (ho:OpR X (compareOp op) r) (hd:OpD X G H0 r p) (ha:DEx X G H0 a f) (hb:DEx X G H0 b g) (hm:behindInMarks op b=false):DTx X G H0 (.Compare a [op] [b] pos) (fTst (fBin p f g)) :=
  (pt_cmpR ho ha hb hm).imp (tst_D (tOp_D hd))
theorem od_I {C:Int→Int→Prop} {g:Int→Int→Int} {op:D→D→Option D} (h:∀ d1 d2 d,op d1 d2=some d→∃ i j,d1=.int i∧d2=.int j∧C i j∧d=.int (g i j)):OpD X G H0 (rI C fun i j=>.int (g i j)) op:=by
  intro W env σ H x y d1 d2 d Q ok p1 p2 e k
  obtain ⟨i,j,rfl,rfl,hc,rfl⟩:=h _ _ _ e
  exact ⟨i,j,p1.int_,p2.int_,hc,k _ H Step.refl ok (.int _)⟩
theorem od_I0 {g:Int→Int→Int} {op:D→D→Option D} (h:∀ d1 d2 d,op d1 d2=some d→∃ i j,d1=.int i∧d2=.int j∧d=.int (g i j)):OpD X G H0 (rI0 fun i j=>.int (g i j)) op:=by
  intro W env σ H x y d1 d2 d Q ok p1 p2 e k
  obtain ⟨i,j,rfl,rfl,rfl⟩:=h _ _ _ e
  exact ⟨i,j,p1.int_,p2.int_,k _ H Step.refl ok (.int _)⟩
theorem od_B0 {g:Int→Int→Bool} {op:D→D→Option D} (h:∀ d1 d2 d,op d1 d2=some d→∃ i j,d1=.int i∧d2=.int j∧d=.bl (g i j)):OpD X G H0 (rI0 fun i j=>.bl (g i j)) op:=by
  intro W env σ H x y d1 d2 d Q ok p1 p2 e k
  obtain ⟨i,j,rfl,rfl,rfl⟩:=h _ _ _ e
  exact ⟨i,j,p1.int_,p2.int_,k _ H Step.refl ok (.bl _)⟩
theorem od_add:OpD X G H0 (rI0 fun i j=>.int (i + j)) dAddI:=od_I0 fun d1 d2 d e=>by
  cases d1 <;> cases d2 <;> first | (cases e; done) | exact ⟨_,_,rfl,rfl,(Option.some.inj e).symm⟩
theorem od_sub:OpD X G H0 (rI0 fun i j=>.int (i - j)) dSub:=od_I0 fun d1 d2 d e=>by
  cases d1 <;> cases d2 <;> first | (cases e; done) | exact ⟨_,_,rfl,rfl,(Option.some.inj e).symm⟩
theorem od_mul:OpD X G H0 (rI CMul fun i j=>.int (i * j)) dMul:=od_I fun d1 d2 d e=>by
  cases d1 <;> cases d2 <;> first
    | (cases e; done)
    | (rename_i i j
       by_cases h:Small i∨Small j
       · simp only [dMul,if_pos h] at e; exact ⟨_,_,rfl,rfl,h,(Option.some.inj e).symm⟩
       · simp only [dMul,if_neg h] at e; cases e)
theorem od_mod:OpD X G H0 (rI (fun _ j=>0 < j) fun i j=>.int (i % j)) dMod:=od_I fun d1 d2 d e=>by
  cases d1 <;> cases d2 <;> first
    | (cases e; done)
    | (rename_i i j
       by_cases h:0 < j
       · simp only [dMod,if_pos h] at e; exact ⟨_,_,rfl,rfl,h,(Option.some.inj e).symm⟩
       · simp only [dMod,if_neg h] at e; cases e)
theorem od_div:OpD X G H0 (rI CDiv fun i j=>.int (i / j)) dDiv:=od_I fun d1 d2 d e=>by
  cases d1 <;> cases d2 <;> first
    | (cases e; done)
    | (rename_i i j
       by_cases h:Bnd 1 1073741824 j
       · simp only [dDiv,if_pos h] at e; exact ⟨_,_,rfl,rfl,⟨by have:=h.1; omega,h.2⟩,(Option.some.inj e).symm⟩
       · simp only [dDiv,if_neg h] at e; cases e)
theorem od_lt:OpD X G H0 (rI0 fun i j=>.bl (decide (i < j))) dLt:=od_B0 fun d1 d2 d e=>by
  cases d1 <;> cases d2 <;> first | (cases e; done) | exact ⟨_,_,rfl,rfl,(Option.some.inj e).symm⟩
theorem od_gt:OpD X G H0 (rI0 fun i j=>.bl (decide (j < i))) dGt:=od_B0 fun d1 d2 d e=>by
  cases d1 <;> cases d2 <;> first | (cases e; done) | exact ⟨_,_,rfl,rfl,(Option.some.inj e).symm⟩
theorem od_ge:OpD X G H0 (rI0 fun i j=>.bl (decide (j≤i))) dGe:=od_B0 fun d1 d2 d e=>by
  cases d1 <;> cases d2 <;> first | (cases e; done) | exact ⟨_,_,rfl,rfl,(Option.some.inj e).symm⟩
theorem dv_int (i j:Int):decide (V.int i=V.int j)=decide (i=j):=by simp
theorem dv_str (i j:Str):decide (V.str i=V.str j)=decide (i=j):=by simp
theorem dv_bl (i j:Bool):decide (V.bl i=V.bl j)=decide (i=j):=by simp
theorem od_eq:OpD X G H0 rEq dEq:=by
  intro W env σ H x y d1 d2 d Q ok p1 p2 e k
  cases d1 <;> cases d2 <;> first
    | (cases e; done)
    | (cases e; cases p1; cases p2
       refine ⟨rfl,?_⟩
       first
         | (rw [dv_int]; exact k _ H Step.refl ok (.bl _))
         | (rw [dv_str]; exact k _ H Step.refl ok (.bl _))
         | (rw [dv_bl]; exact k _ H Step.refl ok (.bl _)))
theorem od_ne:OpD X G H0 rNe dNe:=by
  intro W env σ H x y d1 d2 d Q ok p1 p2 e k
  cases d1 <;> cases d2 <;> first
    | (cases e; done)
    | (cases e; cases p1; cases p2
       refine ⟨rfl,?_⟩
       first
         | (rw [dv_int]; exact k _ H Step.refl ok (.bl _))
         | (rw [dv_str]; exact k _ H Step.refl ok (.bl _))
         | (rw [dv_bl]; exact k _ H Step.refl ok (.bl _)))
theorem atI_rep {K:PySem.W.Frag} {H:Hp} {O:Addr→Prop} {ds:List D} {vs:List V} {i:Int} {d:D} (r:Reps K H O ds vs) (h:atI ds i=some d):∃ v,atI vs i=some v∧Rep K H O d v:=by
  unfold atI at h ⊢
  rw [← r.length]
  cases q:ixN ds.length i with
  | none=>rw [q] at h; cases h
  | some j=>rw [q] at h; exact r.get h
theorem od_ix:OpD X G H0 (rIx X.K) dIx:=by
  intro W env σ H x y d1 d2 d Q ok p1 p2 e k
  cases d1 <;> first
    | (cases e; done)
    | (cases d2 <;> first
        | (cases e; done)
        | (cases p2
           first
             | (obtain ⟨a, vs, rfl, h, r⟩ := p1.tup_
                obtain ⟨v,e1,r1⟩:=atI_rep r e
                exact .inr (.inl ⟨a,vs,_,v,rfl,rfl,SqT.of h,e1,k _ H Step.refl ok r1⟩))
             | (obtain ⟨a, vs, rfl, h, r⟩ := p1.lst_
                obtain ⟨v,e1,r1⟩:=atI_rep r e
                exact .inl ⟨a,vs,_,v,rfl,rfl,h.sq,e1,k _ H Step.refl ok r1⟩)))
theorem de_add (ha:DEx X G H0 a f) (hb:DEx X G H0 b g):DEx X G H0 (.BinOp a .Add b pos) (fBin dAddI f g):=de_bin op_add od_add ha hb
theorem de_sub (ha:DEx X G H0 a f) (hb:DEx X G H0 b g):DEx X G H0 (.BinOp a .Sub b pos) (fBin dSub f g):=de_bin op_sub od_sub ha hb
theorem de_mul (ha:DEx X G H0 a f) (hb:DEx X G H0 b g):DEx X G H0 (.BinOp a .Mult b pos) (fBin dMul f g):=de_bin op_mul od_mul ha hb
theorem de_mod (ha:DEx X G H0 a f) (hb:DEx X G H0 b g):DEx X G H0 (.BinOp a .Mod b pos) (fBin dMod f g):=de_bin op_mod od_mod ha hb
theorem de_div (ha:DEx X G H0 a f) (hb:DEx X G H0 b g):DEx X G H0 (.BinOp a .FloorDiv b pos) (fBin dDiv f g):=de_bin op_fdiv od_div ha hb
theorem de_gt (ha:DEx X G H0 a f) (hb:DEx X G H0 b g):DEx X G H0 (.Compare a [.Gt] [b] pos) (fBin dGt f g):=de_cmp op_gt od_gt ha hb (nomark _)
theorem dt_lt (ha:DEx X G H0 a f) (hb:DEx X G H0 b g):DTx X G H0 (.Compare a [.Lt] [b] pos) (fTst (fBin dLt f g)):=dt_cmp op_lt od_lt ha hb (nomark _)
theorem dt_gt (ha:DEx X G H0 a f) (hb:DEx X G H0 b g):DTx X G H0 (.Compare a [.Gt] [b] pos) (fTst (fBin dGt f g)):=dt_cmp op_gt od_gt ha hb (nomark _)
theorem dt_ge (ha:DEx X G H0 a f) (hb:DEx X G H0 b g):DTx X G H0 (.Compare a [.GtE] [b] pos) (fTst (fBin dGe f g)):=dt_cmp op_ge od_ge ha hb (nomark _)
theorem dt_eq (ha:DEx X G H0 a f) (hb:DEx X G H0 b g):DTx X G H0 (.Compare a [.Eq] [b] pos) (fTst (fBin dEq f g)):=dt_cmp op_eq od_eq ha hb (nomark _)
theorem dt_ne (ha:DEx X G H0 a f) (hb:DEx X G H0 b g):DTx X G H0 (.Compare a [.NotEq] [b] pos) (fTst (fBin dNe f g)):=dt_cmp op_ne od_ne ha hb (nomark _)
theorem de_ix (ha:DEx X G H0 a f) (hb:DEx X G H0 b g) (hs:PlainIx b:=by intro _ _; rfl):DEx X G H0 (.Subscript a b pos) (fBin dIx f g):=de_ixR ix_seq od_ix ha hb hs
theorem de_var (i:Nat) {x:Str} (hN:X.N[i]?=some x:=by rfl) (hv:Vis X.env.scope x:=by first | exact Or.inl rfl | exact Or.inr (Or.inl rfl) | exact Or.inr (Or.inr rfl)) (hd:(x==("__debug__" : Str))=false:=by decide)
    (hcd:(x==("__classdict__" : Str))=false:=by decide):DEx X G H0 (.Name x pos) (fVar i):=(pe_var hN hv hd hcd).imp fun σ H Q ⟨W,env,d,env',ok,e,k⟩=>by
  unfold fVar at e
  cases q:env[i]? with
  | none=>rw [q] at e; cases e
  | some o =>
    cases o with
    | none=>rw [q] at e; cases e
    | some sl =>
      cases sl with
      | sh d' =>
        rw [q] at e; cases e
        obtain ⟨v,e1,r⟩:=ok.slot i _ q
        exact ⟨v,e1,k W v H Step.refl ok r⟩
      | ow ds =>
        rw [q] at e; cases e
        obtain ⟨W',v,e1,st,ok',r⟩:=ok.share q
        exact ⟨v,e1,k W' v H st ok' r⟩
      | o2 dss =>
        rw [q] at e; cases e
        obtain ⟨W',v,e1,st,ok',r⟩:=ok.share2 q
        exact ⟨v,e1,k W' v H st ok' r⟩
theorem de_c {d:D} {v:V} (h:PE X e (tC v)) (r:∀ H O,Rep X.K H O d v):DEx X G H0 e (fC d):=h.imp fun σ H Q ⟨W,env,d',env',ok,q,k⟩=>by
  cases q
  exact k W v H Step.refl ok (r _ _)
theorem de_int {i:Int} {j:Nat}:DEx X G H0 (.Constant (.int i) j pos) (fC (.int i)):=de_c pe_int fun _ _=>.int _
theorem de_bl {i:Bool} {j:Nat}:DEx X G H0 (.Constant (.bool i) j pos) (fC (.bl i)):=de_c pe_bl fun _ _=>.bl _
theorem de_neg (ha:DEx X G H0 a f):DEx X G H0 (.UnaryOp .USub a pos) (fUn dNeg f):=(pe_un un_neg ha).imp fun σ H Q ⟨W,env,d',env',ok,q,k⟩=>by
  cases e1:f env with
  | none=>simp [fUn,e1] at q
  | some r =>
    obtain ⟨d,env1⟩:=r
    cases d with
    | int i =>
      have q:some (D.int (-i),env1)=some (d',env'):=by simpa [fUn,e1,dNeg] using q
      cases q
      exact ⟨W,env,_,_,ok,e1,fun W1 v1 H1 s1 ok1 p1=>⟨i,p1.int_,k W1 _ H1 s1 ok1 (.int _)⟩⟩
    | _=>simp [fUn,e1,dNeg] at q
end
end L2
end
set_option Elab.async false
set_option linter.all false
set_option maxRecDepth 100000
set_option maxHeartbeats 4000000
noncomputable section
namespace L2
open PySem PySem.Spec PyProof.Rows
section
variable {X:Cx} {G:Addr→Prop} {H0:Hp} {a b c e:Expr} {es rest:List Expr} {f g:FE} {F:FA} {p q:FT} {pos:Pos}
def DWx (X:Cx) (G:Addr→Prop) (H0:Hp) (e:Expr) (f:FT):Prop:=PW X e (tDT X.K G H0 f)
theorem PW.imp {X:Cx} {e:Expr} {t t':TT} (h:PW X e t) (i:∀ σ H Q,t' σ H Q→t σ H Q):PW X e t':=fun w pins s σ H Q I q=>h w pins s σ H Q I (i σ H Q q)
theorem dt_w (h:DWx X G H0 e p):DTx X G H0 e p:=PW.pt h
theorem dw_and1 (h:DTx X G H0 a p):DWx X G H0 (.BoolOp .And [a] pos) p:=pw_and1 h
theorem dw_or1 (h:DTx X G H0 a p):DWx X G H0 (.BoolOp .Or [a] pos) p:=pw_or1 h
theorem dw_and (h:DTx X G H0 a p) (h2:DWx X G H0 (.BoolOp .And (b::rest) pos) q):DWx X G H0 (.BoolOp .And (a::b::rest) pos) (fAnd p q):=(pw_and h h2).imp fun σ H Q ⟨W,env,d,env',ok,e,k⟩=>by
  cases e1:p env with
  | none=>simp [fAnd,e1] at e
  | some r =>
    obtain ⟨t,env1⟩:=r
    refine ⟨W,env,t,env1,ok,e1,fun W1 H1 s1 ok1=>?_⟩
    cases t with
    | true =>
      rw [if_pos rfl]
      exact ⟨W1,env1,d,env',ok1,by simpa [fAnd,e1] using e,fun W2 H2 s2 ok2=>k W2 H2 (s1.trans s2) ok2⟩
    | false =>
      rw [if_neg Bool.false_ne_true]
      have e:some (false,env1)=some (d,env'):=by simpa [fAnd,e1] using e
      cases e
      exact k W1 H1 s1 ok1
theorem dw_or (h:DTx X G H0 a p) (h2:DWx X G H0 (.BoolOp .Or (b::rest) pos) q):DWx X G H0 (.BoolOp .Or (a::b::rest) pos) (fOr p q):=(pw_or h h2).imp fun σ H Q ⟨W,env,d,env',ok,e,k⟩=>by
  cases e1:p env with
  | none=>simp [fOr,e1] at e
  | some r =>
    obtain ⟨t,env1⟩:=r
    refine ⟨W,env,t,env1,ok,e1,fun W1 H1 s1 ok1=>?_⟩
    cases t with
    | false =>
      rw [if_neg Bool.false_ne_true]
      exact ⟨W1,env1,d,env',ok1,by simpa [fOr,e1] using e,fun W2 H2 s2 ok2=>k W2 H2 (s1.trans s2) ok2⟩
    | true =>
      rw [if_pos rfl]
      have e:some (true,env1)=some (d,env'):=by simpa [fOr,e1] using e
      cases e
      exact k W1 H1 s1 ok1
theorem dt_not (h:DTx X G H0 a p):DTx X G H0 (.UnaryOp .Not a pos) (fNot p):=(pt_not h).imp fun σ H Q ⟨W,env,d,env',ok,e,k⟩=>by
  cases e1:p env with
  | none=>simp [fNot,e1] at e
  | some r =>
    have e:some (!r.1,r.2)=some (d,env'):=by simpa [fNot,e1] using e
    cases e
    exact ⟨W,env,_,_,ok,e1,fun W1 H1 s1 ok1=>k W1 H1 s1 ok1⟩
theorem dt_val (h:DEx X G H0 a f) (he:∀ whole,isTrue a X.env whole=(do let v ← whole; standAt a.pos; holding [v] (truthy v)):=by intro _; rfl):DTx X G H0 a (fTst f):=(pt_val h he).imp (tst_D fun _ _ _ z=>z)
theorem de_one {op:BoolOp} (h:DEx X G H0 a f):DEx X G H0 (.BoolOp op [a] pos) f:=pe_one h
theorem de_and (h:DEx X G H0 a f) (h2:DEx X G H0 (.BoolOp .And (b::rest) pos) g):DEx X G H0 (.BoolOp .And (a::b::rest) pos) (fAndV f g):=(pe_and h h2).imp fun σ H Q ⟨W,env,d,env',ok,e,k⟩=>by
  cases e1:f env with
  | none=>simp [fAndV,e1] at e
  | some r =>
    obtain ⟨t,env1⟩:=r
    refine ⟨W,env,t,env1,ok,e1,fun W1 v1 H1 s1 ok1 p1=>?_⟩
    cases t with
    | bl t =>
      refine ⟨t,p1.bl_,?_⟩
      cases t with
      | true =>
        rw [if_pos rfl]
        exact ⟨W1,env1,d,env',ok1,by simpa [fAndV,e1] using e,fun W2 v2 H2 s2 ok2 p2=>k W2 v2 H2 (s1.trans s2) ok2 p2⟩
      | false =>
        rw [if_neg Bool.false_ne_true]
        have e:some (D.bl false,env1)=some (d,env'):=by simpa [fAndV,e1] using e
        cases e
        exact k W1 _ H1 s1 ok1 (.bl _)
    | _=>simp [fAndV,e1] at e
theorem de_not (h:DEx X G H0 a f):DEx X G H0 (.UnaryOp .Not a pos) (fNotV f):=(pe_not h).imp fun σ H Q ⟨W,env,d,env',ok,e,k⟩=>by
  cases e1:f env with
  | none=>simp [fNotV,e1] at e
  | some r =>
    obtain ⟨t,env1⟩:=r
    refine ⟨W,env,t,env1,ok,e1,fun W1 v1 H1 s1 ok1 p1=>?_⟩
    cases t with
    | bl t =>
      have e:some (D.bl (!t),env1)=some (d,env'):=by simpa [fNotV,e1] using e
      cases e
      exact ⟨t,p1.bl_,k W1 _ H1 s1 ok1 (.bl _)⟩
    | _=>simp [fNotV,e1] at e
theorem da_nil:DAx X G H0 [] fNil:=pa_nil.imp fun σ H Q ⟨W,env,ds,env',ok,e,k⟩=>by
  cases e
  exact k W [] H Step.refl ok .nil
theorem da_cons (ha:DEx X G H0 e f) (hr:DAx X G H0 es F) (hs:starEach (e::es) X.env=(false,eval e X.env)::starEach es X.env:=by rfl):DAx X G H0 (e::es) (fCons f F):=(pa_cons ha hr hs).imp fun σ H Q ⟨W,env,ds,env',ok,q,k⟩=>by
  cases e1:f env with
  | none=>simp [fCons,e1] at q
  | some r =>
    obtain ⟨d,env1⟩:=r
    cases e2:F env1 with
    | none=>simp [fCons,e1,e2] at q
    | some r2 =>
      have q:some (d::r2.1,r2.2)=some (ds,env'):=by simpa [fCons,e1,e2] using q
      cases q
      exact ⟨W,env,d,env1,ok,e1,fun W1 v1 H1 s1 ok1 p1=>⟨W1,env1,_,_,ok1,e2,fun W2 vs H2 s2 ok2 p2=>k W2 _ H2 (s1.trans s2) ok2 (.cons (ok1.rep s2 p1) p2)⟩⟩
theorem le64 {n:Nat} (h:n≤64):n≤sizeLine:=Nat.le_trans h (by rw [sizeLine_eq]; decide)
theorem de_tup {k1} (h:DAx X G H0 es F):DEx X G H0 (.Tuple es k1 pos) (fTup F):=(pe_tup h).imp fun σ H Q ⟨W,env,d,env',ok,q,k⟩=>by
  cases e1:F env with
  | none=>simp [fTup,e1] at q
  | some r =>
    obtain ⟨ds,env1⟩:=r
    by_cases hl:ds.length≤64
    · have q:some (D.tup ds,env1)=some (d,env'):=by simpa [fTup,e1,hl] using q
      cases q
      refine ⟨W,env,ds,_,ok,e1,fun W1 vs H1 s1 ok1 p1=>⟨by rw [← p1.length]; exact le64 hl,fun l hn=>?_⟩⟩
      have sm:Same H1 (upd H1 l (.tup vs)):=same_upd hn
      have st:Step W1 H1 W1 (upd H1 l (.tup vs)):=Step.same sm
      exact k W1 _ _ (s1.trans st) (ok1.same sm) (.tup upd_same (ok1.reps st p1))
    · simp [fTup,e1,hl] at q
theorem laid_D {W:Addr→Prop} {env:DE0} {σ:St} {H:Hp} {l:Addr} {vs:List V} {ds:List D} (ok:Ok X.K G H0 W env σ H) (r:Reps X.K H (Ow G W) ds vs) (hn:H l=none) :
    Step W H (addW W l) (upd H l (.lst vs))∧Ok X.K G H0 W env σ (upd H l (.lst vs))∧Ok X.K G H0 (addW W l) env σ (upd H l (.lst vs))∧¬ W l∧upd H l (.lst vs) l=some (.lst vs)∧Reps X.K (upd H l (.lst vs)) (Ow G (addW W l)) ds vs:=by
  have sm:Same H (upd H l (.lst vs)):=same_upd hn
  obtain ⟨h1,h2,h3,h4,h5⟩:=ok.fresh (l:=l) (vs:=vs) (ds:=ds) sm hn upd_same ((r.mono (O':=fun a=>(Ow G W a∨H a=none)∧a ≠ l) (fun _ _ h=>sm _ _ h) fun a us o h=>⟨⟨.inl o,fun z=>by
    subst z
    have h2:Rd H a (.lst us):=h
    rcases h2 with h2 | ⟨_,h2⟩ <;> rw [hn] at h2 <;> cases h2⟩,h.keep fun o e=>sm _ o e⟩))
  exact ⟨h5,ok.same sm,h3,h1,upd_same,h4⟩
theorem df_lst (h:DAx X G H0 es F):DFx X G H0 (.List es pos) (fDisp F):=(pe_lst h).imp fun σ H Q ⟨W,env,d,env',ok,q,k⟩=>by
  cases e1:F env with
  | none=>simp [fDisp,e1] at q
  | some r =>
    obtain ⟨ds,env1⟩:=r
    by_cases hl:ds.length≤64
    · have q:some (ds,env1)=some (d,env'):=by simpa [fDisp,e1,hl] using q
      cases q
      refine ⟨W,env,_,_,ok,e1,fun W1 vs H1 s1 ok1 p1=>⟨by rw [← p1.length]; exact le64 hl,fun l hn=>?_⟩⟩
      obtain ⟨h1,h2,h3,h4,h5,h6⟩:=laid_D ok1 p1 hn
      exact k W1 l vs _ (s1.trans h1) h2 h3 h4 h5 h6
    · simp [fDisp,e1,hl] at q
theorem de_fr (h:DFx X G H0 e F):DEx X G H0 e (fLst F):=h.imp fun σ H Q ⟨W,env,d,env',ok,q,k⟩=>by
  cases e1:F env with
  | none=>simp [fLst,e1] at q
  | some r =>
    have q:some (D.lst r.1,r.2)=some (d,env'):=by simpa [fLst,e1] using q
    cases q
    refine ⟨W,env,_,_,ok,e1,fun W1 l vs H1 s1 ok1 ok2 nW hl rp=>k W1 _ H1 ⟨s1.keep,fun a z=>s1.ws a (.inl z)⟩ ok1 (.lst ⟨ok1.good l (ok2.wl l (.inr rfl)).1,nW⟩ (.inl hl) (rp.mono (fun _ _ h=>h) fun a us o h=>⟨⟨o.1,fun z=>o.2 (.inl z)⟩,h⟩))⟩
def dSp (K:PySem.W.Frag) (m:List D→Option D):Sp:=fun vs H Q _=>∃ O ds d,Reps K H O ds vs∧m ds=some d∧∀ v H',Same H H'→Rep K H' (fun a=>O a∨H a=none) d v→Q v H'
def fSp (K:PySem.W.Frag) (m:List D→Option (List D)):Sp:=fun vs H Q _=>∃ O ds rs,Reps K H O ds vs∧m ds=some rs∧∀ l us H',Same H H'→H l=none→H' l=some (.lst us)→Reps K H' (fun a=>(O a∨H a=none)∧a ≠ l) rs us→Q (.ref l) H'
@[simp] def fCall (m:List D→Option D) (F:FA):FE:=fun e=>(F e).bind fun r=>(m r.1).map fun d=>(d,r.2)
@[simp] def fCallF (m:List D→Option (List D)) (F:FA):FA:=fun e=>(F e).bind fun r=>(m r.1).map fun d=>(d,r.2)
theorem call_D {m:List D→Option D} {E:XK}:∀ σ H Q,tD X.K G H0 (fCall m F) σ H Q→tCall (dSp X.K m) [] E (tDA X.K G H0 F) σ H Q:=fun σ H Q ⟨W,env,d,env',ok,q,k⟩=>by
  cases e1:F env with
  | none=>simp [fCall,e1] at q
  | some r =>
    obtain ⟨ds,env1⟩:=r
    cases e2:m ds with
    | none=>simp [fCall,e1,e2] at q
    | some d' =>
      have q:some (d',env1)=some (d,env'):=by simpa [fCall,e1,e2] using q
      cases q
      refine ⟨W,env,ds,_,ok,e1,fun W1 vs H1 s1 ok1 p1=>?_⟩
      show dSp X.K m (vs++[]) H1 Q E
      rw [List.append_nil]
      refine ⟨Ow G W1,ds,_,p1,e2,fun v H2 sm r2=>?_⟩
      refine k W1 v H2 (s1.trans (Step.same sm)) (ok1.same sm) (r2.mono (fun _ _ h=>h) fun a us o h=>⟨?_,h⟩)
      rcases o with o | o
      · exact o
      · exact ⟨ok1.good a (ok1.stay.free o),fun z=>by obtain ⟨_,us,q⟩:=ok1.wl a z; rw [o] at q; cases q⟩
theorem callF_D {m:List D→Option (List D)} {E:XK}:∀ σ H Q,tDF X.K G H0 (fCallF m F) σ H Q→tCall (fSp X.K m) [] E (tDA X.K G H0 F) σ H Q:=fun σ H Q ⟨W,env,d,env',ok,q,k⟩=>by
  cases e1:F env with
  | none=>simp [fCallF,e1] at q
  | some r =>
    obtain ⟨ds,env1⟩:=r
    cases e2:m ds with
    | none=>simp [fCallF,e1,e2] at q
    | some d' =>
      have q:some (d',env1)=some (d,env'):=by simpa [fCallF,e1,e2] using q
      cases q
      refine ⟨W,env,ds,_,ok,e1,fun W1 vs H1 s1 ok1 p1=>?_⟩
      show fSp X.K m (vs++[]) H1 Q E
      rw [List.append_nil]
      refine ⟨Ow G W1,ds,_,p1,e2,fun l us H2 sm hn hl r2=>?_⟩
      obtain ⟨h1,h2,h3,h4,h5⟩:=ok1.fresh sm hn hl r2
      exact k W1 l us H2 (s1.trans h5) (ok1.same sm) h3 h1 hl h4
variable {CX:CXT} {k:Nat} {fa:Addr} {fd:FuncData} {ps:List Str} {m:List D→Option D} {mF:List D→Option (List D)} {x:Str} {p':Pos} {E:XK}
theorem de_call (Fn:FnOk X.prog X.w X.K X.mg X.base CX k fa fd ps (dSp X.K m)) (hr:Room k X.A) (hg:Gl X x) (hm:X.mg x=some (.ref fa)) (hk:PySem.W.keepIn X.K (.ref fa)=true) (hb:Binds X.K fd ps []) (hx:Passes CX X E) (ha:DAx X G H0 (e::es) F)
    (hdb:(x==("__debug__" : Str))=false:=by decide) (he:starEach (e::es) X.env=(false,eval e X.env)::starEach es X.env:=by rfl) (hpl:(backTo pos (starEach es X.env)).any (·.1)=false:=by rfl) :
    DEx X G H0 (.Call (.Name x p') (e::es) [] pos) (fCall m F):=(pe_call Fn hr hg hm hk hb .nil hx ha hdb he hpl).imp call_D
theorem df_call (Fn:FnOk X.prog X.w X.K X.mg X.base CX k fa fd ps (fSp X.K mF)) (hr:Room k X.A) (hg:Gl X x) (hm:X.mg x=some (.ref fa)) (hk:PySem.W.keepIn X.K (.ref fa)=true) (hb:Binds X.K fd ps []) (hx:Passes CX X E) (ha:DAx X G H0 (e::es) F)
    (hdb:(x==("__debug__" : Str))=false:=by decide) (he:starEach (e::es) X.env=(false,eval e X.env)::starEach es X.env:=by rfl) (hpl:(backTo pos (starEach es X.env)).any (·.1)=false:=by rfl) :
    DFx X G H0 (.Call (.Name x p') (e::es) [] pos) (fCallF mF F):=(pe_call Fn hr hg hm hk hb .nil hx ha hdb he hpl).imp callF_D
end
end L2
end
set_option Elab.async false
set_option linter.all false
set_option maxRecDepth 100000
set_option maxHeartbeats 4000000
noncomputable section
namespace L2
open PySem PySem.Spec PyProof.Rows
section
variable {X:Cx} {G:Addr→Prop} {H0:Hp} {a b c e:Expr} {es rest:List Expr} {f g:FE} {F:FA} {p q:FT} {pos p':Pos} {x:Str}
def CallD (X:Cx) (G:Addr→Prop) (H0:Hp) (r:List V→Hp→VK→Prop) (op:List D→Option D):Prop :=
  ∀ W env σ H vs ds d (Q:VK),Ok X.K G H0 W env σ H→Reps X.K H (Ow G W) ds vs→op ds=some d →
    (∀ v H',Step W H W H'→Ok X.K G H0 W env σ H'→Rep X.K H' (Ow G W) d v→Q v H')→r vs H Q
def CallDF (X:Cx) (G:Addr→Prop) (H0:Hp) (r:List V→Hp→VK→Prop) (op:List D→Option (List D)):Prop :=
  ∀ W env σ H vs ds rs (Q:VK),Ok X.K G H0 W env σ H→Reps X.K H (Ow G W) ds vs→op ds=some rs →
    (∀ l us H',Step W H (addW W l) H'→Ok X.K G H0 W env σ H'→Ok X.K G H0 (addW W l) env σ H'→¬ W l→H' l=some (.lst us)→Reps X.K H' (Ow G (addW W l)) rs us→Q (.ref l) H')→r vs H Q
theorem tCB_D {r:List V→Hp→VK→Prop} {op:List D→Option D} (hd:CallD X G H0 r op):∀ σ H Q,tD X.K G H0 (fCall op F) σ H Q→tCB r (tDA X.K G H0 F) σ H Q:=fun σ H Q ⟨W,env,d,env',ok,q,k⟩=>by
  cases e1:F env with
  | none=>simp [fCall,e1] at q
  | some z =>
    obtain ⟨ds,env1⟩:=z
    cases e2:op ds with
    | none=>simp [fCall,e1,e2] at q
    | some d' =>
      have q:some (d',env1)=some (d,env'):=by simpa [fCall,e1,e2] using q
      cases q
      exact ⟨W,env,ds,_,ok,e1,fun W1 vs H1 s1 ok1 p1=>hd W1 _ σ H1 vs ds _ Q ok1 p1 e2 fun v H2 s2 ok2 p2=>k W1 v H2 (s1.trans s2) ok2 p2⟩
theorem tCB_DF {r:List V→Hp→VK→Prop} {op:List D→Option (List D)} (hd:CallDF X G H0 r op):∀ σ H Q,tDF X.K G H0 (fCallF op F) σ H Q→tCB r (tDA X.K G H0 F) σ H Q:=fun σ H Q ⟨W,env,d,env',ok,q,k⟩=>by
  cases e1:F env with
  | none=>simp [fCallF,e1] at q
  | some z =>
    obtain ⟨ds,env1⟩:=z
    cases e2:op ds with
    | none=>simp [fCallF,e1,e2] at q
    | some d' =>
      have q:some (d',env1)=some (d,env'):=by simpa [fCallF,e1,e2] using q
      cases q
      exact ⟨W,env,ds,_,ok,e1,fun W1 vs H1 s1 ok1 p1=>hd W1 _ σ H1 vs ds _ Q ok1 p1 e2 fun l us H2 s2 ok2 ok3 nW hl rp=>k W1 l us H2 (s1.trans s2) ok2 ok3 nW hl rp⟩
variable {id T:String} {r:List V→Hp→VK→Prop} {op:List D→Option D} {opF:List D→Option (List D)}
theorem de_callB (hc:CallR X (.builtin id) r) (hd:CallD X G H0 r op) (hg:Gl X x) (hm:X.mg x=none) (hv:bootBuiltins x=some (.builtin id)) (ha:DAx X G H0 (e::es) F) (hn:x ≠ "__name__":=by decide) (hdb:(x==("__debug__" : Str))=false:=by decide)
    (he:starEach (e::es) X.env=(false,eval e X.env)::starEach es X.env:=by rfl) (hpl:(backTo pos (starEach es X.env)).any (·.1)=false:=by rfl):DEx X G H0 (.Call (.Name x p') (e::es) [] pos) (fCall op F):=(pe_callB hc hg hm hv ha hn hdb he hpl).imp (tCB_D hd)
theorem df_callT (hc:CallR X (.type T) r) (hd:CallDF X G H0 r opF) (hg:Gl X x) (hm:X.mg x=none) (hv:bootBuiltins x=some (.type T)) (ha:DAx X G H0 (e::es) F) (hn:x ≠ "__name__":=by decide) (hdb:(x==("__debug__" : Str))=false:=by decide)
    (he:starEach (e::es) X.env=(false,eval e X.env)::starEach es X.env:=by rfl) (hpl:(backTo pos (starEach es X.env)).any (·.1)=false:=by rfl):DFx X G H0 (.Call (.Name x p') (e::es) [] pos) (fCallF opF F):=(pe_callTy hc hg hm hv ha hn hdb he hpl).imp (tCB_DF hd)
theorem reps1 {K:PySem.W.Frag} {H:Hp} {O:Addr→Prop} {d:D} {vs:List V} (h:Reps K H O [d] vs):∃ v,vs=[v]∧Rep K H O d v:=by
  cases h with | cons r t=>cases t; exact ⟨_,rfl,r⟩
theorem reps2 {K:PySem.W.Frag} {H:Hp} {O:Addr→Prop} {d d':D} {vs:List V} (h:Reps K H O [d,d'] vs):∃ v v',vs=[v,v']∧Rep K H O d v∧Rep K H O d' v':=by
  cases h with | cons r t=>cases t with | cons r' t=>cases t; exact ⟨_,_,rfl,r,r'⟩
@[simp] def bLen:List D→Option D | [.tup ds]=>some (.int ds.length) | [.lst ds]=>some (.int ds.length) | _=>none
theorem cd_len:CallD X G H0 (fun xs H Q=>∃ p ys,xs=[.ref p]∧(SqL X.K H p ys∨SqT X.K H p ys)∧Q (.int ys.length) H) bLen:=by
  intro W env σ H vs ds d Q ok r e k
  unfold bLen at e
  split at e
  · rename_i ds
    cases e
    obtain ⟨v,rfl,r1⟩:=reps1 r; have r:=r1
    obtain ⟨a,us,rfl,h,r⟩:=r.tup_
    exact ⟨a,us,rfl,.inr (SqT.of h),by rw [← r.length]; exact k _ H Step.refl ok (.int _)⟩
  · rename_i ds
    cases e
    obtain ⟨v,rfl,r1⟩:=reps1 r; have r:=r1
    obtain ⟨a,us,rfl,h,r⟩:=r.lst_
    exact ⟨a,us,rfl,.inl h.sq,by rw [← r.length]; exact k _ H Step.refl ok (.int _)⟩
  · cases e
theorem de_len (hg:Gl X "len") (hm:X.mg "len" = none) (ha:DAx X G H0 [e] F) (he:starEach [e] X.env=(false,eval e X.env)::starEach [] X.env:=by rfl):DEx X G H0 (.Call (.Name "len" p') [e] [] pos) (fCall bLen F) :=
  de_callB call_len_seq cd_len hg hm PySem.boot_len ha (by decide) (by decide) he rfl
@[simp] def bInt:List D→Option D | [.int i]=>some (.int i) | [.bl k]=>some (.int (if k then 1 else 0)) | _=>none
@[simp] def bMax:List D→Option D | [.int i,.int j]=>some (.int (if j > i then j else i)) | _=>none
@[simp] def bMin:List D→Option D | [.int i,.int j]=>some (.int (if j < i then j else i)) | _=>none
theorem cd_min:CallD X G H0 (fun xs H Q=>∃ i j,xs=[.int i,.int j]∧Q (.int (if j < i then j else i)) H) bMin:=by
  intro W env σ H vs ds d Q ok r e k
  unfold bMin at e
  split at e
  · cases e
    obtain ⟨v,v',rfl,r1,r'⟩:=reps2 r; have r:=r1
    exact ⟨_,_,by rw [r.int_,r'.int_],k _ H Step.refl ok (.int _)⟩
  · cases e
theorem de_min (hc:X.calm=true) (hg:Gl X "min") (hm:X.mg "min" = none) (ha:DAx X G H0 [a,b] F) (he:starEach [a,b] X.env=(false,eval a X.env)::starEach [b] X.env:=by rfl) (hpl:(backTo pos (starEach [b] X.env)).any (·.1)=false:=by rfl):DEx X G H0 (.Call (.Name "min" p') [a,b] [] pos) (fCall bMin F) :=
  de_callB (call_min2 hc) cd_min hg hm boot_min ha (by decide) (by decide) he hpl
def ints?:List D→Option (List Int)
  | []=>some []
  | .int i::r=>(ints? r).map (i::·)
  | _::_=>none
theorem ints_map:∀ {ds:List D} {ns:List Int},ints? ds=some ns→ds=ns.map D.int
  | [],ns,h=>by cases h; rfl
  | .int i::r,ns,h=>by
    unfold ints? at h
    cases q:ints? r with
    | none=>rw [q] at h; cases h
    | some ms=>rw [q] at h; cases h; rw [ints_map q]; rfl
  | .non::_,_,h=>by cases h
  | .bl _::_,_,h=>by cases h
  | .str _::_,_,h=>by cases h
  | .tup _::_,_,h=>by cases h
  | .lst _::_,_,h=>by cases h
theorem ints_of (ns:List Int):ints? (ns.map D.int)=some ns:=by
  induction ns with
  | nil=>rfl
  | cons n r ih=>show (ints? (r.map D.int)).map (n::·)=_; rw [ih]; rfl
theorem reps_ints {K:PySem.W.Frag} {H:Hp} {O:Addr→Prop}:∀ {ns:List Int} {vs:List V},Reps K H O (ns.map D.int) vs→vs=ns.map V.int
  | [],_,h=>by cases h; rfl
  | n::r,_,h=>by cases h with | cons a t=>rw [reps_ints t,a.int_]; rfl
theorem call_sumL (hc:X.calm=true):CallR X (.builtin "sum") (fun xs H Q=>∃ p,∃ ns:List Int,xs=[.ref p]∧SqL X.K H p (ns.map V.int)∧Q (.int ns.sum) H):=by
  intro pins s σ H xs us Q I r h
  obtain ⟨p,ns,rfl,hq,q⟩:=h
  obtain ⟨u,rfl,rx⟩:=vals1 r
  cases rx
  obtain ⟨its,r',pl,hz⟩:=I.list hq
  have hi:IntsAre its ns:=intsAre_of r'
  have hl:=pl.isList
  obtain ⟨xs,hxs⟩:=hi.allInts.items
  rw [hxs] at hl
  refine sum_intListG (I.ok.hd hc) hl fun h' tk t' hk=>⟨.int ns.sum,H,I.kept hk,⟨t',?_⟩,q⟩
  have e1:numsOf its=ns:=hi.numsOf
  have e2:numsOf (intItems xs).toList=ns:=by rw [← hxs]; exact e1
  rw [nums_intItems] at e2
  rw [preSum_eq,List.take_of_length_le (by simp),e2]
def bSum:List D→Option D | [.lst ds]=>(ints? ds).map fun ns=>.int ns.sum | _=>none
theorem cd_sum:CallD X G H0 (fun xs H Q=>∃ p,∃ ns:List Int,xs=[.ref p]∧SqL X.K H p (ns.map V.int)∧Q (.int ns.sum) H) bSum:=by
  intro W env σ H vs ds d Q ok r e k
  unfold bSum at e
  split at e
  · rename_i ds
    cases q:ints? ds with
    | none=>rw [q] at e; cases e
    | some ns =>
      rw [q] at e; cases e
      obtain ⟨v,rfl,r1⟩:=reps1 r; have r:=r1
      obtain ⟨a,us,rfl,h,r⟩:=r.lst_
      rw [ints_map q] at r
      rw [reps_ints r] at h
      exact ⟨a,ns,rfl,h.sq,k _ H Step.refl ok (.int _)⟩
  · cases e
theorem de_sum (hc:X.calm=true) (hg:Gl X "sum") (hm:X.mg "sum" = none) (ha:DAx X G H0 [e] F) (he:starEach [e] X.env=(false,eval e X.env)::starEach [] X.env:=by rfl):DEx X G H0 (.Call (.Name "sum" p') [e] [] pos) (fCall bSum F) :=
  de_callB (call_sumL hc) cd_sum hg hm boot_sum ha (by decide) (by decide) he rfl
@[simp] def bList:List D→Option (List D) | [.lst ds]=>some ds | [.tup ds]=>some ds | _=>none
theorem cd_list:CallDF X G H0 (fun xs H Q=>∃ p ys,xs=[.ref p]∧(SqL X.K H p ys∨SqT X.K H p ys)∧∀ l,H l=none→Q (.ref l) (upd H l (.lst ys))) bList:=by
  intro W env σ H vs ds rs Q ok r e k
  unfold bList at e
  split at e
  · cases e
    obtain ⟨v,rfl,r1⟩:=reps1 r; have r:=r1
    obtain ⟨a,us,rfl,h,r⟩:=r.lst_
    refine ⟨a,us,rfl,.inl h.sq,fun l hn=>?_⟩
    obtain ⟨h1,h2,h3,h4,h5,h6⟩:=laid_D ok r hn
    exact k l us _ h1 h2 h3 h4 h5 h6
  · cases e
    obtain ⟨v,rfl,r1⟩:=reps1 r; have r:=r1
    obtain ⟨a,us,rfl,h,r⟩:=r.tup_
    refine ⟨a,us,rfl,.inr (SqT.of h),fun l hn=>?_⟩
    obtain ⟨h1,h2,h3,h4,h5,h6⟩:=laid_D ok r hn
    exact k l us _ h1 h2 h3 h4 h5 h6
  · cases e
theorem boot_list':bootBuiltins "list" = some (.type "list"):=by decide +kernel
theorem df_list (hg:Gl X "list") (hm:X.mg "list" = none) (ha:DAx X G H0 [e] F) (he:starEach [e] X.env=(false,eval e X.env)::starEach [] X.env:=by rfl):DFx X G H0 (.Call (.Name "list" p') [e] [] pos) (fCallF bList F) :=
  df_callT call_list_of cd_list hg hm boot_list' ha (by decide) (by decide) he rfl
end
end L2
end
set_option Elab.async false
set_option linter.all false
set_option maxRecDepth 100000
set_option maxHeartbeats 4000000
noncomputable section
namespace L2
open PySem PySem.Spec PyProof.Rows
section
variable {X:Cx} {G:Addr→Prop} {H0:Hp} {a b c e:Expr} {es rest:List Expr} {f g:FE} {F:FA} {p q:FT} {pos p' p1 pos1:Pos} {x:Str}
theorem Vals.of:∀ {xs:List V} {us:List Value},xs.length=us.length→(∀ (j:Nat) (x:V) (u:Value),xs[j]?=some x→us[j]?=some u→RelV x u)→Vals xs us
  | [],[],_,_=>.nil
  | [],_::_,h,_=>by cases h
  | _::_,[],h,_=>by cases h
  | x::xs,u::us,h,r=>.cons (r 0 x u rfl rfl) (Vals.of (Nat.succ.inj h) fun j y w e1 e2=>r (j + 1) y w (by simpa using e1) (by simpa using e2))
def tRng2 (ta:TA):TE:=fun σ H Q=>ta σ H fun vs H1=>∃ i j:Int,vs=[.int i,.int j]∧∀ r,H1 r=none→Q (.ref r) (upd H1 r (.rng i j))
theorem pe_range2 {ta:TA} (hg:Gl X "range") (hm:X.mg "range" = none) (ha:PA X [a,b] ta) (hs:starEach [a,b] X.env=[(false,eval a X.env),(false,eval b X.env)]:=by rfl) (hs2:starEach [b] X.env=[(false,eval b X.env)]:=by rfl) :
    PE X (.Call (.Name "range" p') [a,b] [] pos) (tRng2 ta):=by
  intro pins s σ H Q I h
  refine Call_ (ld_blt I hg hm boot_range (PyProof.Rows.callWith_type1 (thn (ha pos pins s σ H _ I h) fun us s1 ⟨vs,H1,I1,r1,q1⟩=>?_) (by rw [hs,hs2]) (by rw [hs2]; rfl)))
  obtain ⟨i,j,e,q⟩:=q1
  subst e
  obtain ⟨u,u',rfl,⟨t,rfl⟩,t',rfl⟩:=vals2 r1
  refine call_range_2 ?_
  exact ⟨.ref s1.heap.objs.size,_,I1.laid (o:=.rng i j) (fun b ob q=>Heap.get?_push_of_some _ q) (Nat.le_refl _) (show ObjOk X.prog X.w _ _ _ (.rng i j) from ⟨_,_,_,Heap.get?_push_size _ rfl⟩),rfl,q _ (I1.hok.fresh (Nat.le_refl _))⟩
def rngL (lo hi:Int):List Int:=(List.range (hi - lo).toNat).map fun (k:Nat)=>lo + (k:Int)
theorem rngL_length (lo hi:Int):(rngL lo hi).length=(hi - lo).toNat:=by simp [rngL]
theorem call_listRng (hc:X.calm=true):CallR X (.type "list") (fun xs H Q=>∃ r lo hi,xs=[.ref r]∧H r=some (.rng lo hi)∧(-(2 ^ 62)≤lo∧lo < 2 ^ 62∧-(2 ^ 62)≤hi∧hi < 2 ^ 62)∧(hi - lo).toNat≤2 ^ 20 ∧
    ∀ l,H l=none→Q (.ref l) (upd H l (.lst ((rngL lo hi).map V.int)))):=by
  intro pins s σ H xs us Q I r h
  obtain ⟨p,lo,hi,rfl,hr,⟨b1,b2,b3,b4⟩,hn,q⟩:=h
  obtain ⟨u,rfl,rx⟩:=vals1 r
  cases rx
  obtain ⟨t,u,v,ho⟩:=(show ObjOk X.prog X.w H s.heap p (.rng lo hi) from I.hok p _ hr)
  refine call_list_range (n:=(hi - lo).toNat) (I.ok.hd hc) (show IsRange s.heap p lo hi 1 t u v from ho) (small_one b1 b2 b3 b4) (by rw [rangeSize_one]; split <;> omega) (Nat.le_trans hn (by decide)) fun h' tk acc' c' hk hS hacc=>?_
  have hv:Vals ((rngL lo hi).map V.int) acc'.toList:=by
    obtain ⟨hl,hg⟩:=hacc
    refine Vals.of (by rw [List.length_map,rngL_length,Array.length_toList,hl]) fun j x u e1 e2=>?_
    obtain ⟨t,rfl⟩:=hg j u (by simpa using e2)
    rw [List.getElem?_map,rngL,List.getElem?_map] at e1
    cases q:(List.range (hi - lo).toNat)[j]? with
    | none=>rw [q] at e1; cases e1
    | some k =>
      rw [q] at e1
      have hk':k=j:=by
        rw [List.getElem?_range] at q
        · exact (Option.some.inj q).symm
        · have:=(List.getElem?_eq_some_iff.mp q).1; simpa using this
      cases e1
      exact ⟨t,by rw [hk',Int.mul_one]⟩
  exact ⟨.ref s.heap.objs.size,_,I.laid hk (Nat.le_refl _) (show ObjOk X.prog X.w _ h' _ (.lst _) from ⟨by rw [List.length_map,rngL_length]; exact Nat.le_trans hn (by rw [sizeLine_eq]; decide),acc'.toList,c',hv,hS⟩),rfl,q _ (I.hok.fresh (Nat.le_refl _))⟩
def bRng2 (ds:List D):Option (List D):=match ds with
  | [.int i,.int j]=>if Bnd (-(2 ^ 20)) (2 ^ 20 + 1) i∧Bnd (-(2 ^ 62)) (2 ^ 62) j∧Bnd (-(2 ^ 63)) (2 ^ 20 + 1) (j - i) then some ((rngL i j).map D.int) else none
  | _=>none
theorem reps_of_ints {K:PySem.W.Frag} {H:Hp} {O:Addr→Prop}:∀ (ns:List Int),Reps K H O (ns.map D.int) (ns.map V.int)
  | []=>.nil
  | n::r=>.cons (.int n) (reps_of_ints r)
theorem listRng_fin {W:Addr→Prop} {env:DE0} {σ:St} {H:Hp} {lo hi:Int} {Q:VK} (ok:Ok X.K G H0 W env σ H)
    (hb:(-(2 ^ 62)≤lo∧lo < 2 ^ 62∧-(2 ^ 62)≤hi∧hi < 2 ^ 62)) (hn:(hi - lo).toNat≤2 ^ 20)
    (k:∀ l us H',Step W H (addW W l) H'→Ok X.K G H0 W env σ H'→Ok X.K G H0 (addW W l) env σ H'→¬ W l→H' l=some (.lst us)→Reps X.K H' (Ow G (addW W l)) ((rngL lo hi).map D.int) us→Q (.ref l) H')
    (r:Addr) (hr:H r=none):∃ r' lo' hi',[V.ref r]=[.ref r']∧(upd H r (.rng lo hi)) r'=some (.rng lo' hi')∧(-(2 ^ 62)≤lo'∧lo' < 2 ^ 62∧-(2 ^ 62)≤hi'∧hi' < 2 ^ 62)∧(hi' - lo').toNat≤2 ^ 20 ∧
      ∀ l,upd H r (.rng lo hi) l=none→Q (.ref l) (upd (upd H r (.rng lo hi)) l (.lst ((rngL lo' hi').map V.int))):=by
  refine ⟨r,lo,hi,rfl,upd_same,hb,hn,fun l hl=>?_⟩
  have sm:Same H (upd H r (.rng lo hi)):=same_upd hr
  obtain ⟨h1,h2,h3,h4,h5,h6⟩:=laid_D (ok.same sm) (reps_of_ints (rngL lo hi)) hl
  exact k l _ _ ((Step.same sm).trans h1) h2 h3 h4 h5 h6
theorem df_listRng2 (hc:X.calm=true) (hg:Gl X "list") (hm:X.mg "list" = none) (hg':Gl X "range") (hm':X.mg "range" = none) (ha:DAx X G H0 [a,b] F) (hs:starEach [a,b] X.env=[(false,eval a X.env),(false,eval b X.env)]:=by rfl) (hs2:starEach [b] X.env=[(false,eval b X.env)]:=by rfl)
    (he:starEach [.Call (.Name "range" p1) [a,b] [] pos1] X.env=(false,eval (.Call (.Name "range" p1) [a,b] [] pos1) X.env)::starEach [] X.env:=by rfl) :
    DFx X G H0 (.Call (.Name "list" p') [.Call (.Name "range" p1) [a,b] [] pos1] [] pos) (fCallF bRng2 F) :=
  (pe_callTy (call_listRng hc) hg hm boot_list' (pa_cons (pe_range2 hg' hm' ha hs hs2) pa_nil he) (by decide) (by decide) he rfl).imp fun σ H Q ⟨W,env,d,env',ok,q,k⟩=>by
    cases e1:F env with
    | none=>simp [fCallF,e1] at q
    | some z =>
      obtain ⟨ds,env1⟩:=z
      cases e2:bRng2 ds with
      | none=>simp [fCallF,e1,e2] at q
      | some d' =>
        have q:some (d',env1)=some (d,env'):=by simpa [fCallF,e1,e2] using q
        cases q
        refine ⟨W,env,ds,_,ok,e1,fun W1 vs H1 s1 ok1 p1=>?_⟩
        unfold bRng2 at e2
        split at e2
        · rename_i i j
          split at e2
          · rename_i hj
            cases e2
            obtain ⟨v,v',rfl,r1,r2⟩:=reps2 p1
            cases r1; cases r2
            exact ⟨i,j,rfl,fun r hr=>listRng_fin ok1 ⟨by have:=hj.1.1; omega,by have:=hj.1.2; omega,hj.2.1.1,hj.2.1.2⟩ (by have:=hj.2.2.2; omega) (fun l us H2 s2 ok2 ok3 nW hl rp=>k W1 l us H2 (s1.trans s2) ok2 ok3 nW hl rp) r hr⟩
          · cases e2
        · cases e2
abbrev FO:=DE0→Option (Option Int × DE0)
def tDO (K:PySem.W.Frag) (G:Addr→Prop) (H0:Hp) (f:FO):TO:=fun σ H Q=>∃ W env o env',Ok K G H0 W env σ H∧f env=some (o,env')∧∀ W' H',Step W H W' H'→Ok K G H0 W' env' σ H'→Q o H'
def DOx (X:Cx) (G:Addr→Prop) (H0:Hp) (e:Option Expr) (f:FO):Prop:=PO X e (tDO X.K G H0 f)
theorem PO.imp {X:Cx} {e:Option Expr} {t t':TO} (h:PO X e t) (i:∀ σ H Q,t' σ H Q→t σ H Q):PO X e t':=fun pins s σ H Q I q=>h pins s σ H Q I (i σ H Q q)
@[simp] def fO0:FO:=fun e=>some (none,e)
@[simp] def fO1 (f:FE):FO:=fun e=>(f e).bind fun r=>match r.1 with | .int i=>some (some i,r.2) | _=>none
theorem do_none:DOx X G H0 none fO0:=po_none.imp fun σ H Q ⟨W,env,o,env',ok,q,k⟩=>by cases q; exact k W H Step.refl ok
theorem do_some (h:DEx X G H0 e f):DOx X G H0 (some e) (fO1 f):=(po_some h).imp fun σ H Q ⟨W,env,o,env',ok,q,k⟩=>by
  cases e1:f env with
  | none=>simp [fO1,e1] at q
  | some r =>
    obtain ⟨d,env1⟩:=r
    cases d with
    | int i =>
      have q:some (some i,env1)=some (o,env'):=by simpa [fO1,e1] using q
      cases q
      exact ⟨W,env,_,_,ok,e1,fun W1 v1 H1 s1 ok1 p1=>⟨i,p1.int_,k W1 H1 s1 ok1⟩⟩
    | _=>simp [fO1,e1] at q
def cutD (xs:List D) (lo hi:Option Int):List D:=(xs.drop (HT.sIx xs.length 0 lo)).take (HT.sIx xs.length xs.length hi - HT.sIx xs.length 0 lo)
theorem Reps.cut {K:PySem.W.Frag} {H:Hp} {O:Addr→Prop} {ds:List D} {vs:List V} (r:Reps K H O ds vs) (lo hi:Option Int):Reps K H O (cutD ds lo hi) (cutV vs lo hi):=by
  unfold cutD cutV
  rw [r.length]
  exact (r.drop _).take _
@[simp] def fSl (f:FE) (l h:FO):FA:=fun e=>(f e).bind fun r=>(l r.2).bind fun r1=>(h r1.2).bind fun r2=>match r.1 with | .lst ds=>some (cutD ds r1.1 r2.1,r2.2) | _=>none
theorem df_sl {lo hi:Option Expr} {fl fh:FO} {sp:Pos} (he:DEx X G H0 a f) (hl:DOx X G H0 lo fl) (hu:DOx X G H0 hi fh) :
    DFx X G H0 (.Subscript a (.Slice lo hi none sp) pos) (fSl f fl fh):=(pe_slice sl_list he hl hu).imp fun σ H Q ⟨W,env,d,env',ok,q,k⟩=>by
  cases e1:f env with
  | none=>simp [fSl,e1] at q
  | some r =>
    obtain ⟨d1,env1⟩:=r
    cases e2:fl env1 with
    | none=>simp [fSl,e1,e2] at q
    | some r2 =>
      obtain ⟨o1,env2⟩:=r2
      cases e3:fh env2 with
      | none=>simp [fSl,e1,e2,e3] at q
      | some r3 =>
        obtain ⟨o2,env3⟩:=r3
        cases d1 with
        | lst ds =>
          have q:some (cutD ds o1 o2,env3)=some (d,env'):=by simpa [fSl,e1,e2,e3] using q
          cases q
          refine ⟨W,env,_,_,ok,e1,fun W1 v1 H1 s1 ok1 p1=>⟨W1,env1,_,_,ok1,e2,fun W2 H2 s2 ok2=>⟨W2,env2,_,_,ok2,e3,fun W3 H3 s3 ok3=>?_⟩⟩⟩
          obtain ⟨l,us,rfl,h,r⟩:=(ok1.rep (s2.trans s3) p1).lst_
          refine ⟨l,us,rfl,h.sq,fun l' hn=>?_⟩
          obtain ⟨h1,h2,h3,h4,h5,h6⟩:=laid_D ok3 (r.cut o1 o2) hn
          exact k W3 l' _ _ (((s1.trans s2).trans s3).trans h1) h2 h3 h4 h5 h6
        | _=>simp [fSl,e1,e2,e3] at q
def rCatR (K:PySem.W.Frag):R2:=fun x y H Q=>∃ l b xs zs,x=.ref l∧y=.ref b∧SqL K H l xs∧SqL K H b zs∧xs.length + zs.length≤sizeLine∧∀ p,H p=none→Q (.ref p) (upd H p (.lst (xs++zs)))
theorem op_catR:OpR X (binaryOp .Add) (rCatR X.K):=by
  intro pins s σ H x y v u Q I rx ry h
  obtain ⟨l,b,xs,zs,rfl,rfl,hH,hB,hz,q⟩:=h
  cases rx
  cases ry
  obtain ⟨its,r,⟨⟨cls,dd,data,sl⟩,n,ho,hc,hdd,hd⟩,z⟩:=I.list hH
  obtain ⟨its2,r2,⟨⟨cls2,dd2,data2,sl2⟩,n2,ho2,hc2,hdd2,hd2⟩,z2⟩:=I.list hB
  simp only at hc hd hc2 hd2 hdd hdd2
  subst hc hd hc2 hd2 hdd hdd2
  have hl:=r.length
  have hl2:=r2.length
  refine concat_meets ⟨_,ho,rfl⟩ ⟨_,ho2,rfl⟩ noFill_list_add seq_list_add PySem.F.slot_list_add PySem.F.entry_list_add (PySem.F.args_list_add_2 _ _) (list_addW l b its.toArray its2.toArray n n2 none none sl sl2 (by simp only [List.size_toArray]; omega)) ⟨ho,ho2,?_⟩
  have ea:its.toArray++its2.toArray=(its++its2).toArray:=by simp
  rw [ea]
  exact ⟨.ref _,_,I.lnew (t':=s.toks) (r.append r2) (by rw [List.length_append]; omega),rfl,q _ I.fresh⟩
@[simp] def fCat (f g:FE):FA:=fun e=>(f e).bind fun r=>(g r.2).bind fun q=>match r.1,q.1 with | .lst ds,.lst es=>if Few (ds.length + es.length) then some (ds++es,q.2) else none | _,_=>none
theorem df_cat (ha:DEx X G H0 a f) (hb:DEx X G H0 b g):DFx X G H0 (.BinOp a .Add b pos) (fCat f g):=(pe_op op_catR ha hb).imp fun σ H Q ⟨W,env,d,env',ok,q,k⟩=>by
  cases e1:f env with
  | none=>simp [fCat,e1] at q
  | some r =>
    obtain ⟨d1,env1⟩:=r
    cases e2:g env1 with
    | none=>simp [fCat,e1,e2] at q
    | some r2 =>
      obtain ⟨d2,env2⟩:=r2
      cases d1 with
      | lst ds =>
        cases d2 with
        | lst es =>
          by_cases hl:Few (ds.length + es.length)
          · have q:some (ds++es,env2)=some (d,env'):=by simpa only [fCat,e1,e2,Option.bind_some,if_pos hl] using q
            cases q
            refine ⟨W,env,_,_,ok,e1,fun W1 v1 H1 s1 ok1 p1=>⟨W1,env1,_,_,ok1,e2,fun W2 v2 H2 s2 ok2 p2=>?_⟩⟩
            obtain ⟨l,us,rfl,h,r⟩:=(ok1.rep s2 p1).lst_
            obtain ⟨l',us',rfl,h',r'⟩:=p2.lst_
            refine ⟨l,l',us,us',rfl,rfl,h.sq,h'.sq,?_,fun n hn=>?_⟩
            · rw [← r.length,← r'.length]; exact Nat.le_trans hl (by rw [sizeLine_eq]; decide)
            · obtain ⟨h1,h2,h3,h4,h5,h6⟩:=laid_D ok2 (r.append r') hn
              exact k W2 n _ _ ((s1.trans s2).trans h1) h2 h3 h4 h5 h6
          · simp only [fCat,e1,e2,Option.bind_some,if_neg hl] at q; cases q
        | _=>simp [fCat,e1,e2] at q
      | _=>simp [fCat,e1,e2] at q
@[simp] def fLenV (i:Nat):FE:=fun e=>match e[i]? with
  | some (some (.ow ds))=>some (.int ds.length,e)
  | some (some (.sh (.lst ds)))=>some (.int ds.length,e)
  | some (some (.sh (.tup ds)))=>some (.int ds.length,e)
  | _=>none
theorem de_lenV (i:Nat) (hg:Gl X "len") (hm:X.mg "len" = none) (hN:X.N[i]?=some x:=by rfl) (hv:Vis X.env.scope x:=by first | exact Or.inl rfl | exact Or.inr (Or.inl rfl) | exact Or.inr (Or.inr rfl)) (hd:(x==("__debug__" : Str))=false:=by decide)
    (hcd:(x==("__classdict__" : Str))=false:=by decide) (he:starEach [.Name x p1] X.env=(false,eval (.Name x p1) X.env)::starEach [] X.env:=by rfl):DEx X G H0 (.Call (.Name "len" p') [.Name x p1] [] pos) (fLenV i) :=
  (pe_callB call_len_seq hg hm PySem.boot_len (pa_cons (pe_var hN hv hd hcd) pa_nil he) (by decide) (by decide) he rfl).imp fun σ H Q ⟨W,env,d,env',ok,q,k⟩=>by
    unfold fLenV at q
    split at q
    · rename_i ds hq
      cases q
      obtain ⟨v,e1,l,vs,rfl,hW,hl,r⟩:=ok.slot i _ hq
      exact ⟨_,e1,l,vs,rfl,.inl (.inl (.inl hl)),by rw [← r.length]; exact k W _ H Step.refl ok (.int _)⟩
    · rename_i ds hq
      cases q
      obtain ⟨v,e1,r⟩:=ok.slot i _ hq
      obtain ⟨l,us,rfl,h,r⟩:=Rep.lst_ r
      exact ⟨_,e1,l,us,rfl,.inl h.sq,by rw [← r.length]; exact k W _ H Step.refl ok (.int _)⟩
    · rename_i ds hq
      cases q
      obtain ⟨v,e1,r⟩:=ok.slot i _ hq
      obtain ⟨l,us,rfl,h,r⟩:=Rep.tup_ r
      exact ⟨_,e1,l,us,rfl,.inr (SqT.of h),by rw [← r.length]; exact k W _ H Step.refl ok (.int _)⟩
    · cases q
@[simp] def ixSl:D→Option (Option Sl)→Option D
  | .int k,some (some (.ow ds))=>atI ds k
  | .int k,some (some (.sh (.lst ds)))=>atI ds k
  | .int k,some (some (.sh (.tup ds)))=>atI ds k
  | _,_=>none
@[simp] def fIxV (i:Nat) (g:FE):FE:=fun e=>match e[i]? with
  | some (some _)=>(g e).bind fun r=>(ixSl r.1 r.2[i]?).map fun d=>(d,r.2)
  | _=>none
theorem de_ixV (i:Nat) (hb:DEx X G H0 b g) (hs:PlainIx b:=by intro _ _; rfl) (hN:X.N[i]?=some x:=by rfl) (hv:Vis X.env.scope x:=by first | exact Or.inl rfl | exact Or.inr (Or.inl rfl) | exact Or.inr (Or.inr rfl)) (hd:(x==("__debug__" : Str))=false:=by decide)
    (hcd:(x==("__classdict__" : Str))=false:=by decide):DEx X G H0 (.Subscript (.Name x p1) b pos) (fIxV i g) :=
  (pe_ix ix_seq (pe_var hN hv hd hcd) hb hs).imp fun σ H Q ⟨W,env,d,env',ok,q,k⟩=>by
    unfold fIxV at q
    split at q
    case h_2=>cases q
    rename_i s0 hs0
    obtain ⟨v,hv,_⟩:=ok.slot i _ hs0
    cases e1:g env with
    | none=>rw [e1] at q; cases q
    | some r =>
      obtain ⟨dk,env1⟩:=r
      rw [e1,Option.bind_some] at q
      cases e3:ixSl dk env1[i]? with
      | none=>rw [e3] at q; cases q
      | some d' =>
        rw [e3] at q; cases q
        refine ⟨v,hv,W,env,dk,_,ok,e1,fun W1 v1 H1 s1 ok1 p1=>?_⟩
        unfold ixSl at e3
        split at e3
        · rename_i kk ds hq
          obtain ⟨v',e2,l,vs,rfl,hW,hl,r⟩:=ok1.slot i _ hq
          rw [hv] at e2; cases e2
          obtain ⟨u,e4,r4⟩:=atI_rep r e3
          exact .inl ⟨l,vs,kk,u,rfl,p1.int_,.inl (.inl hl),e4,k W1 _ H1 s1 ok1 r4⟩
        · rename_i kk ds hq
          obtain ⟨v',e2,r⟩:=ok1.slot i _ hq
          rw [hv] at e2; cases e2
          obtain ⟨l,us,rfl,h,r⟩:=Rep.lst_ r
          obtain ⟨u,e4,r4⟩:=atI_rep r e3
          exact .inl ⟨l,us,kk,u,rfl,p1.int_,h.sq,e4,k W1 _ H1 s1 ok1 r4⟩
        · rename_i kk ds hq
          obtain ⟨v',e2,r⟩:=ok1.slot i _ hq
          rw [hv] at e2; cases e2
          obtain ⟨l,us,rfl,h,r⟩:=Rep.tup_ r
          obtain ⟨u,e4,r4⟩:=atI_rep r e3
          exact .inr (.inl ⟨l,us,kk,u,rfl,p1.int_,SqT.of h,e4,k W1 _ H1 s1 ok1 r4⟩)
        · cases e3
end
end L2
end
set_option Elab.async false
set_option linter.all false
set_option maxRecDepth 100000
set_option maxHeartbeats 4000000
noncomputable section
namespace L2
open PySem PySem.Spec PyProof.Rows
section
variable {X:Cx} {G:Addr→Prop} {H0:Hp} {a b c e:Expr} {es rest:List Expr} {f g:FE} {F:FA} {p q:FT} {pos p' p1 pos1:Pos} {x:Str}
@[simp] def tyD:D→String | .non=>"NoneType" | .bl _=>"bool" | .int _=>"int" | .str _=>"str" | .tup _=>"tuple" | .lst _=>"list" | .dct _ _=>"dict"
@[simp] def isiT (t T:String):Bool:=t==T || (t=="bool" && T=="int")
def isKind (T:String):Bool:=T=="int" || T=="bool" || T=="str" || T=="tuple" || T=="list"
theorem kit_kind (K:PySem.W.Frag) (d:D) (T:String) (h:isKind T=true):PySem.W.kitOne K (.type (tyD d)) (.type T)=some (isiT (tyD d) T):=by
  simp only [isKind,Bool.or_eq_true,beq_iff_eq] at h
  rcases h with (((rfl | rfl) | rfl) | rfl) | rfl <;> cases d <;> rfl
theorem call_isi:CallR X (.builtin "isinstance") (fun xs H Q=>∃ x T t b,xs=[x,.ty T]∧(TyOf X.K H x t∨(t=.type "list"∧∃ a us,x=.ref a∧SqL X.K H a us))∧PySem.W.kitOne X.K t (.type T)=some b∧Q (.bl b) H):=by
  intro pins s σ H xs us Q I r h
  obtain ⟨x,T,t,b,rfl,ty,e,q⟩:=h
  obtain ⟨u,u',rfl,rx,rt⟩:=vals2 r
  cases (show u'=Value.type T from rt)
  rcases ty with ty | ⟨rfl,a,ws,rfl,hq⟩
  · exact isinst_ok I rx ty e fun tk=>⟨.bl b,H,I.tok tk,rfl,q⟩
  · cases (show u=Value.ref a from rx)
    obtain ⟨its,_,⟨o,n,h1,h2,_⟩,_⟩:=I.list hq
    exact PySem.W.kia_one PySem.W.kitx_list I.kIn ⟨o,h1,h2⟩ e (fun z=>nomatch z) fun tk=>⟨.bl b,H,I.tok tk,rfl,q⟩
theorem tyOf_D {K:PySem.W.Frag} {H:Hp} {O:Addr→Prop} {d:D} {v:V} (r:Rep K H O d v):TyOf K H v (.type (tyD d))∨(Value.type (tyD d)=.type "list"∧∃ a us,v=.ref a∧SqL K H a us):=by
  cases r with
  | non=>exact .inl .non
  | bl b=>exact .inl (.bl b)
  | int i=>exact .inl (.int i)
  | str s=>exact .inl (.str s)
  | tup h _=>exact .inl (.tup h)
  | lst o h _=>exact .inr ⟨rfl,_,_,rfl,.inl h⟩
  | klst h _=>exact .inr ⟨rfl,_,_,rfl,.inr h⟩
  | dct h _=>exact .inl (.dK h)
theorem boot_isi:bootBuiltins "isinstance" = some (.builtin "isinstance"):=by decide +kernel
@[simp] def fIsi (T:String) (f:FE):FE:=fun e=>(f e).map fun r=>(.bl (isiT (tyD r.1) T),r.2)
theorem de_isi {T:String} (hg:Gl X "isinstance") (hm:X.mg "isinstance" = none) (hgT:Gl X x) (hmT:X.mg x=none) (hbT:bootBuiltins x=some (.type T)) (hT:isKind T=true) (ha:DEx X G H0 a f)
    (hdx:(x==("__debug__" : Str))=false:=by decide) (hnx:x ≠ "__name__":=by decide)
    (he:starEach [a,.Name x p1] X.env=(false,eval a X.env)::starEach [.Name x p1] X.env:=by rfl) (he2:starEach [.Name x p1] X.env=(false,eval (.Name x p1) X.env)::starEach [] X.env:=by rfl) (hpl:(backTo pos (starEach [.Name x p1] X.env)).any (·.1)=false:=by rfl) :
    DEx X G H0 (.Call (.Name "isinstance" p') [a,.Name x p1] [] pos) (fIsi T f) :=
  (pe_callB call_isi hg hm boot_isi (pa_cons ha (pa_cons (pe_bltn (v:=.ty T) hgT hmT hbT rfl hnx hdx) pa_nil he2) he) (by decide) (by decide) he hpl).imp fun σ H Q ⟨W,env,d,env',ok,q,k⟩=>by
    cases e1:f env with
    | none=>simp [fIsi,e1] at q
    | some r =>
      have q:some (D.bl (isiT (tyD r.1) T),r.2)=some (d,env'):=by simpa [fIsi,e1] using q
      cases q
      exact ⟨W,env,_,_,ok,e1,fun W1 v1 H1 s1 ok1 p1=>⟨v1,T,_,_,rfl,tyOf_D p1,kit_kind X.K _ T hT,k W1 _ H1 s1 ok1 (.bl _)⟩⟩
abbrev FI:=DE0→Option (List D × DE0)
structure Walk (K:PySem.W.Frag) (G:Addr→Prop) (J:It) (W:Addr→Prop) (H:Hp) (ds:List D):Prop where
  go:∀ W' H' (i:Nat) d,Step W H W' H'→ds[i]?=some d→J.go i H'∧∀ x H'',J.yld i H' x H''→H''=H'∧Rep K H' (Ow G W') d x
  stop:∀ W' H',Step W H W' H'→J.stop ds.length H'
def tDI (K:PySem.W.Frag) (G:Addr→Prop) (H0:Hp) (f:FI):TI:=fun σ H R=>∃ W env ds env',Ok K G H0 W env σ H∧f env=some (ds,env') ∧
  ∀ W' J H',Step W H W' H'→Ok K G H0 W' env' σ H'→Walk K G J W' H' ds→R J H'
def DIx (X:Cx) (G:Addr→Prop) (H0:Hp) (tg:Expr) (e:Expr) (f:FI):Prop:=PI X tg e (tDI X.K G H0 f)
theorem PI.imp {X:Cx} {tg e:Expr} {t t':TI} (h:PI X tg e t) (i:∀ σ H Q,t' σ H Q→t σ H Q):PI X tg e t':=fun pins s σ H Q I q=>h pins s σ H Q I (i σ H Q q)
theorem walk_list {W:Addr→Prop} {H:Hp} {a:Addr} {vs:List V} {ds:List D} {env:DE0} {σ:St} (ok:Ok X.K G H0 W env σ H) (h:LsOk X.K H (Ow G W) a vs) (r:Reps X.K H (Ow G W) ds vs):Walk X.K G (Itl X.K a) W H ds where
  go:=fun W' H' i d st e=>by
    obtain ⟨v,e1,r1⟩:=(ok.reps st r).get e
    have h':=(ok.lsstep st h).sq
    exact ⟨⟨vs,v,h',e1⟩,fun x H'' ⟨e2,y⟩=>⟨e2,by have:=y vs h'; rw [e1] at this; cases this; exact r1⟩⟩
  stop:=fun W' H' st=>⟨vs,(ok.lsstep st h).sq,by rw [r.length]; exact Nat.le_refl _⟩
theorem walk_tup {W:Addr→Prop} {H:Hp} {a:Addr} {vs:List V} {ds:List D} {env:DE0} {σ:St} (ok:Ok X.K G H0 W env σ H) (h:H a=some (.tup vs)) (r:Reps X.K H (Ow G W) ds vs):Walk X.K G (Itt X.K a) W H ds where
  go:=fun W' H' i d st e=>by
    obtain ⟨v,e1,r1⟩:=(ok.reps st r).get e
    have h':=ok.tstep st a vs h
    exact ⟨⟨vs,v,SqT.of h',e1⟩,fun x H'' ⟨e2,y⟩=>⟨e2,by have:=y vs (SqT.of h'); rw [e1] at this; cases this; exact r1⟩⟩
  stop:=fun W' H' st=>⟨vs,SqT.of (ok.tstep st a vs h),by rw [r.length]; exact Nat.le_refl _⟩
theorem walk_rng {W:Addr→Prop} {H:Hp} {lo:Int} {n:Nat}:Walk X.K G (Itr lo n) W H ((List.range n).map fun (k:Nat)=>D.int (lo + (k:Int))) where
  go:=fun W' H' i d st e=>by
    rw [List.getElem?_map] at e
    have hi:i < n:=by
      have:=(List.getElem?_eq_some_iff.mp (show ((List.range n).map fun (k:Nat)=>D.int (lo + (k:Int)))[i]?=some d by rw [List.getElem?_map]; exact e)).1
      simpa using this
    rw [List.getElem?_range hi] at e
    cases e
    exact ⟨hi,fun x H'' ⟨e2,y⟩=>⟨e2,by rw [y]; exact .int _⟩⟩
  stop:=fun W' H' st=>by rw [List.length_map,List.length_range]; exact Nat.le_refl _
@[simp] def fiS (f:FE):FI:=fun e=>(f e).bind fun r=>match r.1 with | .lst ds=>some (ds,r.2) | .tup ds=>some (ds,r.2) | _=>none
theorem PI.or {tg:Expr} {t t':TI} (h:PI X tg e t) (h':PI X tg e t'):PI X tg e (fun σ H R=>t σ H R∨t' σ H R):=fun pins s σ H R I q=>q.elim (h pins s σ H R I) (h' pins s σ H R I)
theorem di_seq {tg:Expr} (h:DEx X G H0 e f):DIx X G H0 tg e (fiS f):=((pi_list h).or (pi_tup h)).imp fun σ H R ⟨W,env,ds,env',ok,q,k⟩=>by
  cases e1:f env with
  | none=>simp [fiS,e1] at q
  | some r =>
    obtain ⟨d,env1⟩:=r
    cases d with
    | lst ds' =>
      have q:some (ds',env1)=some (ds,env'):=by simpa [fiS,e1] using q
      cases q
      refine .inl ⟨W,env,_,_,ok,e1,fun W1 v1 H1 s1 ok1 p1=>?_⟩
      obtain ⟨a,vs,rfl,h,r⟩:=p1.lst_
      exact ⟨a,rfl,⟨vs,h.sq⟩,k W1 _ H1 s1 ok1 (walk_list ok1 h r)⟩
    | tup ds' =>
      have q:some (ds',env1)=some (ds,env'):=by simpa [fiS,e1] using q
      cases q
      refine .inr ⟨W,env,_,_,ok,e1,fun W1 v1 H1 s1 ok1 p1=>?_⟩
      obtain ⟨a,vs,rfl,h,r⟩:=p1.tup_
      exact ⟨a,rfl,⟨vs,SqT.of h⟩,k W1 _ H1 s1 ok1 (walk_tup ok1 h r)⟩
    | _=>simp [fiS,e1] at q
def rngD (lo:Int) (n:Nat):List D:=(List.range n).map fun (k:Nat)=>D.int (lo + (k:Int))
def iR1 (ds:List D):Option (List D):=match ds with | [.int j]=>if Bnd (-(2 ^ 62)) (2 ^ 62) j then some (rngD 0 j.toNat) else none | _=>none
theorem di_range1 {tg:Expr} (hg:Gl X "range") (hm:X.mg "range" = none) (ha:DAx X G H0 [a] F) (hs:starEach [a] X.env=[(false,eval a X.env)]:=by rfl):DIx X G H0 tg (.Call (.Name "range" p') [a] [] pos) (fCallF iR1 F) :=
  (pi_range1 hg hm ha hs).imp fun σ H R ⟨W,env,ds,env',ok,q,k⟩=>by
    cases e1:F env with
    | none=>simp [fCallF,e1] at q
    | some z =>
      obtain ⟨as,env1⟩:=z
      cases e2:iR1 as with
      | none=>simp [fCallF,e1,e2] at q
      | some d' =>
        have q:some (d',env1)=some (ds,env'):=by simpa [fCallF,e1,e2] using q
        cases q
        refine ⟨W,env,as,_,ok,e1,fun W1 vs H1 s1 ok1 p1=>?_⟩
        unfold iR1 at e2
        split at e2
        · rename_i j
          split at e2
          · rename_i hj
            cases e2
            obtain ⟨v,rfl,r1⟩:=reps1 p1
            cases r1
            exact ⟨j,rfl,hj.1,hj.2,k W1 _ H1 s1 ok1 walk_rng⟩
          · cases e2
        · cases e2
def capt:Option Sl→Option Sl | some (.sh d)=>some (.sh d) | _=>none
def compL (tt:FT) (te:FE) (base:DE0):List D→Option (List D)
  | []=>some []
  | d::r=>(tt (some (.sh d)::base)).bind fun b=>if b.1=true then (te b.2).bind fun v=>(compL tt te base r).map (v.1::·) else compL tt te base r
def fComp (fi:FI) (ix:List Nat) (tt:FT) (te:FE):FA:=fun e=>(fi e).bind fun r=>if Few r.1.length then (compL tt te (ix.map fun j=>capt (r.2.getD j none)) r.1).map fun ds=>(ds,r.2) else none
@[simp] def fYes:FT:=fun e=>some (true,e)
def tDxT (K:PySem.W.Frag) (f:FT):TT:=fun σ H Q=>∃ G H0,tDT K G H0 f σ H Q
def tDx (K:PySem.W.Frag) (f:FE):TE:=fun σ H Q=>∃ G H0,tD K G H0 f σ H Q
def NoW:Addr→Prop:=fun _=>False
theorem inner_ok {W:Addr→Prop} {env:DE0} {σ:St} {H:Hp} {ix:List Nat} {d:D} {v:V} (ok:Ok X.K G H0 W env σ H) (r:Rep X.K H (Ow G W) d v) :
    Ok X.K (fun a=>Ow G W a∨H a=none) H NoW (some (.sh d)::ix.map fun j=>capt (env.getD j none)) (some v::ix.map fun j=>σ.getD j none) H:=by
  have up:∀ {d:D} {v:V},Rep X.K H (Ow G W) d v→Rep X.K H (Ow (fun a=>Ow G W a∨H a=none) NoW) d v:=fun r=>r.mono (fun _ _ h=>h) fun a us o h=>⟨⟨.inl o,fun z=>z⟩,h⟩
  have shs:∀ (i:Nat) (s:Sl),(some (Sl.sh d)::ix.map fun j=>capt (env.getD j none))[i]?=some (some s)→∃ d',s=.sh d':=fun i s z=>by
    cases i with
    | zero=>exact ⟨d,by simpa using z.symm⟩
    | succ i =>
      simp only [List.getElem?_cons_succ,List.getElem?_map] at z
      cases q:ix[i]? with
      | none=>rw [q] at z; cases z
      | some j =>
        rw [q] at z
        have z:capt (env.getD j none)=some s:=Option.some.inj z
        unfold capt at z
        split at z
        · cases z; exact ⟨_,rfl⟩
        · cases z
  refine ⟨Same.refl _,fun a z=>.inr z,fun l z=>z.elim,fun i s e=>?_,fun i j s1 s2 v1 v2 a e1 _ _ _ o _=>by obtain ⟨d',rfl⟩:=shs i s1 e1; exact o.elim,by simp⟩
  cases i with
  | zero =>
    have e:some (Sl.sh d)=some s:=by simpa using e
    cases e
    exact ⟨v,rfl,up r⟩
  | succ i =>
    simp only [List.getElem?_cons_succ,List.getElem?_map] at e ⊢
    cases q:ix[i]? with
    | none=>rw [q] at e; cases e
    | some j =>
      rw [q] at e
      have e:capt (env.getD j none)=some s:=Option.some.inj e
      rw [List.getD_eq_getElem?_getD] at e
      cases q2:env[j]? with
      | none=>rw [q2] at e; cases e
      | some o =>
        rw [q2] at e
        have e:capt o=some s:=e
        unfold capt at e
        split at e
        · rename_i d'
          cases e
          obtain ⟨u,e1,r1⟩:=ok.slot j _ q2
          exact ⟨u,by simp only [Option.map_some]; rw [List.getD_eq_getElem?_getD,e1]; rfl,up r1⟩
        · cases e
theorem comp_D {fi:FI} {ix:List Nat} {tt:FT} {te:FE}:∀ σ H Q,tDF X.K G H0 (fComp fi ix tt te) σ H Q→tComp (tDI X.K G H0 fi) ix (tDxT X.K tt) (tDx X.K te) σ H Q:=fun σ H Q ⟨W,env,d,env',ok,q,k⟩=>by
  cases e1:fi env with
  | none=>simp [fComp,e1] at q
  | some z =>
    obtain ⟨ds,env1⟩:=z
    by_cases hl:Few ds.length
    · simp only [fComp,e1,Option.bind_some,if_pos hl] at q
      cases e2:compL tt te (ix.map fun j=>capt (env1.getD j none)) ds with
      | none=>rw [e2] at q; cases q
      | some outs =>
        rw [e2] at q; cases q
        refine ⟨W,env,ds,_,ok,e1,fun W1 J H1 s1 ok1 wk=>?_⟩
        refine ⟨fun i m H' ys=>∃ rest done,m=ds.length - i∧i≤ds.length∧Same H1 H'∧Reps X.K H' (Ow G W1) done ys∧done.length≤i∧compL tt te (ix.map fun j=>capt (env'.getD j none)) (ds.drop i)=some rest∧d=done++rest,⟨ds.length,d,[],rfl,Nat.zero_le _,Same.refl _,.nil,Nat.le_refl _,e2,rfl⟩,?_⟩
        rintro i m H' ys ⟨rest,done,rfl,hi,sm,rp,hd,ec,rfl⟩
        have st:Step W1 H1 W1 H':=Step.same sm
        have ok':Ok X.K G H0 W1 env' σ H':=ok1.same sm
        by_cases hlt:i < ds.length
        · have eq:ds.drop i=ds[i]::ds.drop (i + 1):=List.drop_eq_getElem_cons hlt
          rw [eq] at ec
          obtain ⟨hg,hy⟩:=wk.go W1 H' i ds[i] st (by simp [hlt])
          refine .inr ⟨hg,fun x H'' y=>?_⟩
          obtain ⟨rfl,rx⟩:=hy x H'' y
          have oki:=inner_ok (ix:=ix) ok' rx
          unfold compL at ec
          cases e3:tt (some (.sh ds[i])::ix.map fun j=>capt (env'.getD j none)) with
          | none=>rw [e3] at ec; cases ec
          | some bb =>
            obtain ⟨b,envb⟩:=bb
            rw [e3,Option.bind_some] at ec
            refine ⟨_,_,NoW,_,b,envb,oki,e3,fun W2 H2 s2 ok2=>?_⟩
            have sm2:Same H1 H2:=sm.trans ok2.stay
            have rp2:Reps X.K H2 (Ow G W1) done ys:=ok'.reps (Step.same ok2.stay) rp
            cases b with
            | false =>
              dsimp only
              rw [if_neg Bool.false_ne_true] at ec ⊢
              exact ⟨ds.length - (i + 1),by omega,rest,done,rfl,hlt,sm2,rp2,by omega,ec,rfl⟩
            | true =>
              dsimp only
              rw [if_pos rfl] at ec ⊢
              cases e4:te envb with
              | none=>simp only [e4] at ec; cases ec
              | some vv =>
                obtain ⟨dv,envv⟩:=vv
                simp only [e4,Option.bind_some] at ec
                cases e5:compL tt te (ix.map fun j=>capt (env'.getD j none)) (ds.drop (i + 1)) with
                | none=>rw [e5] at ec; cases ec
                | some rest' =>
                  rw [e5] at ec; cases ec
                  refine ⟨_,_,W2,envb,dv,envv,ok2,e4,fun W3 v H3 s3 ok3 r3=>⟨?_,ds.length - (i + 1),by omega,rest',done++[dv],rfl,hlt,sm.trans ok3.stay,?_,by rw [List.length_append,List.length_singleton]; omega,by first | exact e5 | rfl,by simp⟩⟩
                  · have:ys.length < 2 ^ 20:=by rw [← rp.length]; have:ds.length≤2 ^ 20:=hl; omega
                    exact Nat.lt_of_lt_of_le this (by rw [sizeLine_eq]; decide)
                  · refine (ok'.reps (Step.same ok3.stay) rp).append (.cons (r3.mono (fun _ _ h=>h) fun a us o h=>⟨?_,h⟩) .nil)
                    rcases o.1 with z | z
                    · exact z
                    · exact ⟨ok'.good a (ok'.stay.free z),fun w=>by obtain ⟨_,us,q⟩:=ok'.wl a w; rw [z] at q; cases q⟩
        · have e:i=ds.length:=by omega
          subst e
          rw [List.drop_length] at ec
          cases ec
          refine .inl ⟨wk.stop W1 H' st,by rw [← rp.length]; exact Nat.le_trans hd (Nat.le_trans hl (by rw [sizeLine_eq]; decide)),fun l hn=>?_⟩
          obtain ⟨h1,h2,h3,h4,h5,h6⟩:=laid_D ok' rp hn
          rw [List.append_nil] at k
          exact k W1 l _ _ ((s1.trans st).trans h1) h2 h3 h4 h5 h6
    · simp only [fComp,e1,Option.bind_some,if_neg hl] at q; cases q
theorem yes_x {X':Cx} (hK:X'.K=X.K):PIfs X' [] (tDxT X.K fYes):=fun pins s σ H Q I ⟨G,H0,W,env,b,env',ok,e,k⟩=>by
  cases e
  exact pifs_nil pins s σ H Q I (k W H Step.refl ok)
theorem el_x {X':Cx} {te:FE} (hK:X'.K=X.K) (h:∀ G H0,DEx X' G H0 e te):PE X' e (tDx X.K te):=fun pins s σ H Q I ⟨G,H0,q⟩=>h G H0 pins s σ H Q I (by rw [hK]; exact q)
theorem df_comp {N':List Str} {ix:List Nat} {sc:Scope} {px:Pos} {fi:FI} {te:FE} (c:CompOk X x N' ix sc) (hc:X.calm=true) (hi:DIx X G H0 (.Name x px) a fi)
    (hel:∀ cl C s₂ H₂ fp G H0,DEx (cxComp X x N' sc cl C s₂ H₂ fp) G H0 e te) (hs:∀ v,foldedSetIterable a X.env v=pure v:=by intro _; rfl) :
    DFx X G H0 (.ListComp e [⟨.Name x px,a,[],0⟩] sc pos) (fComp fi ix fYes te) :=
  (pe_comp c hc hi (fun cl C s₂ H₂ fp=>yes_x (X:=X) rfl) (fun cl C s₂ H₂ fp=>el_x (X:=X) rfl (hel cl C s₂ H₂ fp)) hs).imp comp_D
end
end L2
end
set_option Elab.async false
set_option linter.all false
set_option maxRecDepth 100000
set_option maxHeartbeats 4000000
noncomputable section
namespace L2
open PySem PySem.Spec PyProof.Rows
inductive Fl where
  | nx | bk | ct | rt (d:D) | rf (ds:List D) | r2 (dss:List (List D))
abbrev FS:=DE0→Option (Fl × DE0)
structure N2 (K:PySem.W.Frag) (G:Addr→Prop) (H0 H:Hp) (l:Addr) (ls:List Addr) (dss:List (List D)):Prop where
  nd:(l::ls).Nodup
  new:∀ a∈l::ls,H0 a=none
  top:H l=some (.lst (ls.map V.ref))
  len:ls.length=dss.length
  inn:∀ (j:Nat) (ds:List D) (a:Addr),dss[j]?=some ds→ls[j]?=some a→∃ vs,H a=some (.lst vs)∧Reps K H (fun b=>G b∧b ∉ l::ls) ds vs
def EndOk (K:PySem.W.Frag) (G:Addr→Prop) (H0:Hp) (W:Addr→Prop) (H:Hp) (Dn:Ends) (env':DE0):Fl→Prop
  | .nx=>∀ W' σ' H',Step W H W' H'→Ok K G H0 W' env' σ' H'→Dn.nx σ' H'
  | .bk=>∀ W' σ' H',Step W H W' H'→Ok K G H0 W' env' σ' H'→Dn.bk σ' H'
  | .ct=>∀ W' σ' H',Step W H W' H'→Ok K G H0 W' env' σ' H'→Dn.ct σ' H'
  | .rt d=>∀ v H',Same H0 H'→Rep K H' G d v→Dn.rt v H'
  | .rf ds=>∀ l vs H',Same H0 H'→H0 l=none→H' l=some (.lst vs)→Reps K H' (fun a=>G a∧a ≠ l) ds vs→Dn.rt (.ref l) H'
  | .r2 dss=>∀ l ls H',Same H0 H'→N2 K G H0 H' l ls dss→Dn.rt (.ref l) H'
def tDS (K:PySem.W.Frag) (G:Addr→Prop) (H0:Hp) (g:FS):TS:=fun Dn σ H=>∃ W env fl env',Ok K G H0 W env σ H∧g env=some (fl,env')∧EndOk K G H0 W H Dn env' fl
def DSx (X:Cx) (G:Addr→Prop) (H0:Hp) (s:Stmt) (g:FS):Prop:=PS X s (tDS X.K G H0 g)
def DBx (X:Cx) (G:Addr→Prop) (H0:Hp) (s:List Stmt) (g:FS):Prop:=PSs X s (tDS X.K G H0 g)
theorem PS.imp {X:Cx} {e:Stmt} {t t':TS} (h:PS X e t) (i:∀ D σ H,t' D σ H→t D σ H):PS X e t':=fun pins s σ H D I q=>h pins s σ H D I (i D σ H q)
theorem PSs.imp {X:Cx} {e:List Stmt} {t t':TS} (h:PSs X e t) (i:∀ D σ H,t' D σ H→t D σ H):PSs X e t':=fun pins s σ H D I q=>h pins s σ H D I (i D σ H q)
section
variable {K:PySem.W.Frag} {G W W1 W':Addr→Prop} {H0 H H1 H':Hp} {Dn Dn':Ends} {env env':DE0} {σ:St} {fl:Fl}
theorem EndOk.step (st:Step W H W1 H1) (h:EndOk K G H0 W H Dn env' fl):EndOk K G H0 W1 H1 Dn env' fl:=by
  cases fl with
  | nx=>exact fun W' σ' H' s o=>h W' σ' H' (st.trans s) o
  | bk=>exact fun W' σ' H' s o=>h W' σ' H' (st.trans s) o
  | ct=>exact fun W' σ' H' s o=>h W' σ' H' (st.trans s) o
  | rt d=>exact h
  | rf ds=>exact h
  | r2 dss=>exact h
end
@[simp] def sNil:FS:=fun e=>some (.nx,e)
@[simp] def sSeq (g h:FS):FS:=fun e=>(g e).bind fun r=>match r.1 with | .nx=>h r.2 | _=>some r
@[simp] def sSet (i:Nat) (f:FE):FS:=fun e=>(f e).map fun r=>(.nx,r.2.set i (some (.sh r.1)))
@[simp] def sOwn (i:Nat) (f:FA):FS:=fun e=>(f e).map fun r=>(.nx,r.2.set i (some (.ow r.1)))
@[simp] def sRet (f:FE):FS:=fun e=>(f e).map fun r=>(.rt r.1,r.2)
@[simp] def sRetF (f:FA):FS:=fun e=>(f e).map fun r=>(.rf r.1,r.2)
@[simp] def sRetN:FS:=fun e=>some (.rt .non,e)
@[simp] def sIf (c:FT) (g h:FS):FS:=fun e=>(c e).bind fun r=>if r.1=true then g r.2 else h r.2
@[simp] def sDrop (f:FE):FS:=fun e=>(f e).map fun r=>(.nx,r.2)
@[simp] def sNever:FS:=fun _=>none
def forL (i:Nat) (g:FS):List D→DE0→Option (Fl × DE0)
  | [],e=>some (.nx,e)
  | d::r,e=>(g (e.set i (some (.sh d)))).bind fun q=>match q.1 with | .nx=>forL i g r q.2 | .ct=>forL i g r q.2 | .bk=>some (.nx,q.2) | .rt d=>some (.rt d,q.2) | .rf ds=>some (.rf ds,q.2) | .r2 ds=>some (.r2 ds,q.2)
@[simp] def sFor (i:Nat) (fi:FI) (g:FS):FS:=fun e=>(fi e).bind fun r=>forL i g r.1 r.2
def whileF (c:FT) (g:FS):Nat→DE0→Option (Fl × DE0)
  | 0,_=>none
  | n + 1,e=>(c e).bind fun r=>if r.1=true then (g r.2).bind fun q=>match q.1 with | .nx=>whileF c g n q.2 | .ct=>whileF c g n q.2 | .bk=>some (.nx,q.2) | .rt d=>some (.rt d,q.2) | .rf ds=>some (.rf ds,q.2) | .r2 ds=>some (.r2 ds,q.2) else some (.nx,r.2)
section
variable {X:Cx} {G:Addr→Prop} {H0:Hp} {a b c e:Expr} {es rest:List Expr} {f g:FE} {F:FA} {p q:FT} {s:Stmt} {ss:List Stmt} {u v:FS} {pos p' p1 pos1:Pos} {x:Str} {i:Nat}
theorem db_nil:DBx X G H0 [] sNil:=pss_nil.imp fun Dn σ H ⟨W,env,fl,env',ok,q,k⟩=>by
  cases q
  exact k W σ H Step.refl ok
theorem db_cons (h1:DSx X G H0 s u) (h2:DBx X G H0 ss v):DBx X G H0 (s::ss) (sSeq u v):=(pss_cons h1 h2).imp fun Dn σ H ⟨W,env,fl,env',ok,q,k⟩=>by
  cases e1:u env with
  | none=>simp [sSeq,e1] at q
  | some r =>
    obtain ⟨fl1,env1⟩:=r
    refine ⟨W,env,fl1,env1,ok,e1,?_⟩
    cases fl1 with
    | nx =>
      have q:v env1=some (fl,env'):=by simpa [sSeq,e1] using q
      exact fun W1 σ1 H1 s1 ok1=>⟨W1,env1,fl,env',ok1,q,k.step s1⟩
    | bk => have q : some (Fl.bk, env1) = some (fl, env') := by simpa [sSeq, e1] using q
            cases q; exact k
    | ct => have q : some (Fl.ct, env1) = some (fl, env') := by simpa [sSeq, e1] using q
            cases q; exact k
    | rt d => have q : some (Fl.rt d, env1) = some (fl, env') := by simpa [sSeq, e1] using q
              cases q; exact k
    | rf d => have q : some (Fl.rf d, env1) = some (fl, env') := by simpa [sSeq, e1] using q
              cases q; exact k
    | r2 d => have q : some (Fl.r2 d, env1) = some (fl, env') := by simpa [sSeq, e1] using q
              cases q; exact k
theorem db_one (h:DSx X G H0 s u):DBx X G H0 [s] u:=pss_one h
theorem ds_set (hN:X.N.Nodup) (hi:X.N[i]?=some x:=by rfl) (he:DEx X G H0 e f) (ps:PS X (.Assign [.Name x p'] e pos) (tAsg (tD X.K G H0 f) (gName i))):DSx X G H0 (.Assign [.Name x p'] e pos) (sSet i f):=ps.imp fun Dn σ H ⟨W,env,fl,env',ok,q,k⟩=>by
  cases e1:f env with
  | none=>simp [sSet,e1] at q
  | some r =>
    have q:some (Fl.nx,r.2.set i (some (Sl.sh r.1)))=some (fl,env'):=by simpa [sSet,e1] using q
    cases q
    exact ⟨W,env,_,_,ok,e1,fun W1 v1 H1 s1 ok1 p1=>k W1 _ H1 s1 (ok1.set p1)⟩
theorem ds_own (ps:PS X (.Assign [.Name x p'] e pos) (tAsg (tDF X.K G H0 F) (gName i))):DSx X G H0 (.Assign [.Name x p'] e pos) (sOwn i F):=ps.imp fun Dn σ H ⟨W,env,fl,env',ok,q,k⟩=>by
  cases e1:F env with
  | none=>simp [sOwn,e1] at q
  | some r =>
    have q:some (Fl.nx,r.2.set i (some (Sl.ow r.1)))=some (fl,env'):=by simpa [sOwn,e1] using q
    cases q
    exact ⟨W,env,_,_,ok,e1,fun W1 l vs H1 s1 ok1 ok2 nW hl rp=>k (addW W1 l) _ H1 s1 (ok2.setO (.inr rfl) hl rp (ok1.noOwn nW))⟩
theorem ds_ret (he:DEx X G H0 e f):DSx X G H0 (.Return (some e) pos) (sRet f):=(ps_ret he).imp fun Dn σ H ⟨W,env,fl,env',ok,q,k⟩=>by
  cases e1:f env with
  | none=>simp [sRet,e1] at q
  | some r =>
    have q:some (Fl.rt r.1,r.2)=some (fl,env'):=by simpa [sRet,e1] using q
    cases q
    exact ⟨W,env,_,_,ok,e1,fun W1 v1 H1 s1 ok1 p1=>k v1 H1 ok1.stay (p1.mono (fun _ _ h=>h) fun a us o h=>⟨o.1,h⟩)⟩
theorem ds_retF (he:DFx X G H0 e F):DSx X G H0 (.Return (some e) pos) (sRetF F):=(ps_ret he).imp fun Dn σ H ⟨W,env,fl,env',ok,q,k⟩=>by
  cases e1:F env with
  | none=>simp [sRetF,e1] at q
  | some r =>
    have q:some (Fl.rf r.1,r.2)=some (fl,env'):=by simpa [sRetF,e1] using q
    cases q
    exact ⟨W,env,_,_,ok,e1,fun W1 l vs H1 s1 ok1 ok2 nW hl rp=>k l vs H1 ok1.stay (ok2.wl l (.inr rfl)).1 hl (rp.mono (fun _ _ h=>h) fun a us o h=>⟨⟨o.1,fun z=>o.2 (.inr z)⟩,h⟩)⟩
@[simp] def sRetO (i:Nat):FS:=fun e=>match e[i]? with | some (some (.ow ds))=>some (.rf ds,e) | _=>none
theorem ds_retO (i:Nat) (hN:X.N[i]?=some x:=by rfl) (hv:Vis X.env.scope x:=by first | exact Or.inl rfl | exact Or.inr (Or.inl rfl) | exact Or.inr (Or.inr rfl)) (hd:(x==("__debug__" : Str))=false:=by decide)
    (hcd:(x==("__classdict__" : Str))=false:=by decide):DSx X G H0 (.Return (some (.Name x p')) pos) (sRetO i):=(ps_ret (pe_var hN hv hd hcd)).imp fun Dn σ H ⟨W,env,fl,env',ok,q,k⟩=>by
  unfold sRetO at q
  split at q
  · rename_i ds hq
    cases q
    obtain ⟨v,e1,l,vs,rfl,hW,hl,r⟩:=ok.slot i _ hq
    exact ⟨_,e1,k l vs H ok.stay (ok.wl l hW).1 hl (r.mono (fun _ _ h=>h) fun a us o h=>⟨⟨o.1,fun z=>o.2 (z ▸ hW)⟩,h⟩)⟩
  · cases q
theorem ds_if {aa bb:List Stmt} (hc:DTx X G H0 c p) (ha:DBx X G H0 aa u) (hb:DBx X G H0 bb v):DSx X G H0 (.If c aa bb pos) (sIf p u v):=(ps_if hc ha hb).imp fun Dn σ H ⟨W,env,fl,env',ok,q,k⟩=>by
  cases e1:p env with
  | none=>simp [sIf,e1] at q
  | some r =>
    obtain ⟨t,env1⟩:=r
    refine ⟨W,env,t,env1,ok,e1,fun W1 H1 s1 ok1=>?_⟩
    cases t with
    | true=>rw [if_pos rfl]; exact ⟨W1,env1,fl,env',ok1,by simpa [sIf,e1] using q,k.step s1⟩
    | false=>rw [if_neg Bool.false_ne_true]; exact ⟨W1,env1,fl,env',ok1,by simpa [sIf,e1] using q,k.step s1⟩
theorem ds_never:DSx X G H0 s sNever:=ps_never.imp fun Dn σ H ⟨W,env,fl,env',ok,q,k⟩=>by cases q
@[simp] def sBrk:FS:=fun e=>some (.bk,e)
@[simp] def sCnt:FS:=fun e=>some (.ct,e)
theorem ds_expr (he:DEx X G H0 e f) (hs:swapsWith e none pos.line X.env=pure false:=by rfl):DSx X G H0 (.Expr e pos) (sDrop f):=(ps_expr he hs).imp fun Dn σ H ⟨W,env,fl,env',ok,q,k⟩=>by
  cases e1:f env with
  | none=>simp [sDrop,e1] at q
  | some r =>
    have q:some (Fl.nx,r.2)=some (fl,env'):=by simpa [sDrop,e1] using q
    cases q
    exact ⟨W,env,_,_,ok,e1,fun W1 v1 H1 s1 ok1 p1=>k W1 σ H1 s1 ok1⟩
theorem ds_for {tg:Str} {px:Pos} {body:List Stmt} {fi:FI} (hp:PassesOwn (model X.prog X.w) X.A X.env X.xe) (hc:X.calm=true) (hi:DIx X G H0 (.Name tg px) a fi) (hg:PG X (.Name tg px) (gName i)) (hb:DBx X G H0 body u)
    (hs:∀ x,foldedSetIterable a X.env x=pure x:=by intro _; rfl):DSx X G H0 (.For (.Name tg px) a body [] pos) (sFor i fi u):=(ps_for hp hc hi hg hb hs).imp fun Dn σ H ⟨W,env,fl,env',ok,q,k⟩=>by
  cases e1:fi env with
  | none=>simp [sFor,e1] at q
  | some z =>
    obtain ⟨ds,env1⟩:=z
    have q:forL i u ds env1=some (fl,env'):=by simpa [sFor,e1] using q
    refine ⟨W,env,ds,env1,ok,e1,fun W1 J H1 s1 ok1 wk=>?_⟩
    refine ⟨fun n m σ' H'=>∃ W' env2,m=ds.length - n∧n≤ds.length∧Step W1 H1 W' H'∧Ok X.K G H0 W' env2 σ' H'∧forL i u (ds.drop n) env2=some (fl,env'),⟨ds.length,W1,env1,rfl,Nat.zero_le _,Step.refl,ok1,q⟩,?_⟩
    rintro n m σ' H' ⟨W',env2,rfl,hn,st,ok',ef⟩
    by_cases hlt:n < ds.length
    · have eq:ds.drop n=ds[n]::ds.drop (n + 1):=List.drop_eq_getElem_cons hlt
      rw [eq] at ef
      obtain ⟨hg,hy⟩:=wk.go W' H' n ds[n] st (by simp [hlt])
      unfold forL at ef
      cases e3:u (env2.set i (some (.sh ds[n]))) with
      | none=>rw [e3] at ef; cases ef
      | some r =>
        obtain ⟨fl3,env3⟩:=r
        rw [e3,Option.bind_some] at ef
        refine .inr ⟨hg,fun σ2 H2=>∃ W2 env4,Step W1 H1 W2 H2∧Ok X.K G H0 W2 env4 σ2 H2∧forL i u (ds.drop (n + 1)) env4=some (fl,env'),fun σ2 H2 ⟨W2,env4,s2,ok2,e4⟩=>⟨ds.length - (n + 1),by omega,W2,env4,rfl,hlt,s2,ok2,e4⟩,fun x H'' y=>?_⟩
        obtain ⟨rfl,rx⟩:=hy x H'' y
        refine ⟨W',_,fl3,env3,ok'.set rx,e3,?_⟩
        cases fl3 with
        | nx=>exact fun W2 σ2 H2 s2 ok2=>⟨W2,env3,st.trans s2,ok2,ef⟩
        | ct=>exact fun W2 σ2 H2 s2 ok2=>⟨W2,env3,st.trans s2,ok2,ef⟩
        | bk =>
          cases ef
          exact fun W2 σ2 H2 s2 ok2=>k W2 σ2 H2 ((s1.trans st).trans s2) ok2
        | rt d=>cases ef; exact k
        | rf d=>cases ef; exact k
        | r2 d=>cases ef; exact k
    · have e:n=ds.length:=by omega
      subst e
      rw [List.drop_length] at ef
      cases ef
      exact .inl ⟨wk.stop W' H' st,k W' σ' H' (s1.trans st) ok'⟩
theorem ds_while {body:List Stmt} (n:Nat) (hp:PassesOwn (model X.prog X.w) X.A X.env X.xe) (hc:DTx X G H0 c p) (hb:DBx X G H0 body u):DSx X G H0 (.While c body [] pos) (whileF p u n):=(ps_while hp hc hb).imp fun Dn σ H ⟨W,env,fl,env',ok,q,k⟩=>by
  refine ⟨fun m σ' H'=>∃ W' env2,Step W H W' H'∧Ok X.K G H0 W' env2 σ' H'∧whileF p u m env2=some (fl,env'),⟨n,W,env,Step.refl,ok,q⟩,?_⟩
  rintro m σ' H' ⟨W',env2,st,ok',ew⟩
  cases m with
  | zero=>cases ew
  | succ m =>
    unfold whileF at ew
    cases e1:p env2 with
    | none=>rw [e1] at ew; cases ew
    | some r =>
      obtain ⟨t,env3⟩:=r
      rw [e1,Option.bind_some] at ew
      refine ⟨W',env2,t,env3,ok',e1,fun W2 H2 s2 ok2=>?_⟩
      cases t with
      | false =>
        rw [if_neg Bool.false_ne_true] at ew ⊢
        cases ew
        exact k W2 σ' H2 (st.trans s2) ok2
      | true =>
        rw [if_pos rfl] at ew ⊢
        cases e3:u env3 with
        | none=>simp only [e3] at ew; cases ew
        | some r =>
          obtain ⟨fl3,env4⟩:=r
          simp only [e3,Option.bind_some] at ew
          refine ⟨fun σ3 H3=>∃ W3 env5,Step W H W3 H3∧Ok X.K G H0 W3 env5 σ3 H3∧whileF p u m env5=some (fl,env'),fun σ3 H3 ⟨W3,env5,s3,ok3,e5⟩=>⟨m,Nat.lt_succ_self _,W3,env5,s3,ok3,e5⟩,W2,env3,fl3,env4,ok2,e3,?_⟩
          cases fl3 with
          | nx=>exact fun W3 σ3 H3 s3 ok3=>⟨W3,env4,(st.trans s2).trans s3,ok3,ew⟩
          | ct=>exact fun W3 σ3 H3 s3 ok3=>⟨W3,env4,(st.trans s2).trans s3,ok3,ew⟩
          | bk=>cases ew; exact fun W3 σ3 H3 s3 ok3=>k W3 σ3 H3 ((st.trans s2).trans s3) ok3
          | rt d=>cases ew; exact k
          | rf d=>cases ew; exact k
          | r2 d=>cases ew; exact k
end
end L2
end
set_option Elab.async false
set_option linter.all false
set_option maxRecDepth 100000
set_option maxHeartbeats 4000000
noncomputable section
namespace L2
open PySem PySem.Spec PyProof.Rows
section
variable {X:Cx} {G:Addr→Prop} {H0:Hp} {a b c e:Expr} {f g:FE} {F:FA} {pos p' p1 pos1:Pos} {x:Str} {i:Nat}
theorem lt20 {n:Nat} (h:n < 2 ^ 20):n < sizeLine:=Nat.lt_of_lt_of_le h (by rw [sizeLine_eq]; decide)
@[simp] def appSl (d:D) (e:DE0) (i:Nat):Option (D × DE0):=match e[i]? with
  | some (some (.ow ds))=>if Few (ds.length + 1) then some (.non,e.set i (some (.ow (ds++[d])))) else none
  | _=>none
@[simp] def fAppend (i:Nat) (f:FE):FE:=fun e=>match e[i]? with
  | some (some (.ow _))=>(f e).bind fun r=>appSl r.1 r.2 i
  | _=>none
theorem de_append (i:Nat) (ha:DEx X G H0 a f) (hN:X.N[i]?=some x:=by rfl) (hv:Vis X.env.scope x:=by first | exact Or.inl rfl | exact Or.inr (Or.inl rfl) | exact Or.inr (Or.inr rfl)) (hd:(x==("__debug__" : Str))=false:=by decide)
    (hcd:(x==("__classdict__" : Str))=false:=by decide) (hbase:attributeBase (.Name x p') "append" X.env (eval (.Name x p') X.env)=eval (.Name x p') X.env:=by rfl)
    (hfew:((backTo pos (starEach [a] X.env)).all (fun x=>!x.1) && (backToKw pos (keywordEach [] X.env)).all (fun x=>x.1.isSome)
      && decide ([a].length + ([]:List Keyword).length + (if ([]:List Keyword).isEmpty then 0 else 1) < 30))=true:=by rfl)
    (hline:(p1.endLine==pos.line)=true:=by rfl) (hs:starEach [a] X.env=(false,eval a X.env)::starEach [] X.env:=by rfl) :
    DEx X G H0 (.Call (.Attribute (.Name x p') "append" p1) [a] [] pos) (fAppend i f):=(pe_bm PySem.F.plainAttrs_list PySem.F.slot_list_append PySem.F.type_list_append mt_append (pe_var hN hv hd hcd) (pa_cons ha pa_nil hs) hbase hfew hline hs rfl).imp fun σ H Q ⟨W,env,d,env',ok,q,k⟩=>by
  unfold fAppend at q
  split at q
  case h_2=>cases q
  rename_i ds0 hq0
  obtain ⟨v,hv,l,vs0,rfl,hW0,hl0,_⟩:=ok.slot i _ hq0
  cases e1:f env with
  | none=>rw [e1] at q; cases q
  | some r =>
    obtain ⟨da,env1⟩:=r
    rw [e1,Option.bind_some] at q
    unfold appSl at q
    dsimp only at q
    split at q
    case h_2=>cases q
    rename_i ds hq
    split at q
    case isFalse=>cases q
    rename_i hlen
    cases q
    refine ⟨_,hv,.inl ⟨rfl,_,.inl (.inl hl0)⟩,W,env,da,env1,ok,e1,fun W1 v1 H1 s1 ok1 r1=>?_⟩
    obtain ⟨v',e2,l',vs,e3,hW,hl,r⟩:=ok1.slot i _ hq
    rw [hv] at e2; cases e2; cases e3
    obtain ⟨t1,t2⟩:=ok1.turn hq hv (r.append (.cons r1 .nil))
    exact ⟨l,vs,v1,rfl,rfl,hl,by rw [← r.length]; exact lt20 (Nat.lt_of_succ_le hlen),k W1 _ _ (s1.trans t2) t1 .non⟩
@[simp] def fPop (i:Nat):FE:=fun e=>match e[i]? with
  | some (some (.ow ds))=>(ds[ds.length - 1]?).map fun d=>(d,e.set i (some (.ow ds.dropLast)))
  | _=>none
theorem de_pop (i:Nat) (hN:X.N[i]?=some x:=by rfl) (hv:Vis X.env.scope x:=by first | exact Or.inl rfl | exact Or.inr (Or.inl rfl) | exact Or.inr (Or.inr rfl)) (hd:(x==("__debug__" : Str))=false:=by decide)
    (hcd:(x==("__classdict__" : Str))=false:=by decide) (hbase:attributeBase (.Name x p') "pop" X.env (eval (.Name x p') X.env)=eval (.Name x p') X.env:=by rfl) (hline:(p1.endLine==pos.line)=true:=by rfl) :
    DEx X G H0 (.Call (.Attribute (.Name x p') "pop" p1) [] [] pos) (fPop i):=(pe_bm0 PySem.F.plainAttrs_list PySem.F.slot_list_pop PySem.F.type_list_pop mt_pop (pe_var hN hv hd hcd) hbase hline).imp fun σ H Q ⟨W,env,d,env',ok,q,k⟩=>by
  unfold fPop at q
  split at q
  case h_2=>cases q
  rename_i ds hq
  obtain ⟨v,hv,l,vs,rfl,hW,hl,r⟩:=ok.slot i _ hq
  cases e1:ds[ds.length - 1]? with
  | none=>rw [e1] at q; cases q
  | some d' =>
    rw [e1] at q; cases q
    obtain ⟨u,eu,ru⟩:=r.get e1
    obtain ⟨t1,t2⟩:=ok.turn hq hv r.dropLast
    exact ⟨_,hv,.inl ⟨rfl,_,.inl (.inl hl)⟩,l,vs,u,rfl,rfl,hl,by rw [← r.length]; exact eu,k W _ _ t2 t1 (ok.rep t2 ru)⟩
def popSl (k:D) (e:DE0) (i:Nat):Option (D × DE0):=match k,e[i]? with
  | .int k,some (some (.ow ds))=>if Few ds.length then (ixN ds.length k).bind fun j=>(ds[j]?).map fun d=>(d,e.set i (some (.ow (ds.eraseIdx j)))) else none
  | _,_=>none
def fPopAt (i:Nat) (f:FE):FE:=fun e=>match e[i]? with
  | some (some (.ow _))=>(f e).bind fun r=>popSl r.1 r.2 i
  | _=>none
theorem de_popAt (i:Nat) (ha:DEx X G H0 a f) (hN:X.N[i]?=some x:=by rfl) (hv:Vis X.env.scope x:=by first | exact Or.inl rfl | exact Or.inr (Or.inl rfl) | exact Or.inr (Or.inr rfl)) (hd:(x==("__debug__" : Str))=false:=by decide)
    (hcd:(x==("__classdict__" : Str))=false:=by decide) (hbase:attributeBase (.Name x p') "pop" X.env (eval (.Name x p') X.env)=eval (.Name x p') X.env:=by rfl)
    (hfew:((backTo pos (starEach [a] X.env)).all (fun x=>!x.1) && (backToKw pos (keywordEach [] X.env)).all (fun x=>x.1.isSome)
      && decide ([a].length + ([]:List Keyword).length + (if ([]:List Keyword).isEmpty then 0 else 1) < 30))=true:=by rfl)
    (hline:(p1.endLine==pos.line)=true:=by rfl) (hs:starEach [a] X.env=(false,eval a X.env)::starEach [] X.env:=by rfl) :
    DEx X G H0 (.Call (.Attribute (.Name x p') "pop" p1) [a] [] pos) (fPopAt i f):=(pe_bm PySem.F.plainAttrs_list PySem.F.slot_list_pop PySem.F.type_list_pop mt_popAt (pe_var hN hv hd hcd) (pa_cons ha pa_nil hs) hbase hfew hline hs rfl).imp fun σ H Q ⟨W,env,d,env',ok,q,k⟩=>by
  unfold fPopAt at q
  split at q
  case h_2=>cases q
  rename_i ds0 hq0
  obtain ⟨v,hv,l,vs0,rfl,hW0,hl0,_⟩:=ok.slot i _ hq0
  cases e1:f env with
  | none=>rw [e1] at q; cases q
  | some r =>
    obtain ⟨da,env1⟩:=r
    rw [e1,Option.bind_some] at q
    unfold popSl at q
    dsimp only at q
    split at q
    case h_2=>cases q
    rename_i kk ds hq
    split at q
    case isFalse=>cases q
    rename_i hlen
    cases e2:ixN ds.length kk with
    | none=>rw [e2] at q; cases q
    | some j =>
      rw [e2,Option.bind_some] at q
      cases e3:ds[j]? with
      | none=>rw [e3] at q; cases q
      | some d' =>
        rw [e3] at q; cases q
        obtain ⟨q1,q2,q3,q4⟩:=ixN_seq e2
        refine ⟨_,hv,.inl ⟨rfl,_,.inl (.inl hl0)⟩,W,env,_,env1,ok,e1,fun W1 v1 H1 s1 ok1 r1=>?_⟩
        obtain ⟨v',e4,l',vs,e5,hW,hl,r⟩:=ok1.slot i _ hq
        rw [hv] at e4; cases e4; cases e5
        obtain ⟨u,eu,ru⟩:=r.get e3
        obtain ⟨t1,t2⟩:=ok1.turn hq hv (r.eraseIdx j)
        exact ⟨l,vs,kk,j,u,rfl,by rw [r1.int_],hl,by have:ds.length≤2 ^ 20:=hlen; omega,by have:ds.length≤2 ^ 20:=hlen; omega,by rw [← r.length]; exact q1,eu,k W1 _ _ (s1.trans t2) t1 (ok1.rep t2 ru)⟩
@[simp] def setSl (d k:D) (e:DE0) (i:Nat):Option (Fl × DE0):=match k,e[i]? with
  | .int k,some (some (.ow ds))=>(ixN ds.length k).map fun j=>(.nx,e.set i (some (.ow (ds.set j d))))
  | _,_=>none
@[simp] def sSetIt (i:Nat) (fk fv:FE):FS:=fun e=>(fv e).bind fun r=>match r.2[i]? with
  | some (some (.ow _))=>(fk r.2).bind fun q=>setSl r.1 q.1 q.2 i
  | _=>none
theorem ds_setit (i:Nat) (hk:DEx X G H0 b g) (he:DEx X G H0 e f) (hN:X.N[i]?=some x:=by rfl) (hv:Vis X.env.scope x:=by first | exact Or.inl rfl | exact Or.inr (Or.inl rfl) | exact Or.inr (Or.inr rfl)) (hd:(x==("__debug__" : Str))=false:=by decide)
    (hcd:(x==("__classdict__" : Str))=false:=by decide) (hs:swapsWithSole [.Subscript (.Name x p') b p1] e pos.line X.env=pure false:=by rfl) (hw:swappedStores [.Subscript (.Name x p') b p1] e X.env=pure none:=by rfl)
    (h1:(assignEach [.Subscript (.Name x p') b p1] X.env).map (·.2)=[assign (.Subscript (.Name x p') b p1) X.env]:=by rfl)
    (hass:∀ v,assign (.Subscript (.Name x p') b p1) X.env v=(do
      let ov ← holding [v] (eval (.Name x p') X.env)
      let iv ← holding [v,ov] (eval b X.env)
      standAt p1
      holding [v,ov,iv] (setItem ov iv v)
      release [v,ov,iv] []):=by intro _; rfl) :
    DSx X G H0 (.Assign [.Subscript (.Name x p') b p1] e pos) (sSetIt i g f):=(ps_asg he (pg_sub (pe_var hN hv hd hcd) hk set_list hass) hs hw h1).imp fun Dn σ H ⟨W,env,fl,env',ok,q,k⟩=>by
  cases e1:f env with
  | none=>simp [sSetIt,e1] at q
  | some r =>
    obtain ⟨dv,env1⟩:=r
    simp only [sSetIt,e1,Option.bind_some] at q
    split at q
    case h_2=>cases q
    rename_i ds0 hq0
    cases e2:g env1 with
    | none=>rw [e2] at q; cases q
    | some r2 =>
      obtain ⟨dk,env2⟩:=r2
      rw [e2,Option.bind_some] at q
      unfold setSl at q
      dsimp only at q
      split at q
      case h_2=>cases q
      rename_i kk ds hq
      cases e3:ixN ds.length kk with
      | none=>rw [e3] at q; cases q
      | some j =>
        rw [e3] at q; cases q
        refine ⟨W,env,dv,env1,ok,e1,fun W1 v1 H1 s1 ok1 r1=>?_⟩
        obtain ⟨v,hv,l,vs0,rfl,hW0,hl0,_⟩:=ok1.slot i _ hq0
        refine ⟨_,hv,W1,env1,_,env2,ok1,e2,fun W2 v2 H2 s2 ok2 r2=>?_⟩
        obtain ⟨v',e4,l',vs,e5,hW,hl,r⟩:=ok2.slot i _ hq
        rw [hv] at e4; cases e4; cases e5
        obtain ⟨t1,t2⟩:=ok2.turn hq hv (Reps.set (ok1.rep s2 r1) j r)
        exact ⟨l,vs,kk,j,rfl,r2.int_,hl,by rw [← r.length]; exact e3,k W2 _ _ ((s1.trans s2).trans t2) t1⟩
end
def dStart (n:Nat) (ds:List D):DE0:=ds.map (fun d=>some (Sl.sh d))++List.replicate (n - ds.length) none
def runD (n ar:Nat) (g:FS):List D→Option D:=fun ds=>if ds.length=ar then (match g (dStart n ds) with | some (.rt d,_)=>some d | some (.nx,_)=>some .non | _=>none) else none
def runF (n ar:Nat) (g:FS):List D→Option (List D):=fun ds=>if ds.length=ar then (match g (dStart n ds) with | some (.rf d,_)=>some d | _=>none) else none
section
variable {P:Program} {w:World} {K:PySem.W.Frag} {mg:Str→Option Value} {base:Heap}
theorem start_slot:∀ {n:Nat} {ds:List D} {i:Nat} {s:Sl},(dStart n ds)[i]?=some (some s)→∃ d,ds[i]?=some d∧s=.sh d:=fun {n ds i s} h=>by
  unfold dStart at h
  by_cases hi:i < ds.length
  · rw [List.getElem?_append_left (by simpa using hi),List.getElem?_map] at h
    cases e:ds[i]? with
    | none=>rw [e] at h; cases h
    | some d=>rw [e] at h; cases h; exact ⟨d,rfl,rfl⟩
  · rw [List.getElem?_append_right (by simpa using hi),List.getElem?_replicate] at h
    split at h <;> cases h
theorem start_ok {H:Hp} {O:Addr→Prop} {ds:List D} {vs:List V} {N:List Str} (r:Reps K H O ds vs):Ok K (fun a=>O a∨H a=none) H NoW (dStart N.length ds) (start N vs) H:=by
  refine ⟨Same.refl _,fun a z=>.inr z,fun l z=>z.elim,fun i s e=>?_,fun i j s1 s2 v1 v2 a e1 _ _ _ o _=>?_,?_⟩
  · obtain ⟨d,e1,rfl⟩:=start_slot e
    obtain ⟨v,e2,r1⟩:=r.get e1
    refine ⟨v,?_,r1.mono (fun _ _ h=>h) fun a us o h=>⟨⟨.inl o,fun z=>z⟩,h⟩⟩
    unfold start
    rw [List.getElem?_append_left (by simpa using (List.getElem?_eq_some_iff.mp e2).1),List.getElem?_map,e2]
    rfl
  · obtain ⟨d,_,z⟩:=start_slot e1
    subst z
    exact o.elim
  · unfold dStart start
    rw [List.length_append,List.length_append,List.length_map,List.length_map,List.length_replicate,List.length_replicate,r.length]
theorem fn_D {x qual:Str} {st:Stmt} {f:Addr} {fd:FuncData} {N ps:List Str} {k:Nat} {g:FS} {n ar:Nat} (F:Fun K x qual st f fd) (S:FnScope N ps (defScope st)) (hn:n=N.length) (ha:ar=ps.length)
    (hbody:∀ (cdv:Value) (A:Around) (outer:List Env) (s:Shared) (H:Hp) (E:XK) (G:Addr→Prop) (H0:Hp),Room k (A.deeper (envOfC qual (defScope st) s.heap.objs.size f cdv)) →
      DBx (cxOf CX0 P w K mg base N qual (defScope st) f cdv A outer s H E).nox G H0 (defBody st) g):FnOk P w K mg base CX0 (k + 1) f fd ps (dSp K (runD n ar g)):=by
  subst hn ha
  refine F.ok S (fun vs H Q E h=>?_) (fun cdv A outer s H vs Q E hr h=>?_)
  · obtain ⟨O,ds,d,r,e,_⟩:=h
    rw [← r.length]
    unfold runD at e
    split at e
    · assumption
    · cases e
  · obtain ⟨O,ds,d,r,e,k⟩:=h
    refine ⟨_,hbody cdv A outer s H E (fun a=>O a∨H a=none) H hr,?_⟩
    unfold runD at e
    split at e
    case isFalse=>cases e
    split at e
    · rename_i d' env' hg
      cases e
      exact ⟨NoW,_,_,env',start_ok r,hg,fun v H' sm rp=>k v H' sm rp⟩
    · rename_i env' hg
      cases e
      exact ⟨NoW,_,_,env',start_ok r,hg,fun W' σ' H' st ok'=>k .non H' ok'.stay .non⟩
    · cases e
theorem fn_F {x qual:Str} {st:Stmt} {f:Addr} {fd:FuncData} {N ps:List Str} {k:Nat} {g:FS} {n ar:Nat} (F:Fun K x qual st f fd) (S:FnScope N ps (defScope st)) (hn:n=N.length) (ha:ar=ps.length)
    (hbody:∀ (cdv:Value) (A:Around) (outer:List Env) (s:Shared) (H:Hp) (E:XK) (G:Addr→Prop) (H0:Hp),Room k (A.deeper (envOfC qual (defScope st) s.heap.objs.size f cdv)) →
      DBx (cxOf CX0 P w K mg base N qual (defScope st) f cdv A outer s H E).nox G H0 (defBody st) g):FnOk P w K mg base CX0 (k + 1) f fd ps (fSp K (runF n ar g)):=by
  subst hn ha
  refine F.ok S (fun vs H Q E h=>?_) (fun cdv A outer s H vs Q E hr h=>?_)
  · obtain ⟨O,ds,d,r,e,_⟩:=h
    rw [← r.length]
    unfold runF at e
    split at e
    · assumption
    · cases e
  · obtain ⟨O,ds,d,r,e,k⟩:=h
    refine ⟨_,hbody cdv A outer s H E (fun a=>O a∨H a=none) H hr,?_⟩
    unfold runF at e
    split at e
    case isFalse=>cases e
    split at e
    · rename_i d' env' hg
      cases e
      exact ⟨NoW,_,_,env',start_ok r,hg,fun l vs' H' sm n0 hl rp=>k l vs' H' sm n0 hl rp⟩
    · cases e
def spTrue (K:PySem.W.Frag):Sp:=fun vs H Q _=>∃ (a:Addr) (ns:List Int),vs=[.ref a]∧SqL K H a (ns.map V.int)∧ns.length≤63∧∀ H',Q (.bl true) H'
theorem law_D {k:Nat} {f:Addr} {fd:FuncData} {ps:List Str} {m:List D→Option D} (F:FnOk P w K mg base CX0 k f fd ps (dSp K m)) (h:∀ ns:List Int,ns.length≤63→m [.lst (ns.map D.int)]=some (.bl true)) :
    FnOk P w K mg base CX0 k f fd ps (spTrue K):=F.imp fun vs H Q E ⟨a,ns,e,hr,hl,q⟩=>by
  subst e
  exact ⟨fun _=>True,[.lst (ns.map D.int)],.bl true,.cons (hr.elim (fun z=>.lst trivial z (reps_of_ints ns)) fun z=>.klst z (reps_of_ints ns)) .nil,h ns hl,fun v H' _ r=>by rw [r.bl_]; exact q H'⟩
end
end L2
end
set_option Elab.async false
set_option linter.all false
set_option maxRecDepth 100000
set_option maxHeartbeats 4000000
noncomputable section
namespace L2
open PySem PySem.Spec PyProof.Rows
section
variable {X:Cx} {G:Addr→Prop} {H0:Hp} {a b c e:Expr} {f g:FE} {F:FA} {pos p' p1 pos1:Pos} {x:Str} {i:Nat}
theorem fr_D:∀ σ H Q,tD X.K G H0 (fLst F) σ H Q→tDF X.K G H0 F σ H Q:=fun σ H Q ⟨W,env,d,env',ok,q,k⟩=>by
  cases e1:F env with
  | none=>simp [fLst,e1] at q
  | some r =>
    have q:some (D.lst r.1,r.2)=some (d,env'):=by simpa [fLst,e1] using q
    cases q
    refine ⟨W,env,_,_,ok,e1,fun W1 l vs H1 s1 ok1 ok2 nW hl rp=>k W1 _ H1 ⟨s1.keep,fun a z=>s1.ws a (.inl z)⟩ ok1 (.lst ⟨ok1.good l (ok2.wl l (.inr rfl)).1,nW⟩ (.inl hl) (rp.mono (fun _ _ h=>h) fun a us o h=>⟨⟨o.1,fun z=>o.2 (.inl z)⟩,h⟩))⟩
theorem ds_setE (hN:X.N.Nodup) (hi:X.N[i]?=some x) (hx:Loc X.env.scope x) (he:DEx X G H0 e f) (hs:swapsWith e (some (.Name x p')) pos.line X.env=pure false:=by rfl)
    (hf:X.fn x=true∨X.env.scope.names.lookup x=some .local:=by first | exact .inl rfl | exact .inr rfl | assumption):DSx X G H0 (.Assign [.Name x p'] e pos) (sSet i f):=ds_set hN hi he (ps_set hN hi hx he hs hf)
theorem ds_setF (ps:PS X (.Assign [.Name x p'] e pos) (tAsg (tDF X.K G H0 F) (gName i))):DSx X G H0 (.Assign [.Name x p'] e pos) (sSet i (fLst F)):=(PS.imp ps (t':=tAsg (tD X.K G H0 (fLst F)) (gName i)) fun Dn σ H h=>fr_D σ H _ h).imp fun Dn σ H ⟨W,env,fl,env',ok,q,k⟩=>by
  cases e1:fLst F env with
  | none=>simp only [sSet,e1,Option.map_none] at q; cases q
  | some r =>
    have q:some (Fl.nx,r.2.set i (some (Sl.sh r.1)))=some (fl,env'):=by simpa only [sSet,e1,Option.map_some] using q
    cases q
    exact ⟨W,env,_,_,ok,e1,fun W1 v1 H1 s1 ok1 p1=>k W1 _ H1 s1 (ok1.set p1)⟩
theorem ps_compD {y:Str} {N':List Str} {ix:List Nat} {sc:Scope} {px py spos:Pos} {fi:FI} {te:FE} (c:CompOk X x N' ix sc) (hc:X.calm=true) (hnN:X.N.Nodup) (hiy:X.N[i]?=some y) (hly:Loc X.env.scope y) (hi:DIx X G H0 (.Name x px) a fi)
    (hel:∀ cl C s₂ H₂ fp G H0,DEx (cxComp X x N' sc cl C s₂ H₂ fp) G H0 e te) (hsw:swapsWith (.ListComp e [⟨.Name x px,a,[],0⟩] sc pos) (some (.Name y py)) spos.line X.env=pure true)
    (hf:X.fn y=true∨X.env.scope.names.lookup y=some .local:=by first | exact .inl rfl | exact .inr rfl | assumption) (hs:∀ v,foldedSetIterable a X.env v=pure v:=by intro _; rfl) :
    PS X (.Assign [.Name y py] (.ListComp e [⟨.Name x px,a,[],0⟩] sc pos) spos) (tAsg (tDF X.K G H0 (fComp fi ix fYes te)) (gName i)) :=
  (ps_comp c hc hnN hiy hly hi (fun cl C s₂ H₂ fp=>yes_x (X:=X) rfl) (fun cl C s₂ H₂ fp=>el_x (X:=X) rfl (hel cl C s₂ H₂ fp)) hsw hf hs).imp fun D σ H h=>comp_D σ H _ h
end
end L2
end
set_option Elab.async false
set_option linter.all false
set_option maxRecDepth 100000
set_option maxHeartbeats 4000000
noncomputable section
namespace L2
open PySem PySem.Spec PyProof.Rows
section
variable {X:Cx} {G:Addr→Prop} {H0:Hp} {a b c e:Expr} {f g:FE} {F:FA} {pos p' p1 p2 pos1:Pos} {x:Str} {i:Nat}
abbrev FA2:=DE0→Option (List (List D) × DE0)
def tDF2 (K:PySem.W.Frag) (G:Addr→Prop) (H0:Hp) (f:FA2):TE:=fun σ H Q=>∃ W env dss env',Ok K G H0 W env σ H∧f env=some (dss,env') ∧
  ∀ W' l H',Step W H W' H'→Ok K G H0 W' env' σ H'→SlOk K G W' H' (.o2 dss) (.ref l) →
    (∀ (j:Nat) (s:Sl) (v:V) (a:Addr),env'[j]?=some (some s)→σ[j]?=some (some v)→Owns H' (.o2 dss) (.ref l) a→¬ Owns H' s v a)→Q (.ref l) H'
def DF2x (X:Cx) (G:Addr→Prop) (H0:Hp) (e:Expr) (f:FA2):Prop:=PE X e (tDF2 X.K G H0 f)
@[simp] def sOwn2 (i:Nat) (f:FA2):FS:=fun e=>(f e).map fun r=>(.nx,r.2.set i (some (.o2 r.1)))
theorem ds_own2 {f2:FA2} (ps:PS X (.Assign [.Name x p'] e pos) (tAsg (tDF2 X.K G H0 f2) (gName i))):DSx X G H0 (.Assign [.Name x p'] e pos) (sOwn2 i f2):=ps.imp fun Dn σ H ⟨W,env,fl,env',ok,q,k⟩=>by
  cases e1:f2 env with
  | none=>simp [sOwn2,e1] at q
  | some r =>
    have q:some (Fl.nx,r.2.set i (some (Sl.o2 r.1)))=some (fl,env'):=by simpa [sOwn2,e1] using q
    cases q
    exact ⟨W,env,_,_,ok,e1,fun W1 l H1 s1 ok1 h1 no=>k W1 _ H1 s1 (ok1.put h1 no)⟩
def compL2 (te:FA) (base:DE0):List D→Option (List (List D))
  | []=>some []
  | d::r=>(te (some (.sh d)::base)).bind fun v=>(compL2 te base r).map (v.1::·)
def fComp2 (fi:FI) (ix:List Nat) (te:FA):FA2:=fun e=>(fi e).bind fun r=>if Few r.1.length then (compL2 te (ix.map fun j=>capt (r.2.getD j none)) r.1).map fun ds=>(ds,r.2) else none
def tDxF (K:PySem.W.Frag) (f:FA):TE:=fun σ H Q=>∃ G H0,tDF K G H0 f σ H Q
theorem elF_x {X':Cx} {te:FA} (hK:X'.K=X.K) (h:∀ G H0,DFx X' G H0 e te):PE X' e (tDxF X.K te):=fun pins s σ H Q I ⟨G,H0,q⟩=>h G H0 pins s σ H Q I (by rw [hK]; exact q)
theorem comp2_D {fi:FI} {ix:List Nat} {te:FA}:∀ σ H Q,tDF2 X.K G H0 (fComp2 fi ix te) σ H Q→tComp (tDI X.K G H0 fi) ix (tDxT X.K fYes) (tDxF X.K te) σ H Q:=fun σ H Q ⟨W,env,d,env',ok,q,k⟩=>by
  cases e1:fi env with
  | none=>simp [fComp2,e1] at q
  | some z =>
    obtain ⟨ds,env1⟩:=z
    by_cases hl:Few ds.length
    · simp only [fComp2,e1,Option.bind_some,if_pos hl] at q
      cases e2:compL2 te (ix.map fun j=>capt (env1.getD j none)) ds with
      | none=>rw [e2] at q; cases q
      | some outs =>
        rw [e2] at q; cases q
        refine ⟨W,env,ds,_,ok,e1,fun W1 J H1 s1 ok1 wk=>?_⟩
        refine ⟨fun i m H' ys=>∃ Wi rest done ls,m=ds.length - i∧i≤ds.length∧Same H1 H'∧Step W1 H1 Wi H'∧Ok X.K G H0 Wi env' σ H'∧ys=ls.map V.ref∧Inn X.K G Wi H' done ls∧ls.Nodup∧(∀ a∈ls,H1 a=none)∧done.length≤i ∧
          compL2 te (ix.map fun j=>capt (env'.getD j none)) (ds.drop i)=some rest∧d=done++rest,
          ⟨ds.length,W1,d,[],[],rfl,Nat.zero_le _,Same.refl _,Step.refl,ok1,rfl,⟨rfl,fun j ds a e=>by simp at e⟩,List.nodup_nil,fun a h=>by simp at h,Nat.le_refl _,e2,rfl⟩,?_⟩
        rintro i m H' ys ⟨Wi,rest,done,ls,rfl,hi,sm,st,ok',rfl,inn,nd,fr,hd,ec,rfl⟩
        have lenL:ls.length=done.length:=inn.1
        have inH:∀ a∈ls,∃ vs,H' a=some (.lst vs):=fun a ha=>by
          obtain ⟨j,hj,e⟩:=List.getElem_of_mem ha
          have hj':j < done.length:=by omega
          obtain ⟨_,vs,h,_⟩:=inn.2 j done[j] a (by simp [hj']) (by simp [hj,e])
          exact ⟨vs,h⟩
        by_cases hlt:i < ds.length
        · have eq:ds.drop i=ds[i]::ds.drop (i + 1):=List.drop_eq_getElem_cons hlt
          rw [eq] at ec
          obtain ⟨hg,hy⟩:=wk.go Wi H' i ds[i] st (by simp [hlt])
          refine .inr ⟨hg,fun x H'' y=>?_⟩
          obtain ⟨rfl,rx⟩:=hy x H'' y
          have oki:=inner_ok (ix:=ix) ok' rx
          unfold compL2 at ec
          cases e4:te (some (.sh ds[i])::ix.map fun j=>capt (env'.getD j none)) with
          | none=>rw [e4] at ec; cases ec
          | some vv =>
            obtain ⟨dv,envv⟩:=vv
            rw [e4,Option.bind_some] at ec
            cases e5:compL2 te (ix.map fun j=>capt (env'.getD j none)) (ds.drop (i + 1)) with
            | none=>rw [e5] at ec; cases ec
            | some rest' =>
              rw [e5] at ec; cases ec
              refine ⟨_,_,NoW,_,true,_,oki,rfl,fun W2 H2 s2 ok2=>?_⟩
              dsimp only
              rw [if_pos rfl]
              refine ⟨_,_,W2,_,dv,envv,ok2,e4,fun W3 l vs H3 s3 ok3 ok3' nW hlv rp=>⟨?_,ds.length - (i + 1),by omega,?_⟩⟩
              · rw [List.length_map]
                have:ls.length < 2 ^ 20:=by have:ds.length≤2 ^ 20:=hl; omega
                exact Nat.lt_of_lt_of_le this (by rw [sizeLine_eq]; decide)
              · have sm3:Same H'' H3:=ok3.stay
                have hn:H'' l=none:=(ok3'.wl l (.inr rfl)).1
                obtain ⟨q1,q2,q3,q4,q5⟩:=ok'.fresh sm3 hn hlv (rp.mono (O':=fun a=>(Ow G Wi a∨H'' a=none)∧a ≠ l) (fun _ _ h=>h) fun a us o h=>⟨⟨o.1,fun z=>o.2 (.inr z)⟩,h⟩)
                have nl:l ∉ ls:=fun z=>by obtain ⟨us,h⟩:=inH l z; rw [hn] at h; cases h
                refine ⟨addW Wi l,rest',done++[dv],ls++[l],rfl,hlt,sm.trans sm3,st.trans q5,q3,by simp,⟨by simp [lenL],fun j es a ea eb=>?_⟩,?_,fun a ha=>?_,by rw [List.length_append,List.length_singleton]; omega,by first | exact e5 | rfl,by simp⟩
                · by_cases hj:j < done.length
                  · rw [List.getElem?_append_left hj] at ea
                    rw [List.getElem?_append_left (by omega)] at eb
                    obtain ⟨w,us,h,r⟩:=inn.2 j es a ea eb
                    exact ⟨.inl w,us,sm3 _ _ h,ok'.reps q5 r⟩
                  · rw [List.getElem?_append_right (by omega)] at ea
                    rw [List.getElem?_append_right (by omega),lenL] at eb
                    have hz:j - done.length=0:=by
                      have:=(List.getElem?_eq_some_iff.mp ea).1
                      simp at this; omega
                    rw [hz] at ea eb
                    simp only [List.getElem?_cons_zero,Option.some.injEq] at ea eb
                    subst ea eb
                    exact ⟨.inr rfl,vs,hlv,q4⟩
                · rw [List.nodup_append]
                  exact ⟨nd,by simp,fun a ha b hb=>by simp only [List.mem_singleton] at hb; subst hb; intro z; subst z; exact nl ha⟩
                · rcases List.mem_append.mp ha with z | z
                  · exact fr a z
                  · rw [List.mem_singleton.mp z]; exact sm.free hn
        · have e:i=ds.length:=by omega
          subst e
          rw [List.drop_length] at ec
          cases ec
          refine .inl ⟨wk.stop Wi H' st,by rw [List.length_map,lenL]; exact Nat.le_trans hd (Nat.le_trans hl (by rw [sizeLine_eq]; decide)),fun l hn=>?_⟩
          have smu:Same H' (upd H' l (.lst (ls.map V.ref))):=same_upd hn
          obtain ⟨q1,q2,q3,q4⟩:=ok'.fresh0 (vs:=ls.map V.ref) smu hn upd_same
          have nl:l ∉ ls:=fun z=>by obtain ⟨us,h⟩:=inH l z; rw [hn] at h; cases h
          have sm1:Same H1 (upd H' l (.lst (ls.map V.ref))):=sm.trans smu
          rw [List.append_nil] at k
          refine k (addW Wi l) l _ ((s1.trans st).trans q4) q3 ⟨l,ls,rfl,.inr rfl,upd_same,List.nodup_cons.mpr ⟨nl,nd⟩,inn.1,fun j es a ea eb=>?_⟩ fun j s v a ej ev o1 o2=>?_
          · obtain ⟨w,us,h,r⟩:=inn.2 j es a ea eb
            exact ⟨.inl w,us,smu _ _ h,ok'.reps q4 r⟩
          · obtain ⟨v',ev',hs⟩:=ok1.slot j s ej
            rw [ev] at ev'; cases ev'
            have ow1:Owns H1 s v a:=hs.back (fun l' _ _ vs q=>sm1 _ _ q) o2
            have wa:W1 a:=hs.owns ow1
            have ha1:H1 a ≠ none:=fun z=>by obtain ⟨_,us,q⟩:=ok1.wl a wa; rw [z] at q; cases q
            rcases o1 with o1 | ⟨l',ls',z,q,hb⟩
            · cases o1; exact ha1 (sm.free hn)
            · cases z
              rw [upd_same] at q
              have:=refs_inj (by simpa using q)
              subst this
              exact ha1 (fr a hb)
    · simp only [fComp2,e1,Option.bind_some,if_neg hl] at q; cases q
theorem ps_comp2 {y:Str} {N':List Str} {ix:List Nat} {sc:Scope} {px py spos:Pos} {fi:FI} {te:FA} (c:CompOk X x N' ix sc) (hc:X.calm=true) (hnN:X.N.Nodup) (hiy:X.N[i]?=some y) (hly:Loc X.env.scope y) (hi:DIx X G H0 (.Name x px) a fi)
    (hel:∀ cl C s₂ H₂ fp G H0,DFx (cxComp X x N' sc cl C s₂ H₂ fp) G H0 e te) (hsw:swapsWith (.ListComp e [⟨.Name x px,a,[],0⟩] sc pos) (some (.Name y py)) spos.line X.env=pure true)
    (hf:X.fn y=true∨X.env.scope.names.lookup y=some .local:=by first | exact .inl rfl | exact .inr rfl | assumption) (hs:∀ v,foldedSetIterable a X.env v=pure v:=by intro _; rfl) :
    PS X (.Assign [.Name y py] (.ListComp e [⟨.Name x px,a,[],0⟩] sc pos) spos) (tAsg (tDF2 X.K G H0 (fComp2 fi ix te)) (gName i)) :=
  (ps_comp c hc hnN hiy hly hi (fun cl C s₂ H₂ fp=>yes_x (X:=X) rfl) (fun cl C s₂ H₂ fp=>elF_x (X:=X) rfl (hel cl C s₂ H₂ fp)) hsw hf hs).imp fun D σ H h=>comp2_D σ H _ h
end
end L2
end
set_option Elab.async false
set_option linter.all false
set_option maxRecDepth 100000
set_option maxHeartbeats 4000000
noncomputable section
namespace L2
open PySem PySem.Spec PyProof.Rows
section
variable {X:Cx} {G:Addr→Prop} {H0:Hp} {a b c e:Expr} {f g:FE} {F:FA} {pos p' p1 p2 pos1:Pos} {x:Str} {i:Nat}
theorem mask_ok {W:Addr→Prop} {env:DE0} {σ:St} {H:Hp} (ok:Ok X.K G H0 W env σ H):Ok X.K (fun a=>Ow G W a∨H a=none) H NoW (env.map capt) σ H:=by
  have up:∀ {d:D} {v:V},Rep X.K H (Ow G W) d v→Rep X.K H (Ow (fun a=>Ow G W a∨H a=none) NoW) d v:=fun r=>r.mono (fun _ _ h=>h) fun a us o h=>⟨⟨.inl o,fun z=>z⟩,h⟩
  have shs:∀ (i:Nat) (s:Sl),(env.map capt)[i]?=some (some s)→∃ d',s=.sh d'∧env[i]?=some (some (.sh d')):=fun i s z=>by
    rw [List.getElem?_map] at z
    cases q:env[i]? with
    | none=>rw [q] at z; cases z
    | some o =>
      rw [q] at z
      have z:capt o=some s:=Option.some.inj z
      unfold capt at z
      split at z
      · cases z; exact ⟨_,rfl,rfl⟩
      · cases z
  refine ⟨Same.refl _,fun a z=>.inr z,fun l z=>z.elim,fun i s e=>?_,fun i j s1 s2 v1 v2 a e1 _ _ _ o _=>by obtain ⟨d',rfl,_⟩:=shs i s1 e1; exact o.elim,by rw [List.length_map]; exact ok.len⟩
  obtain ⟨d',rfl,e'⟩:=shs i s e
  obtain ⟨v,e1,r⟩:=ok.slot i _ e'
  exact ⟨v,e1,up r⟩
theorem unmask {W W2:Addr→Prop} {env:DE0} {σ:St} {H H2:Hp} {d:D} {v:V} (ok:Ok X.K G H0 W env σ H) (r:Rep X.K H2 (Ow (fun a=>Ow G W a∨H a=none) W2) d v):Rep X.K H2 (Ow G W) d v:=r.mono (fun _ _ h=>h) fun a us o h=>⟨by
  rcases o.1 with z | z
  · exact z
  · exact ⟨ok.good a (ok.stay.free z),fun w=>by obtain ⟨_,us,q⟩:=ok.wl a w; rw [z] at q; cases q⟩,h⟩
theorem atI_of {α:Type} {xs:List α} {k:Int} {j:Nat} {y:α} (h:ixN xs.length k=some j) (h2:xs[j]?=some y):atI xs k=some y:=by
  unfold atI
  rw [h]
  exact h2
theorem inner_at {W:Addr→Prop} {env:DE0} {σ:St} {H:Hp} {dss:List (List D)} {k:Int} {j:Nat} {ds:List D} {v:V} (ok:Ok X.K G H0 W env σ H) (hq:env[i]?=some (some (.o2 dss))) (hv:σ[i]?=some (some v)) (hk:ixN dss.length k=some j) (hj:dss[j]?=some ds) :
    ∃ (l:Addr) (ls:List Addr) (a:Addr) (vs:List V),v=.ref l∧H l=some (.lst (ls.map V.ref))∧ls[j]?=some a∧atI (ls.map V.ref) k=some (.ref a)∧H a=some (.lst vs)∧Reps X.K H (Ow G W) ds vs:=by
  obtain ⟨v',e2,l,ls,rfl,hW,hl,nd,hi⟩:=ok.slot i _ hq
  rw [hv] at e2; cases e2
  have hlt:j < ls.length:=by rw [hi.1]; exact (List.getElem?_eq_some_iff.mp hj).1
  obtain ⟨_,vs,h,r⟩:=hi.2 j ds ls[j] hj (by simp [hlt])
  exact ⟨l,ls,ls[j],vs,rfl,hl,by simp [hlt],atI_of (j:=j) (by rw [List.length_map,hi.1]; exact hk) (by simp [hlt]),h,r⟩
@[simp] def app2 (k d:D) (e:DE0) (i:Nat):Option (D × DE0):=match k,e[i]? with
  | .int k,some (some (.o2 dss))=>(ixN dss.length k).bind fun j=>(dss[j]?).bind fun ds=>if Few (ds.length + 1) then some (.non,e.set i (some (.o2 (dss.set j (ds++[d]))))) else none
  | _,_=>none
@[simp] def fAppend2 (i:Nat) (g f:FE):FE:=fun e=>match e[i]? with
  | some (some (.o2 _))=>(g e).bind fun r=>(f (r.2.map capt)).bind fun q=>app2 r.1 q.1 r.2 i
  | _=>none
theorem de_append2 (i:Nat) (hb:DEx X G H0 b g) (ha:∀ G H0,DEx X G H0 a f) (hpi:PlainIx b:=by intro _ _; rfl) (hN:X.N[i]?=some x:=by rfl) (hv:Vis X.env.scope x:=by first | exact Or.inl rfl | exact Or.inr (Or.inl rfl) | exact Or.inr (Or.inr rfl)) (hd:(x==("__debug__" : Str))=false:=by decide)
    (hcd:(x==("__classdict__" : Str))=false:=by decide) (hbase:attributeBase (.Subscript (.Name x p') b p2) "append" X.env (eval (.Subscript (.Name x p') b p2) X.env)=eval (.Subscript (.Name x p') b p2) X.env:=by rfl)
    (hfew:((backTo pos (starEach [a] X.env)).all (fun x=>!x.1) && (backToKw pos (keywordEach [] X.env)).all (fun x=>x.1.isSome)
      && decide ([a].length + ([]:List Keyword).length + (if ([]:List Keyword).isEmpty then 0 else 1) < 30))=true:=by rfl)
    (hline:(p1.endLine==pos.line)=true:=by rfl) (hs:starEach [a] X.env=(false,eval a X.env)::starEach [] X.env:=by rfl) :
    DEx X G H0 (.Call (.Attribute (.Subscript (.Name x p') b p2) "append" p1) [a] [] pos) (fAppend2 i g f) :=
  (pe_bm PySem.F.plainAttrs_list PySem.F.slot_list_append PySem.F.type_list_append mt_append (pe_ix ix_seq (pe_var hN hv hd hcd) hb hpi) (pa_cons (el_x (X:=X) rfl ha) pa_nil hs) hbase hfew hline hs rfl).imp fun σ H Q ⟨W,env,d,env',ok,q,k⟩=>by
    unfold fAppend2 at q
    split at q
    case h_2=>cases q
    rename_i ds0 hq0
    obtain ⟨v,hv,_⟩:=ok.slot i _ hq0
    cases e1:g env with
    | none=>rw [e1] at q; cases q
    | some r =>
      obtain ⟨dk,env1⟩:=r
      rw [e1,Option.bind_some] at q
      dsimp only at q
      cases e2:f (env1.map capt) with
      | none=>rw [e2] at q; cases q
      | some r2 =>
        obtain ⟨da,env2⟩:=r2
        rw [e2,Option.bind_some] at q
        unfold app2 at q
        dsimp only at q
        split at q
        case h_2=>cases q
        rename_i kk dss hq
        cases e3:ixN dss.length kk with
        | none=>rw [e3] at q; cases q
        | some j =>
          rw [e3,Option.bind_some] at q
          cases e4:dss[j]? with
          | none=>rw [e4] at q; cases q
          | some ds =>
            rw [e4,Option.bind_some] at q
            split at q
            case isFalse=>cases q
            rename_i hlen
            cases q
            refine ⟨v,hv,W,env,_,env1,ok,e1,fun W1 v1 H1 s1 ok1 r1=>?_⟩
            obtain ⟨l,ls,a,vs,rfl,hl,hla,hat,hH,r⟩:=inner_at ok1 hq hv e3 e4
            refine .inl ⟨l,_,kk,.ref a,rfl,r1.int_,.inl (.inl hl),hat,.inl ⟨rfl,vs,.inl (.inl hH)⟩,?_⟩
            refine ⟨_,_,NoW,_,da,env2,mask_ok ok1,e2,fun W2 v2 H2 s2 ok2 r2=>?_⟩
            have ok1':=ok1.same ok2.stay
            have rr:=ok1.reps (Step.same ok2.stay) r
            obtain ⟨t1,t2⟩:=ok1'.turn2 hq hv (ok2.stay _ _ hl) e4 hla (rr.append (.cons (unmask ok1 r2) .nil))
            exact ⟨a,vs,v2,rfl,rfl,ok2.stay _ _ hH,by rw [← r.length]; exact lt20 (Nat.lt_of_succ_le hlen),k W1 _ _ ((s1.trans (Step.same ok2.stay)).trans t2) t1 .non⟩
@[simp] def pop2 (k m:D) (e:DE0) (i:Nat):Option (D × DE0):=match k,m,e[i]? with
  | .int k,.int m,some (some (.o2 dss))=>(ixN dss.length k).bind fun j=>(dss[j]?).bind fun ds=>if Few ds.length then (ixN ds.length m).bind fun n=>(ds[n]?).map fun d=>(d,e.set i (some (.o2 (dss.set j (ds.eraseIdx n))))) else none
  | _,_,_=>none
@[simp] def fPopAt2 (i:Nat) (g f:FE):FE:=fun e=>match e[i]? with
  | some (some (.o2 _))=>(g e).bind fun r=>(f (r.2.map capt)).bind fun q=>pop2 r.1 q.1 r.2 i
  | _=>none
end
end L2
end
set_option Elab.async false
set_option linter.all false
set_option maxRecDepth 100000
set_option maxHeartbeats 4000000
noncomputable section
namespace L2
open PySem PySem.Spec PyProof.Rows
section
variable {X:Cx} {x y:Str} {N':List Str} {ix:List Nat} {sc:Scope} {cl:List (Str × Addr)} {C:Addr} {s:Shared} {H:Hp} {fp:List Addr}
theorem vis_cl (h:sc.names.lookup x=some .local):Vis (cxComp X y N' sc cl C s H fp).env.scope x:=.inl (lookup_relabel_local h)
theorem lookup_relabel_glob {env:Env}:∀ {names:List (Str × NameKind)} {x:Str},names.lookup x=some .globalImplicit →
    (names.map fun (n,k)=>if (k==NameKind.free && env.scope.kind==.function && env.kindOf n==some .cell) then (n,NameKind.cell) else (n,k)).lookup x=some .globalImplicit
  | [],_,h=>by simp at h
  | (n,k)::r,x,h=>by
    have ih:=@lookup_relabel_glob env r x
    show List.lookup x ((if (k==NameKind.free && env.scope.kind==.function && env.kindOf n==some .cell)=true then (n,NameKind.cell) else (n,k))::_)=_
    cases hx:x==n with
    | true =>
      simp only [List.lookup_cons,hx] at h
      cases h
      simp [List.lookup_cons,hx]
    | false =>
      simp only [List.lookup_cons,hx] at h
      by_cases hc:(k==NameKind.free && env.scope.kind==.function && env.kindOf n==some .cell)=true
      · rw [if_pos hc]; simp only [List.lookup_cons,hx]; exact ih h
      · rw [if_neg hc]; simp only [List.lookup_cons,hx]; exact ih h
theorem gl_c (h:sc.names.lookup x=some .globalImplicit):Gl (cxComp X y N' sc cl C s H fp) x:=lookup_relabel_glob h
def AllK (X:Cx):List Str→Prop
  | []=>True
  | u::r=>(X.env.kindOf u=some .cell∨X.env.kindOf u=some .free)∧AllK X r
theorem AllK.mem:∀ {l:List Str},AllK X l→∀ u∈l,X.env.kindOf u=some .cell∨X.env.kindOf u=some .free
  | [],_,_,h=>nomatch h
  | _::_,h,u,hu=>by
    rcases List.mem_cons.mp hu with rfl | hu
    · exact h.1
    · exact AllK.mem h.2 u hu
theorem compOk (nm:N'=ix.map fun i=>X.N.getD i ("" : Str)) (hb:(decide ((y::N').Nodup) && decide (sc.kind=.function) && decide (sc.names.lookup y=some .local) && decide (∀ z∈sc.names,z.2 ≠ .cell) && decide (∀ z∈sc.names,z.2=.local→sc.names.lookup z.1=some .local)
    && decide (∀ z∈sc.names,z.2=.free→z.1∈N') && decide (∀ u∈N',sc.names.lookup u=some .free))=true) (ak:AllK X N'):CompOk X y N' ix sc:=by
  simp only [Bool.and_eq_true,decide_eq_true_eq] at hb
  obtain ⟨⟨⟨⟨⟨⟨h1,h2⟩,h3⟩,h4⟩,h5⟩,h6⟩,h7⟩:=hb
  exact ⟨nm,h1,h2,h3,h4,h5,fun z hz hf=>ak.mem z.1 (h6 z hz hf),h7⟩
end
theorem nn_int:("int" : Str) ≠ "__name__":=by decide +kernel
theorem nn_bool:("bool" : Str) ≠ "__name__":=by decide +kernel
theorem nn_str:("str" : Str) ≠ "__name__":=by decide +kernel
theorem nn_list:("list" : Str) ≠ "__name__":=by decide +kernel
theorem nn_tuple:("tuple" : Str) ≠ "__name__":=by decide +kernel
theorem nd_int:(("int" : Str)==("__debug__" : Str))=false:=by decide +kernel
theorem nd_bool:(("bool" : Str)==("__debug__" : Str))=false:=by decide +kernel
theorem nd_str:(("str" : Str)==("__debug__" : Str))=false:=by decide +kernel
theorem nd_list:(("list" : Str)==("__debug__" : Str))=false:=by decide +kernel
theorem nd_tuple:(("tuple" : Str)==("__debug__" : Str))=false:=by decide +kernel
theorem bt_int:bootBuiltins "int" = some (.type "int"):=by decide +kernel
theorem bt_bool:bootBuiltins "bool" = some (.type "bool"):=by decide +kernel
theorem bt_str:bootBuiltins "str" = some (.type "str"):=by decide +kernel
theorem bt_list:bootBuiltins "list" = some (.type "list"):=by decide +kernel
theorem bt_tuple:bootBuiltins "tuple" = some (.type "tuple"):=by decide +kernel
theorem ik_int:isKind "int" = true:=by decide +kernel
theorem ik_bool:isKind "bool" = true:=by decide +kernel
theorem ik_str:isKind "str" = true:=by decide +kernel
theorem ik_list:isKind "list" = true:=by decide +kernel
theorem ik_tuple:isKind "tuple" = true:=by decide +kernel
end L2
end
set_option Elab.async false
set_option linter.all false
set_option maxRecDepth 100000
set_option maxHeartbeats 4000000
noncomputable section
namespace L2
open PySem PySem.Spec PyProof.Rows
section
variable {X:Cx} {G:Addr→Prop} {H0:Hp} {a b c e:Expr} {f g:FE} {F:FA} {pos p' p1 pos1:Pos} {x:Str} {i:Nat}
theorem ins_arr {α:Type} (l:List α) (k:Nat) (y:α):(l.toArray.extract 0 k).push y++l.toArray.extract k=(l.take k++y::l.drop k).toArray:=by
  apply Array.toList_inj.mp
  simp
  exact List.take_of_length_le (by simp)
def rInsert:V→List V→Hp→VK→Prop:=fun x vs H Q=>∃ (l:Addr) (xs:List V) (i:Int) (y:V),x=.ref l∧vs=[.int i,y]∧H l=some (.lst xs)∧0≤i∧i≤xs.length∧i < 2 ^ 62∧xs.length < sizeLine∧Q .non (upd H l (.lst (xs.take i.toNat++y::xs.drop i.toNat)))
theorem Vals.ins {xs:List V} {its:List Value} {y:V} {u:Value} (r:Vals xs its) (ru:Vals [y] [u]) (k:Nat):Vals (xs.take k++y::xs.drop k) (its.take k++u::its.drop k):=by
  have:=(r.take k).append (ru.append (r.drop k))
  simpa using this
theorem mt_insert:MtM X "list.insert" rInsert:=by
  intro pins s σ H x vs v us Q I rx rv h
  obtain ⟨l,xs,i,y,rfl,rfl,hH,h0,h1,h2,hz,q⟩:=h
  cases rx
  obtain ⟨u1,u2,rfl,ru1,ru2⟩:=rv.two
  obtain ⟨t,rfl⟩:=ru1
  obtain ⟨z,its,n,r,hl,e⟩:=I.lstM hH
  refine call_meets F.slot_list_insert ⟨_,e,rfl⟩ F.entry_list_insert (F.args_list_insert_3 _ _ _) (PySem.AutoSeq1.list_insert_list_int_val_1 l its.toArray n i t u2 (by rw [fitsIndex_both (k:=i) (by omega) (by omega)]; decide) (by rw [List.size_toArray]; omega)) ⟨e,?_⟩
  refine ⟨.non,_,I.lset (its':=its.take i.toNat++u2::its.drop i.toNat) hH e ?_ (Vals.ins r (.cons ru2 .nil) _) ?_,rfl,q⟩
  · have hk:(if i < 0 then (i + (its.toArray.size:Int)).toNat else min i.toNat its.toArray.size)=i.toNat:=by
      rw [if_neg (by omega),List.size_toArray]
      omega
    show (its.toArray.extract 0 (if i < 0 then (i + (its.toArray.size:Int)).toNat else min i.toNat its.toArray.size)).push u2++its.toArray.extract (if i < 0 then (i + (its.toArray.size:Int)).toNat else min i.toNat its.toArray.size)=_
    rw [hk,ins_arr]
  · rw [List.length_append,List.length_cons,List.length_take,List.length_drop]
    omega
def insSl (k d:D) (e:DE0) (i:Nat):Option (D × DE0):=match k,e[i]? with
  | .int k,some (some (.ow ds))=>if 0≤k∧k≤ds.length∧Few (ds.length + 1) then some (.non,e.set i (some (.ow (ds.take k.toNat++d::ds.drop k.toNat)))) else none
  | _,_=>none
def fInsert (i:Nat) (f g:FE):FE:=fun e=>match e[i]? with
  | some (some (.ow _))=>(fCons f (fCons g fNil) e).bind fun r=>match r.1 with | [k,d]=>insSl k d r.2 i | _=>none
  | _=>none
theorem de_insert (i:Nat) (ha:DEx X G H0 a f) (hb:DEx X G H0 b g) (hN:X.N[i]?=some x:=by rfl) (hv:Vis X.env.scope x:=by first | exact Or.inl rfl | exact Or.inr (Or.inl rfl) | exact Or.inr (Or.inr rfl)) (hd:(x==("__debug__" : Str))=false:=by decide)
    (hcd:(x==("__classdict__" : Str))=false:=by decide) (hbase:attributeBase (.Name x p') "insert" X.env (eval (.Name x p') X.env)=eval (.Name x p') X.env:=by rfl)
    (hfew:((backTo pos (starEach [a,b] X.env)).all (fun x=>!x.1) && (backToKw pos (keywordEach [] X.env)).all (fun x=>x.1.isSome)
      && decide ([a,b].length + ([]:List Keyword).length + (if ([]:List Keyword).isEmpty then 0 else 1) < 30))=true:=by rfl)
    (hline:(p1.endLine==pos.line)=true:=by rfl) (hs:starEach [a,b] X.env=(false,eval a X.env)::starEach [b] X.env:=by rfl) (hs2:starEach [b] X.env=(false,eval b X.env)::starEach [] X.env:=by rfl)
    (hpl:(backTo pos (starEach [b] X.env)).any (·.1)=false:=by rfl) :
    DEx X G H0 (.Call (.Attribute (.Name x p') "insert" p1) [a,b] [] pos) (fInsert i f g):=(pe_bm PySem.F.plainAttrs_list PySem.F.slot_list_insert PySem.F.type_list_insert mt_insert (pe_var hN hv hd hcd) (da_cons ha (da_cons hb da_nil hs2) hs) hbase hfew hline hs hpl).imp fun σ H Q ⟨W,env,d,env',ok,q,k⟩=>by
  unfold fInsert at q
  split at q
  case h_2=>cases q
  rename_i ds0 hq0
  obtain ⟨v,hv,l,vs0,rfl,hW0,hl0,_⟩:=ok.slot i _ hq0
  cases e1:fCons f (fCons g fNil) env with
  | none=>rw [e1] at q; cases q
  | some r =>
    obtain ⟨das,env1⟩:=r
    rw [e1,Option.bind_some] at q
    dsimp only at q
    split at q
    case h_2=>cases q
    rename_i dk dd _
    unfold insSl at q
    split at q
    case h_2=>cases q
    rename_i kk ds hq
    split at q
    case isFalse=>cases q
    rename_i hc
    obtain ⟨c0,c1,c2⟩:=hc
    cases q
    refine ⟨_,hv,.inl ⟨rfl,_,.inl (.inl hl0)⟩,W,env,_,env1,ok,e1,fun W1 vs1 H1 s1 ok1 r1=>?_⟩
    obtain ⟨v',e2,l',vs,e3,hW,hl,r⟩:=ok1.slot i _ hq
    rw [hv] at e2; cases e2; cases e3
    cases r1 with
    | cons q1 r2 =>
    cases r2 with
    | cons q2 r3 =>
    cases r3
    cases q1
    obtain ⟨t1,t2⟩:=ok1.turn hq hv ((r.take kk.toNat).append (.cons q2 (r.drop kk.toNat)))
    have hlen:=r.length
    have c3:ds.length < sizeLine:=lt20 (Nat.lt_of_succ_le c2)
    have c4:ds.length + 1≤2 ^ 20:=c2
    exact ⟨l,vs,kk,_,rfl,rfl,hl,c0,by rw [← hlen]; exact c1,by omega,by rw [← hlen]; exact c3,k W1 _ _ (s1.trans t2) t1 .non⟩
end
end L2
end
set_option Elab.async false
set_option linter.all false
set_option maxRecDepth 100000
set_option maxHeartbeats 4000000
noncomputable section
namespace L2
open PySem PySem.Spec PyProof.Rows
def setAll:List Nat→List D→DE0→DE0
  | i::ix,d::ds,e=>setAll ix ds (e.set i (some (.sh d)))
  | _,_,e=>e
def gIs:List Nat→TGs
  | []=>gNil
  | i::ix=>gCons (gName i) (gIs ix)
def unp (ix:List Nat) (d:D) (e:DE0):Option DE0:=match d with
  | .tup ds=>if ds.length=ix.length then some (setAll ix ds e) else none
  | _=>none
def forU (ix:List Nat) (g:FS):List D→DE0→Option (Fl × DE0)
  | [],e=>some (.nx,e)
  | d::r,e=>(unp ix d e).bind fun e1=>(g e1).bind fun q=>match q.1 with | .nx=>forU ix g r q.2 | .ct=>forU ix g r q.2 | .bk=>some (.nx,q.2) | .rt d=>some (.rt d,q.2) | .rf ds=>some (.rf ds,q.2) | .r2 ds=>some (.r2 ds,q.2)
@[simp] def sForU (ix:List Nat) (fi:FI) (g:FS):FS:=fun e=>(fi e).bind fun r=>forU ix g r.1 r.2
section
variable {X:Cx} {G:Addr→Prop} {H0:Hp} {a b c e:Expr} {f g:FE} {F:FA} {u:FS} {pos p' p1 pos1:Pos} {x:Str} {i:Nat} {ix:List Nat} {es:List Expr}
theorem gIs_ok {K:PySem.W.Frag} {W:Addr→Prop} {H:Hp}:∀ (ix:List Nat) (ds:List D) (vs:List V) (env:DE0) (σ:St) (Q:St→Hp→Prop),Ok K G H0 W env σ H→Reps K H (Ow G W) ds vs→ds.length=ix.length →
    (∀ σ',Ok K G H0 W (setAll ix ds env) σ' H→Q σ' H)→gIs ix vs σ H Q
  | [],ds,vs,env,σ,Q,ok,r,hl,k=>by
    cases r with
    | nil=>exact ⟨rfl,k σ ok⟩
    | cons _ _=>cases hl
  | i::ix,ds,vs,env,σ,Q,ok,r,hl,k=>by
    cases r with
    | nil=>cases hl
    | @cons d v ds vs r0 r =>
      refine ⟨v,vs,rfl,?_⟩
      exact gIs_ok ix ds vs _ _ Q (ok.set r0) r (Nat.succ.inj hl) k
theorem pn_nil:PGs X [] (gIs []):=pgs_nil
theorem pn_cons (hN:X.N.Nodup) (hi:X.N[i]?=some x) (hx:Loc X.env.scope x) (h:PGs X es (gIs ix)) (hf:X.fn x=true∨X.env.scope.names.lookup x=some .local:=by first | exact .inl rfl | exact .inr rfl | assumption)
    (hs:(assignEach (.Name x pos::es) X.env).map (·.2)=assign (.Name x pos) X.env::(assignEach es X.env).map (·.2):=by rfl):PGs X (.Name x pos::es) (gIs (i::ix)):=pgs_cons (pg_name hN hi hx hf) h hs
theorem ds_forU {k:Nat} {body:List Stmt} {fi:FI} (hp:PassesOwn (model X.prog X.w) X.A X.env X.xe) (hc:X.calm=true) (hi:DIx X G H0 (.Tuple es k p1) a fi) (h:PGs X es (gIs ix)) (hb:DBx X G H0 body u)
    (hn:(assignEach es X.env).length=ix.length:=by rfl) (hst:(assignEach es X.env).findIdx? (·.1)=none:=by rfl)
    (hs:∀ x,foldedSetIterable a X.env x=pure x:=by intro _; rfl):DSx X G H0 (.For (.Tuple es k p1) a body [] pos) (sForU ix fi u):=(ps_for hp hc hi (pg_tup (n:=ix.length) hc h hn hst) hb hs).imp fun Dn σ H ⟨W,env,fl,env',ok,q,k⟩=>by
  cases e1:fi env with
  | none=>simp [sForU,e1] at q
  | some z =>
    obtain ⟨ds,env1⟩:=z
    have q:forU ix u ds env1=some (fl,env'):=by simpa [sForU,e1] using q
    refine ⟨W,env,ds,env1,ok,e1,fun W1 J H1 s1 ok1 wk=>?_⟩
    refine ⟨fun n m σ' H'=>∃ W' env2,m=ds.length - n∧n≤ds.length∧Step W1 H1 W' H'∧Ok X.K G H0 W' env2 σ' H'∧forU ix u (ds.drop n) env2=some (fl,env'),⟨ds.length,W1,env1,rfl,Nat.zero_le _,Step.refl,ok1,q⟩,?_⟩
    rintro n m σ' H' ⟨W',env2,rfl,hn,st,ok',ef⟩
    by_cases hlt:n < ds.length
    · have eq:ds.drop n=ds[n]::ds.drop (n + 1):=List.drop_eq_getElem_cons hlt
      rw [eq] at ef
      obtain ⟨hg,hy⟩:=wk.go W' H' n ds[n] st (by simp [hlt])
      unfold forU at ef
      cases e2:unp ix ds[n] env2 with
      | none=>rw [e2] at ef; cases ef
      | some env5 =>
      rw [e2,Option.bind_some] at ef
      cases e3:u env5 with
      | none=>rw [e3] at ef; cases ef
      | some r =>
        obtain ⟨fl3,env3⟩:=r
        rw [e3,Option.bind_some] at ef
        refine .inr ⟨hg,fun σ2 H2=>∃ W2 env4,Step W1 H1 W2 H2∧Ok X.K G H0 W2 env4 σ2 H2∧forU ix u (ds.drop (n + 1)) env4=some (fl,env'),fun σ2 H2 ⟨W2,env4,s2,ok2,e4⟩=>⟨ds.length - (n + 1),by omega,W2,env4,rfl,hlt,s2,ok2,e4⟩,fun x H'' y=>?_⟩
        obtain ⟨rfl,rx⟩:=hy x H'' y
        generalize ds[n]=dn at rx e2
        unfold unp at e2
        split at e2
        case h_2=>cases e2
        rename_i dds
        split at e2
        case isFalse=>cases e2
        rename_i hl
        cases e2
        cases rx with
        | @tup a vs _ ht rr =>
        refine ⟨a,vs,rfl,.inl (.inl ht),by rw [← rr.length]; exact hl,gIs_ok ix dds vs _ σ' _ ok' rr hl fun σ3 ok3=>?_⟩
        refine ⟨W',_,fl3,env3,ok3,e3,?_⟩
        cases fl3 with
        | nx=>exact fun W2 σ2 H2 s2 ok2=>⟨W2,env3,st.trans s2,ok2,ef⟩
        | ct=>exact fun W2 σ2 H2 s2 ok2=>⟨W2,env3,st.trans s2,ok2,ef⟩
        | bk =>
          cases ef
          exact fun W2 σ2 H2 s2 ok2=>k W2 σ2 H2 ((s1.trans st).trans s2) ok2
        | rt d=>cases ef; exact k
        | rf d=>cases ef; exact k
        | r2 d=>cases ef; exact k
    · have e:n=ds.length:=by omega
      subst e
      rw [List.drop_length] at ef
      cases ef
      exact .inl ⟨wk.stop W' H' st,k W' σ' H' (s1.trans st) ok'⟩
end
end L2
end
set_option Elab.async false
set_option linter.all false
set_option maxRecDepth 100000
set_option maxHeartbeats 4000000
noncomputable section
namespace L2
open PySem PySem.Spec PyProof.Rows
section
variable {X:Cx} {G:Addr→Prop} {H0:Hp} {a b c e:Expr} {f g:FE} {F:FA} {u:FS} {pos p' p1 pos1:Pos} {x:Str} {i:Nat}
def fRep (F:FA) (g:FE):FA:=fun e=>(F e).bind fun r=>(g r.2).bind fun q=>match q.1 with
  | .int k=>if Few (r.1.length * k.toNat)∧Bnd (-(2 ^ 62)) (2 ^ 62) k then some ((List.replicate k.toNat r.1).flatten,q.2) else none
  | _=>none
theorem Reps.rep {K:PySem.W.Frag} {H:Hp} {O:Addr→Prop} {ds:List D} {vs:List V} (r:Reps K H O ds vs):∀ k:Nat,Reps K H O (List.replicate k ds).flatten (List.replicate k vs).flatten
  | 0=>.nil
  | k + 1=>by
    rw [List.replicate_succ,List.flatten_cons,List.replicate_succ,List.flatten_cons]
    exact r.append (Reps.rep r k)
theorem df_rep (ha:DFx X G H0 a F) (hb:DEx X G H0 b g):DFx X G H0 (.BinOp a .Mult b pos) (fRep F g):=(pe_op op_rep ha hb).imp fun σ H Q ⟨W,env,d,env',ok,q,k⟩=>by
  unfold fRep at q
  cases e1:F env with
  | none=>rw [e1] at q; cases q
  | some r =>
    obtain ⟨ds,env1⟩:=r
    rw [e1,Option.bind_some] at q
    dsimp only at q
    cases e2:g env1 with
    | none=>rw [e2] at q; cases q
    | some r2 =>
      obtain ⟨d2,env2⟩:=r2
      rw [e2,Option.bind_some] at q
      dsimp only at q
      split at q
      case h_2=>cases q
      rename_i kk
      split at q
      case isFalse=>cases q
      rename_i hc
      obtain ⟨hf,hk1,hk2⟩:=hc
      cases q
      refine ⟨W,env,_,_,ok,e1,fun W1 l vs H1 s1 ok1 ok1' nW hl rr=>⟨W1,env1,_,_,ok1,e2,fun W2 v2 H2 s2 ok2 p2=>?_⟩⟩
      have s1':Step W H W1 H1:=⟨s1.keep,fun a h=>s1.ws a (.inl h)⟩
      have rr1:Reps X.K H1 (Ow G W1) ds vs:=rr.mono (fun _ _ h=>h) fun a us o h=>⟨⟨o.1,fun z=>o.2 (.inl z)⟩,h⟩
      have rr2:=ok1.reps s2 rr1
      have hl2:H2 l=some (.lst vs):=s2.keep l _ hl nW
      cases p2
      refine ⟨l,kk,vs,rfl,rfl,hl2,by omega,by omega,?_,fun n hn=>?_⟩
      · rw [← rr.length]; exact Nat.le_trans hf (by rw [sizeLine_eq]; decide)
      · obtain ⟨h1,h2,h3,h4,h5,h6⟩:=laid_D ok2 (Reps.rep rr2 kk.toNat) hn
        exact k W2 n _ _ ((s1'.trans s2).trans h1) h2 h3 h4 h5 h6
end
end L2
end
set_option Elab.async false
set_option linter.all false
set_option maxRecDepth 100000
set_option maxHeartbeats 4000000
noncomputable section
namespace L2
open PySem PySem.Spec PyProof.Rows
section
variable {X:Cx} {G:Addr→Prop} {H0:Hp} {a b c e:Expr} {es:List Expr} {f g:FE} {F:FA} {f2:FA2} {u:FS} {pos p' p1 pos1:Pos} {x:Str} {i:Nat}
variable {CX:CXT} {k:Nat} {fa:Addr} {fd:FuncData} {ps:List Str} {mF2:List D→Option (List (List D))} {E:XK}
end
section
variable {P:Program} {w:World} {K:PySem.W.Frag} {mg:Str→Option Value} {base:Heap}
end
end L2
end
set_option Elab.async false
set_option linter.all false
set_option maxRecDepth 100000
set_option maxHeartbeats 4000000
noncomputable section
namespace L2
open PySem PySem.Spec PyProof.Rows
section
variable {X:Cx} {pins:List (Addr × Obj)} {σ:St} {H:Hp} {s:Shared} {h2:Heap}
theorem Inv.tupled {tk:Nat} {wr:List Addr} {T:Addr} {vs:List V} {us:Array Value} (I:Inv X pins σ H s) (hf:∀ b∈wr,FpOk X pins H b) (hT:s.heap.objs.size≤T) (hw:T ∉ wr)
    (k:∀ b o,b ∉ wr→s.heap.get? b=some o→h2.get? b=some o) (ht:h2.IsTuple T us) (hv:Vals vs us.toList) (hz:vs.length≤sizeLine) :
    Inv X pins σ (upd H T (.tup vs)) { s with heap:=h2,toks:=tk }:=by
  have hn:H T=none:=I.hok.fresh hT
  have nwr:∀ b u,H b=some u→b ∉ wr:=fun b u e z=>by rw [(hf b z).1] at e; cases e
  have neT:∀ b o,s.heap.get? b=some o→b ≠ T:=fun b o e=>Nat.ne_of_lt (Nat.lt_of_lt_of_le (Heap.lt_size e) hT)
  refine I.step (g':=s.gens) (d':=s.drawn) (ch:=wr) (fun b hb=>⟨(hf b hb).2.2.2.1,(hf b hb).2.1,(hf b hb).2.2.2.2.1,(hf b hb).2.2.2.2.2⟩) (fun b o _ _ hc e _=>k b o hc e) (fun b o _ _ hc e _=>⟨o.slots,k b o hc e⟩)
    (fun b o _ e n=>by rw [upd_ne (neT b o e)]; exact n) (fun b o hc e=>⟨o,k b o hc e⟩) (fun b xs e=>by rw [upd_ne (ne_of_none e hn)]; exact e) (fun b o u e=>by rw [upd_ne (ne_of_none e hn)]; exact e)
    (fun b ps e=>⟨#[],by rw [upd_ne (ne_of_none e hn),e]; simp⟩) (fun m hm=>?_) (fun b u e=>?_) I.bare
  · obtain ⟨o,es,ep,ho,r⟩:=hm
    exact ⟨o,es,ep,k _ o (fun z=>(hf _ z).2.1 rfl) ho,r⟩
  · by_cases hb:b=T
    · subst hb
      rw [upd_same] at e; cases e
      exact ⟨hz,us.toList,hv,by rw [Array.toArray_toList]; exact ht⟩
    · rw [upd_ne hb] at e
      refine (I.hok b u e).stay (fun c v hc q=>k c v ?_ q) (fun c q=>by rw [upd_ne (ne_of_none q hn)]; exact q) fun c xs q=>by rw [upd_ne (ne_of_none q hn)]; exact q
      rcases hc with z | z
      · rw [z]; exact nwr b u e
      · exact nwr c _ z
theorem Inv.turnedL {tk:Nat} {wr:List Addr} (I:Inv X pins σ H s) (hf:∀ b∈wr,FpOk X pins H b) (k:∀ b o,b ∉ wr→s.heap.get? b=some o→h2.get? b=some o) :
    Inv X pins σ H { s with heap:=h2,toks:=tk }:=by
  have nwr:∀ b u,H b=some u→b ∉ wr:=fun b u e z=>by rw [(hf b z).1] at e; cases e
  refine I.step (g':=s.gens) (d':=s.drawn) (ch:=wr) (fun b hb=>⟨(hf b hb).2.2.2.1,(hf b hb).2.1,(hf b hb).2.2.2.2.1,(hf b hb).2.2.2.2.2⟩) (fun b o _ _ hc e _=>k b o hc e) (fun b o _ _ hc e _=>⟨o.slots,k b o hc e⟩)
    (fun _ _ _ _ n=>n) (fun b o hc e=>⟨o,k b o hc e⟩) (fun _ _ e=>e) (fun _ _ _ e=>e) (fun b ps e=>⟨#[],by rw [e]; simp⟩) (fun m hm=>?_) (fun b u e=>?_) I.bare
  · obtain ⟨o,es,ep,ho,r⟩:=hm
    exact ⟨o,es,ep,k _ o (fun z=>(hf _ z).2.1 rfl) ho,r⟩
  · refine (I.hok b u e).stay (fun c v hc q=>k c v ?_ q) (fun _ q=>q) fun _ _ q=>q
    rcases hc with z | z
    · rw [z]; exact nwr b u e
    · exact nwr c _ z
end
def Itp (go:Nat→Hp→Prop) (pr:Nat→Hp→List V→Prop) (stop:Nat→Hp→Prop):It :=
  ⟨go,fun i H x H'=>∃ t vs,H t=none∧x=.ref t∧H'=upd H t (.tup vs)∧pr i H vs,stop⟩
theorem turn_T {P:Program} {w:World} {K:PySem.W.Frag} {es:List Expr} {k:Nat} {pos:Pos} {it:Addr} {fp:List Addr} {tn:Nat→Heap→Prop} {go:Nat→Hp→Prop} {pr:Nat→Hp→List V→Prop} {stop:Nat→Hp→Prop}
    (mem:it∈fp) (obj:∀ i h,tn i h→∀ b∈fp,∃ o,h.get? b=some o∧∀ v,o.data ≠ .cell v)
    (keep:∀ i h h',tn i h→(∀ b∈fp,∀ o,h.get? b=some o→h'.get? b=some o)→tn i h')
    (mk:∀ (X:Cx),X.prog=P→X.w=w→X.K=K→X.A.handled=none→∀ (i:Nat) (pins:List (Addr × Obj)) (s:Shared) (σ:St) (H:Hp),Inv X pins σ H s→(∀ b∈fp,FpOk X pins H b)→tn i s.heap→(go i H∨stop i H) →
      ∃ fp2 wr n Pt St Mid j,WalksT P w X.A it fp2 wr n Pt St Mid∧St j s.heap∧(∀ b∈wr,b∈fp)∧(∀ h,St (j + 1) h→tn (i + 1) h)∧(go i H→j < n)∧(stop i H→j=n) ∧
        (go i H→∀ vals,Pt j vals→∃ vs,Vals vs vals.toList∧vs.length≤sizeLine∧pr i H vs))
    (self:∀ (A:Around) (i:Nat) (s:Shared) (Q:Value→Shared→Prop) (E:Value→Shared→Prop),tn i s.heap→Q (.ref it) s→wpAny (model P w) A (pyIter (.ref it)) Q E s) :
    Turn P w K (.Tuple es k pos) (Itp go pr stop) fp it tn where
  mem:=mem
  obj:=obj
  keep:=keep
  item:=by
    intro X hP hw hK hc i pins s σ H E I hf st hg
    obtain ⟨fp2,wr,n,Pt,St,Mid,j,W,s0,hwr,nxt,lt,_,rel⟩:=mk X hP hw hK (I.ok.hd hc) i pins s σ H I hf st (.inl hg)
    refine W.item j s _ _ (lt hg) s0 fun T vals h1 tk hp hT ht mid kk=>⟨_,rfl,?_⟩
    obtain ⟨vs,rv,rz,rp⟩:=rel hg vals hp
    have hTw:T ∉ wr:=W.apart j T h1 mid
    refine W.go es k pos j T _ _ _ mid fun h2 s2 kk2=>?_
    refine ⟨.ref T,upd H T (.tup vs),?_,rfl,⟨T,vs,I.hok.fresh hT,rfl,rfl,rp⟩,nxt h2 s2,fun b hb=>?_⟩
    · exact I.tupled (fun b hb=>hf b (hwr b hb)) hT hTw (fun b o hb e=>kk2 b o hb (kk b o hb e)) (ht.at fun o e=>kk2 T o hTw e) rv rz
    · obtain ⟨o,ho,_⟩:=obj i _ st b hb
      rw [upd_ne (Nat.ne_of_lt (Nat.lt_of_lt_of_le (Heap.lt_size ho) hT))]
      exact (hf b hb).1
  done:=by
    intro X hP hw hK hc i pins s σ H E I hf st hg
    obtain ⟨fp2,wr,n,Pt,St,Mid,j,W,s0,hwr,nxt,_,eq,_⟩:=mk X hP hw hK (I.ok.hd hc) i pins s σ H I hf st (.inr hg)
    cases eq hg
    exact W.done s _ _ s0 fun h1 tk kk=>⟨rfl,I.turnedL (fun b hb=>hf b (hwr b hb)) kk⟩
  self:=self
theorem list_draws {P:Program} {w:World} {A:Around} (hh:A.handled=none) {it l:Addr} (ne:l ≠ it) (c:Nat) (its:Array Value) :
    Draws P w A.in1 it [it,l] (c + its.size) (fun j x=>∃ i,j=c + i∧its[i]?=some x) (fun j h=>∃ i,j=c + i∧i≤its.size∧h.IsListIter it l i∧h.IsList l its) where
  live:=fun j h ⟨i,_,_,⟨o,e,_⟩,_⟩=>⟨o,e⟩
  frame:=fun j h h' ⟨i,e,hi,a,b⟩ k=>⟨i,e,hi,a.at fun o e=>k it (by simp) o e,b.at fun o e=>k l (by simp) o e⟩
  item:=fun j s Q E hj ⟨i,e,hi,a,b⟩ hQ=>by
    subst e
    have hi:i < its.size:=by omega
    refine wpAny_nextOf_list_item a b (x:=its[i]) (by simp [hi]) fun h' a' sb=>?_
    exact hQ _ h' s.toks ⟨i,rfl,by simp [hi]⟩ ⟨i + 1,by omega,hi,a',b.extBut sb.extBut ne⟩ sb
  done:=fun s Q E ⟨i,e,hi,a,b⟩ hE=>by
    have hi:i=its.size:=by omega
    subst hi
    exact wpAny_nextOf_list_end hh a b (by simp) hE
def Ite (K:PySem.W.Frag) (a:Addr) (c:Nat):It :=
  Itp (fun i H=>∃ xs x,SqL K H a xs∧xs[i]?=some x) (fun i H vs=>∃ y,vs=[.int (c + i:Nat),y]∧∀ xs,SqL K H a xs→xs[i]?=some y) (fun i H=>∃ xs,SqL K H a xs∧xs.length=i)
theorem turn_enum {P:Program} {w:World} {K:PySem.W.Frag} {es:List Expr} {k:Nat} {pos:Pos} (a it e:Addr) (c:Nat) (ne:e ≠ it) :
    Turn P w K (.Tuple es k pos) (Ite K a c) [e,it] e (fun i h=>(∃ old,IsEnum h e it (c + i:Nat) old)∧h.IsListIter it a i):=by
  refine turn_T (by simp) (fun i h st b hb=>?_) (fun i h h' st kk=>?_) ?_ fun A i s Q E st hQ=>?_
  · obtain ⟨⟨old,he⟩,o,ho,_,hd⟩:=st
    rcases List.mem_cons.mp hb with z | z
    · subst z
      exact ⟨_,he,fun v z=>by cases (show Data.fields _=Data.cell v from z)⟩
    · cases List.mem_singleton.mp z
      exact ⟨o,ho,fun v z=>by rw [hd] at z; cases z⟩
  · exact ⟨st.1.imp fun old he=>kk e (by simp) _ he,st.2.at fun o x=>kk it (by simp) o x⟩
  · intro X hP hw hK hh i pins s σ H I hf st hg
    subst hP hw hK
    obtain ⟨⟨old,he⟩,hit⟩:=st
    have hq:∃ xs,SqL X.K H a xs∧i≤xs.length:=by
      rcases hg with ⟨xs,x,q,hx⟩ | ⟨xs,q,hx⟩
      · exact ⟨xs,q,Nat.le_of_lt (List.getElem?_eq_some_iff.mp hx).1⟩
      · exact ⟨xs,q,Nat.le_of_eq hx.symm⟩
    obtain ⟨xs,q,hle⟩:=hq
    obtain ⟨its,rv,p,hz⟩:=I.list q
    have hl:=rv.length
    obtain ⟨ol,hol,hcl,_⟩:=id p.isList
    obtain ⟨oi,hoi,hci,_⟩:=id hit
    have ne1:a ≠ it:=fun z=>by
      subst z
      rw [hol] at hoi; cases hoi
      rw [hcl] at hci; exact absurd hci (by decide)
    have ne2:e ≠ a:=fun z=>by
      subst z
      rw [he] at hol; cases hol
      exact absurd (show Value.type "enumerate" = Value.type "list" from hcl) (by decide)
    have D:=list_draws (P:=X.prog) (w:=X.w) hh ne1 c its.toArray
    refine ⟨_,_,_,_,_,_,c + i,WalksT.enumerateD D e ne (by simp [ne,ne2]) (by simp),⟨⟨old,he⟩,i,rfl,by simpa [← hl] using hle,hit,p.isList⟩,fun b hb=>hb,fun h st=>?_,fun hg=>?_,fun hs=>?_,fun hg vals hv=>?_⟩
    · obtain ⟨⟨old',he'⟩,i',e',_,hit',_⟩:=st
      have:i'=i + 1:=by omega
      subst this
      exact ⟨⟨old',he'⟩,hit'⟩
    · obtain ⟨ys,y,q',hy⟩:=hg
      rw [I.list_inj q' q] at hy
      have:=(List.getElem?_eq_some_iff.mp hy).1
      simp
      omega
    · obtain ⟨ys,q',hy⟩:=hs
      rw [I.list_inj q' q] at hy
      simp
      omega
    · obtain ⟨t,x,⟨i',e',hx⟩,rfl⟩:=hv
      have:i'=i:=by omega
      subst this
      obtain ⟨ys,y,q',hy⟩:=hg
      rw [I.list_inj q' q] at hy
      obtain ⟨u,hu,ru⟩:=rv.get hy
      have:u=x:=by
        have hx':its[i']?=some x:=by simpa using hx
        rw [hu] at hx'; cases hx'; rfl
      subst this
      exact ⟨[.int (c + i':Nat),y],.cons ⟨t,rfl⟩ (.cons ru .nil),by show 2≤sizeLine; rw [sizeLine_eq]; decide,y,rfl,fun zs hq=>by rw [I.list_inj hq q]; exact hy⟩
  · obtain ⟨⟨old,he⟩,_⟩:=st
    exact wpAny_pyIter_enum he hQ
structure ZNe (z ti to i1 i2:Addr):Prop where
  a1:ti ≠ z
  a2:to ≠ z
  a3:i1 ≠ z
  a4:i2 ≠ z
  a5:ti ≠ to
  a6:ti ≠ i1
  a7:ti ≠ i2
  a8:to ≠ i1
  a9:to ≠ i2
  aA:i1 ≠ i2
end L2
end
set_option Elab.async false
set_option linter.all false
set_option maxRecDepth 100000
set_option maxHeartbeats 4000000
noncomputable section
namespace L2
open PySem PySem.Spec PyProof.Rows
section
variable {prog:Program} {w:World} {A:Around} {E:Value→Shared→Prop} {s:Shared}
abbrev enH (h:Heap) (l:Addr):Heap:=h.push { cls:=.type "list_iterator",data:=.fields #[.ref l,.int 0 0] }
abbrev enHs (h:Heap) (l:Addr):Heap:=(enH h l).push { cls:=.type "enumerate",data:=.fields #[.none,.bool false,.ref h.objs.size,rawInt 1,.none,.none] }
theorem enumS_call (v:Value) (t:Tok):checkTypeCall "enumerate" ⟨[v],[("start",.int 1 t)]⟩=pure ():=by kernel_rfl
theorem enumS_new (v:Value) (t:Tok):checkBuiltinCall "enumerate.__new__" ⟨[.type "enumerate",v],[("start",.int 1 t)]⟩=pure ():=by kernel_rfl
theorem meets_enS (l:Addr) (items:Array Value) (n:Nat) (dct:Option Addr) (sl:Array (Option Value)) (t:Tok) :
    Meets (Builtin.«enumerate.__new__» ⟨[.type "enumerate",.ref l],[("start",.int 1 t)]⟩) (fun _ R s=>s.heap.get? l=some ⟨.type "list",dct,.seq items n,sl⟩∧R (.ok (.ret (.ref (enH s.heap l).objs.size))) { s with heap:=enHs s.heap l }) :=
  .of_wp fun prog w A R s h=>by
    obtain ⟨hp,g,d,tk,os⟩:=s; obtain ⟨hl,h⟩:=h
    have hsub:=sub_enumerate
    have hL:Heap.IsList (Shared.heap ⟨hp,g,d,tk,os⟩) l items:=⟨_,hl,rfl,n,rfl⟩
    wp_walk using AutoSeq1.wpAny_loadPart' hl
    refine wpAny_stack_any fun st=>wpAny_pure ?_
    split
    · rename_i c _ _ _ _ _
      cases (c==Value.type "enumerate") <;> (refine wpAny_bind (wpAny_of_eq (a:=(Value.ref l,some (Value.int 1 t))) (by rfl) ?_); wp_walk using AutoSeq1.wpAny_loadPart' hl,wpAny_pyIter_list hL; exact ⟨_,rfl,h⟩)
    · refine wpAny_bind (wpAny_of_eq (a:=(Value.ref l,some (Value.int 1 t))) (by rfl) ?_); wp_walk using AutoSeq1.wpAny_loadPart' hl,wpAny_pyIter_list hL; exact ⟨_,rfl,h⟩
theorem init_enS {v x:Value} {t:Tok}:Meets (Builtin.«object.__init__» ⟨[v,x],[("start",.int 1 t)]⟩) (fun _ R s=>s.TypeIs v "enumerate"∧R (.ok (.ret .none)) s) :=
  .of_wp fun prog w A R s ⟨hT,h⟩=>by
    have hm:=F.called_enumerate.made; have hl:=F.called_enumerate.init.lookup
    repeat (any_goals (first | assumption | wp_step))
    exact ⟨_,rfl,h⟩
theorem args_enS (a b:Value) (t:Tok):argsOk "object.__init__" ⟨[a,b],[("start",.int 1 t)]⟩:=by
  unfold argsOk; rw [signature?_of (id:="object.__init__") (n:=['_','_','t','i','n','i','_','_']) (o:=['t','c','e','j','b','o']) (by kernel_rfl) F.owner_object]; kernel_rfl
theorem call_enS {l:Addr} {items:Array Value} {t:Tok} {Q:Value→Shared→Prop} (hL:s.heap.IsList l items)
    (h:Q (.ref (enH s.heap l).objs.size) { s with heap:=enHs s.heap l }):wpAny (model prog w) A (call (.type "enumerate") [.ref l] [("start",.int 1 t)]) Q E s:=by
  obtain ⟨⟨c,dct,dt,sl⟩,hl,hc,n,hd⟩:=hL
  replace hc:c=.type "list":=hc; replace hd:dt=.seq items n:=hd; subst hc hd
  obtain ⟨c,tl,hmro⟩:=F.called_enumerate.mro
  have hmade:=F.called_enumerate.made; have hsub:=F.called_enumerate.sub; have hct:=enumS_call (.ref l) t
  have h1:=F.called_enumerate.notType; have h2:=F.called_enumerate.canCreate
  refine wpAny_call (codeAny_of_tree (show wpAny _ _ (callAny (.type "enumerate") _) _ _ _ from wpAny_pure ⟨Code.quiet_builtin _ (by decide +kernel),codeAny_builtin F.entry_type_call ?_⟩))
  rw [Around.under_plain (weight_type_call_type "enumerate" [.ref l] [("start",.int 1 t)]) (units_type_call_type "enumerate" [.ref l] [("start",.int 1 t)])]
  repeat (any_goals (first | assumption | wp_step))
  refine codeAny_mono (codeAny_call_builtin (R:=fun r s1=>r=.ok (.ret (.ref (enH s.heap l).objs.size))∧s1={ s with heap:=enHs s.heap l }) F.called_enumerate.plain F.entry_enumerate_new (wpAny_of_eq (enumS_new _ t) (meets_enS l items n dct sl t prog w A.in1 (fun r s1=>r=.ok (.ret (.ref (enH s.heap l).objs.size))∧s1={ s with heap:=enHs s.heap l }) s ⟨hl,rfl,rfl⟩))) fun r s1 hr=>?_
  obtain ⟨rfl,rfl⟩:=hr
  have hT:Shared.TypeIs { s with heap:=enHs s.heap l } (.ref (enH s.heap l).objs.size) "enumerate":=⟨_,Heap.get?_push_size _ rfl,rfl⟩
  have hli:=F.called_enumerate.init.lookup; have hbi:=F.called_enumerate.init.bind (.ref (enH s.heap l).objs.size)
  repeat (any_goals (first | assumption | wp_step))
  refine codeAny_mono (codeAny_call_builtin (R:=fun r s2=>r=.ok (.ret .none)∧s2={ s with heap:=enHs s.heap l }) F.called_enumerate.init.plain F.entry_object_init (F.called_enumerate.init.check _ _ _ _ _ _ _ _ hT (args_enS _ _ t) (init_enS prog w A.in1 (fun r s2=>r=.ok (.ret .none)∧s2={ s with heap:=enHs s.heap l }) _ ⟨hT,rfl,rfl⟩))) fun r2 s2 hr2=>?_
  obtain ⟨rfl,rfl⟩:=hr2
  repeat (any_goals (first | assumption | wp_step))
end
end L2
end
set_option Elab.async false
set_option linter.all false
set_option maxRecDepth 100000
set_option maxHeartbeats 4000000
noncomputable section
namespace L2
open PySem PySem.Spec PyProof.Rows
section
variable {X:Cx} {a b:Expr} {es:List Expr} {k:Nat} {p p1 p2 kp pos:Pos} {ta:TA} {j:Nat}
theorem mem2 {n c:Nat} (h:c∈[n + 1,n]):n≤c:=by simp at h; omega
theorem boot_enum:bootBuiltins "enumerate" = some (.type "enumerate"):=by decide +kernel
def iEnum (K:PySem.W.Frag) (c:Nat) (ta:TA):TI:=fun σ H R=>ta σ H fun vs H1=>∃ l xs,vs=[.ref l]∧SqL K H1 l xs∧R (Ite K l c) H1
theorem pi_enumS (hg:Gl X "enumerate") (hm:X.mg "enumerate" = none) (ha:PA X [a] ta) (hs:starEach [a] X.env=(false,eval a X.env)::starEach [] X.env:=by rfl) (hpl:(backTo pos (starEach [a] X.env)).any (·.1)=false:=by rfl) :
    PI X (.Tuple es k p1) (.Call (.Name "enumerate" p) [a] [⟨some "start",.Constant (.int 1) j p2,kp⟩] pos) (iEnum X.K 1 ta):=by
  intro pins s σ H R I h
  refine wpAny_Call_Name_kw (ld_blt I hg hm boot_enum ?_)
  refine PySem.W.callWith_of (P:=fun _=>True) (by rw [hpl]; rfl) (fun _ _=>⟨Keeper.machine,.inr (.inl rfl),PySem.W.Looks.of_pure rfl⟩) (evalArgs_kw2 rfl (thn (ha pos pins s σ H _ I h) fun us s1 ⟨vs,H1,I1,r1,q1⟩=>?_) hs)
  refine thn (pk_cons (nm:=some "start") (kpos:=kp) (pe_int (i:=1) (j:=j) (pos:=p2)) pk_nil pos pins s1 σ H1 (fun ws H2=>H2=H1∧ws=[.int 1]) I1 ⟨rfl,rfl⟩) fun ws s2 ⟨zs,H2,I2,rz,ez,e2⟩=>⟨trivial,?_⟩
  subst ez e2
  obtain ⟨l,xs,e,hq,q⟩:=q1
  subst e
  cases r1 with
  | cons r rr =>
    cases rr
    cases r
    cases rz with
    | cons r' rr' =>
    cases rr'
    obtain ⟨t,rfl⟩:=r'
    obtain ⟨its,rv,pl,hz⟩:=I2.list hq
    refine call_enS (t:=t) pl.isList ?_
    have he:IsEnum (enHs s2.heap l) (enH s2.heap l).objs.size s2.heap.objs.size 1 .none:=Heap.get?_push_size _ rfl
    have hz1:(enH s2.heap l).objs.size=s2.heap.objs.size + 1:=Heap.size_push ..
    refine wpAny_pyIter_enum he ?_
    refine ⟨(enH s2.heap l).objs.size,[(enH s2.heap l).objs.size,s2.heap.objs.size],_,_,H2,rfl,I2.kept (t':=s2.toks) (fun c o e=>Heap.get?_push_of_some _ (Heap.get?_push_of_some _ e)),turn_enum l _ _ 1 (by rw [hz1]; exact Nat.succ_ne_self _),⟨⟨.none,he⟩,⟨_,Heap.get?_push_of_some _ (Heap.get?_push_size _ rfl),rfl,rfl⟩⟩,fun c hc=>?_,q⟩
    have hc:s2.heap.objs.size≤c:=by rw [hz1] at hc; exact mem2 hc
    exact I2.fpOk hc (I2.hok.fresh hc)
end
structure Walk2 (K:PySem.W.Frag) (G:Addr→Prop) (J:It) (W:Addr→Prop) (H:Hp) (ds:List D):Prop where
  go:∀ W' H' (i:Nat) d,Step W H W' H'→ds[i]?=some d→J.go i H'∧∀ x H'',J.yld i H' x H''→Same H' H''∧Rep K H'' (Ow G W') d x
  stop:∀ W' H',Step W H W' H'→J.stop ds.length H'
def tDJ (K:PySem.W.Frag) (G:Addr→Prop) (H0:Hp) (f:FI):TI:=fun σ H R=>∃ W env ds env',Ok K G H0 W env σ H∧f env=some (ds,env') ∧
  ∀ W' J H',Step W H W' H'→Ok K G H0 W' env' σ H'→Walk2 K G J W' H' ds→R J H'
def DJx (X:Cx) (G:Addr→Prop) (H0:Hp) (tg:Expr) (e:Expr) (f:FI):Prop:=PI X tg e (tDJ X.K G H0 f)
def enumD:Nat→List D→List D
  | _,[]=>[]
  | c,d::r=>.tup [.int c,d]::enumD (c + 1) r
def zipD:List D→List D→List D
  | d::r,d'::r'=>.tup [d,d']::zipD r r'
  | _,_=>[]
theorem enumD_get:∀ (ds:List D) (c i:Nat),(enumD c ds)[i]?=ds[i]?.map fun d=>.tup [.int (c + i:Nat),d]
  | [],c,i=>by simp [enumD]
  | d::r,c,0=>by simp [enumD]
  | d::r,c,i + 1=>by
    simp only [enumD,List.getElem?_cons_succ]
    rw [enumD_get r (c + 1) i]
    congr 1
    funext d
    rw [show c + 1 + i=c + (i + 1) by omega]
theorem enumD_len:∀ (ds:List D) (c:Nat),(enumD c ds).length=ds.length
  | [],_=>rfl
  | d::r,c=>by simp [enumD,enumD_len r]
@[simp] def iEn (c:Nat) (ds:List D):Option (List D):=match ds with | [.lst ds]=>some (enumD c ds) | _=>none
@[simp] def iZp (ds:List D):Option (List D):=match ds with | [.lst ds,.lst es]=>some (zipD ds es) | _=>none
section
variable {X:Cx} {G:Addr→Prop} {H0:Hp} {a b:Expr} {es:List Expr} {k:Nat} {F:FA} {p p1 p2 kp pos:Pos} {j:Nat} {u:FS} {ix:List Nat}
theorem rep_new {K:PySem.W.Frag} {W':Addr→Prop} {H':Hp} {ds:List D} {vs:List V} {t:Addr} (r:Reps K H' (Ow G W') ds vs) (hn:H' t=none):Rep K (upd H' t (.tup vs)) (Ow G W') (.tup ds) (.ref t):=by
  refine .tup (upd_same ..) (r.mono (fun a us e=>by rw [upd_ne (ne_of_none e hn)]; exact e) fun a us o h=>⟨o,?_⟩)
  exact h.keep fun o e=>by rw [upd_ne (ne_of_none e hn)]; exact e
theorem walk_enum {W:Addr→Prop} {H:Hp} {l:Addr} {vs:List V} {ds:List D} {env:DE0} {σ:St} (c:Nat) (ok:Ok X.K G H0 W env σ H) (h:LsOk X.K H (Ow G W) l vs) (r:Reps X.K H (Ow G W) ds vs):Walk2 X.K G (Ite X.K l c) W H (enumD c ds) where
  go:=fun W' H' i d st e=>by
    rw [enumD_get] at e
    cases e0:ds[i]? with
    | none=>rw [e0] at e; cases e
    | some d0 =>
      rw [e0] at e
      cases e
      obtain ⟨v,e1,r1⟩:=(ok.reps st r).get e0
      have h':=(ok.lsstep st h).sq
      refine ⟨⟨vs,v,h',e1⟩,fun x H'' ⟨t,us,hn,ex,eH,y,eu,hy⟩=>?_⟩
      subst ex eH eu
      have:=hy vs h'
      rw [e1] at this
      cases this
      exact ⟨same_upd hn,rep_new (.cons (.int _) (.cons r1 .nil)) hn⟩
  stop:=fun W' H' st=>⟨vs,(ok.lsstep st h).sq,by rw [enumD_len,r.length]⟩
theorem dj_enum0 {c:Nat} {e:Expr} {tg:Expr} (hp:PI X tg e (iEnum X.K c (tDA X.K G H0 F))):DJx X G H0 tg e (fCallF (iEn c) F):=hp.imp fun σ H R ⟨W,env,ds,env',ok,q,k⟩=>by
  cases e1:F env with
  | none=>simp [fCallF,e1] at q
  | some z =>
    obtain ⟨as,env1⟩:=z
    cases e2:iEn c as with
    | none=>rw [fCallF,e1] at q; simp only [Option.bind_some,e2] at q; cases q
    | some d' =>
      have q:some (d',env1)=some (ds,env'):=by rw [fCallF,e1] at q; simp only [Option.bind_some,e2] at q; exact q
      cases q
      refine ⟨W,env,as,_,ok,e1,fun W1 vs H1 s1 ok1 p1=>?_⟩
      unfold iEn at e2
      split at e2
      · rename_i xs
        cases e2
        obtain ⟨v,rfl,r1⟩:=reps1 p1
        obtain ⟨l,us,rfl,h,r⟩:=r1.lst_
        exact ⟨l,us,rfl,h.sq,k W1 _ H1 s1 ok1 (walk_enum c ok1 h r)⟩
      · cases e2
theorem dj_enumS (hg:Gl X "enumerate") (hm:X.mg "enumerate" = none) (ha:DAx X G H0 [a] F) (hs:starEach [a] X.env=(false,eval a X.env)::starEach [] X.env:=by rfl) (hpl:(backTo pos (starEach [a] X.env)).any (·.1)=false:=by rfl) :
    DJx X G H0 (.Tuple es k p1) (.Call (.Name "enumerate" p) [a] [⟨some "start",.Constant (.int 1) j p2,kp⟩] pos) (fCallF (iEn 1) F):=dj_enum0 (pi_enumS hg hm ha hs hpl)
theorem ds_forP {k:Nat} {body:List Stmt} {fi:FI} (hp:PassesOwn (model X.prog X.w) X.A X.env X.xe) (hc:X.calm=true) (hi:DJx X G H0 (.Tuple es k p1) a fi) (h:PGs X es (gIs ix)) (hb:DBx X G H0 body u)
    (hn:(assignEach es X.env).length=ix.length:=by rfl) (hst:(assignEach es X.env).findIdx? (·.1)=none:=by rfl)
    (hs:∀ x,foldedSetIterable a X.env x=pure x:=by intro _; rfl):DSx X G H0 (.For (.Tuple es k p1) a body [] pos) (sForU ix fi u):=(ps_for hp hc hi (pg_tup (n:=ix.length) hc h hn hst) hb hs).imp fun Dn σ H ⟨W,env,fl,env',ok,q,k⟩=>by
  cases e1:fi env with
  | none=>simp [sForU,e1] at q
  | some z =>
    obtain ⟨ds,env1⟩:=z
    have q:forU ix u ds env1=some (fl,env'):=by simpa [sForU,e1] using q
    refine ⟨W,env,ds,env1,ok,e1,fun W1 J H1 s1 ok1 wk=>?_⟩
    refine ⟨fun n m σ' H'=>∃ W' env2,m=ds.length - n∧n≤ds.length∧Step W1 H1 W' H'∧Ok X.K G H0 W' env2 σ' H'∧forU ix u (ds.drop n) env2=some (fl,env'),⟨ds.length,W1,env1,rfl,Nat.zero_le _,Step.refl,ok1,q⟩,?_⟩
    rintro n m σ' H' ⟨W',env2,rfl,hn,st,ok',ef⟩
    by_cases hlt:n < ds.length
    · have eq:ds.drop n=ds[n]::ds.drop (n + 1):=List.drop_eq_getElem_cons hlt
      rw [eq] at ef
      obtain ⟨hg,hy⟩:=wk.go W' H' n ds[n] st (by simp [hlt])
      unfold forU at ef
      cases e2:unp ix ds[n] env2 with
      | none=>rw [e2] at ef; cases ef
      | some env5 =>
      rw [e2,Option.bind_some] at ef
      cases e3:u env5 with
      | none=>rw [e3] at ef; cases ef
      | some r =>
        obtain ⟨fl3,env3⟩:=r
        rw [e3,Option.bind_some] at ef
        refine .inr ⟨hg,fun σ2 H2=>∃ W2 env4,Step W1 H1 W2 H2∧Ok X.K G H0 W2 env4 σ2 H2∧forU ix u (ds.drop (n + 1)) env4=some (fl,env'),fun σ2 H2 ⟨W2,env4,s2,ok2,e4⟩=>⟨ds.length - (n + 1),by omega,W2,env4,rfl,hlt,s2,ok2,e4⟩,fun x H'' y=>?_⟩
        obtain ⟨sm,rx⟩:=hy x H'' y
        have okn:=ok'.same sm
        have stn:Step W1 H1 W' H'':=st.trans (Step.same sm)
        generalize ds[n]=dn at rx e2
        unfold unp at e2
        split at e2
        case h_2=>cases e2
        rename_i dds
        split at e2
        case isFalse=>cases e2
        rename_i hl
        cases e2
        cases rx with
        | @tup a vs _ ht rr =>
        refine ⟨a,vs,rfl,.inl (.inl ht),by rw [← rr.length]; exact hl,gIs_ok ix dds vs _ σ' _ okn rr hl fun σ3 ok3=>?_⟩
        refine ⟨W',_,fl3,env3,ok3,e3,?_⟩
        cases fl3 with
        | nx=>exact fun W2 σ2 H2 s2 ok2=>⟨W2,env3,stn.trans s2,ok2,ef⟩
        | ct=>exact fun W2 σ2 H2 s2 ok2=>⟨W2,env3,stn.trans s2,ok2,ef⟩
        | bk =>
          cases ef
          exact fun W2 σ2 H2 s2 ok2=>k W2 σ2 H2 ((s1.trans stn).trans s2) ok2
        | rt d=>cases ef; exact k
        | rf d=>cases ef; exact k
        | r2 d=>cases ef; exact k
    · have e:n=ds.length:=by omega
      subst e
      rw [List.drop_length] at ef
      cases ef
      exact .inl ⟨wk.stop W' H' st,k W' σ' H' (s1.trans st) ok'⟩
end
end L2
end
set_option Elab.async false
set_option linter.all false
set_option maxRecDepth 100000
set_option maxHeartbeats 4000000
noncomputable section
namespace L2
open PySem PySem.Spec PyProof.Rows
section
variable {X:Cx} {G:Addr→Prop} {H0:Hp} {a b c e:Expr} {f g:FE} {F:FA} {pos p' p1 pos1:Pos} {x:Str} {i:Nat}
theorem fVar_int {env env0:DE0} {z:Int} (h:fVar i env=some (.int z,env0)):env[i]?=some (some (.sh (.int z)))∧env0=env:=by
  unfold fVar at h
  split at h
  · rename_i d hd
    cases h
    exact ⟨hd,rfl⟩
  all_goals cases h
theorem aug_D {op:D→D→Option D} {o:Int→Int→Int} (ho:∀ d1 d2 d,op d1 d2=some d→∃ u v,d1=.int u∧d2=.int v∧d=.int (o u v)):∀ Dn σ H,tDS X.K G H0 (sSet i (fBin op (fVar i) f)) Dn σ H→tAug i (tD X.K G H0 f) (ipI o) Dn σ H :=
  fun Dn σ H ⟨W,env,fl,env',ok,q,k⟩=>by
  unfold sSet fBin at q
  cases e0:fVar i env with
  | none=>rw [e0] at q; cases q
  | some r0 =>
    obtain ⟨d0,env0⟩:=r0
    rw [e0,Option.bind_some] at q
    dsimp only at q
    cases e1:f env0 with
    | none=>rw [e1] at q; cases q
    | some r1 =>
      obtain ⟨d1,env1⟩:=r1
      rw [e1,Option.bind_some] at q
      dsimp only at q
      cases e2:op d0 d1 with
      | none=>rw [e2] at q; cases q
      | some d2 =>
        rw [e2] at q
        cases q
        obtain ⟨u,v,rfl,rfl,rfl⟩:=ho _ _ _ e2
        obtain ⟨h0,rfl⟩:=fVar_int e0
        obtain ⟨y,hy,ry⟩:=ok.slot i _ h0
        refine ⟨y,hy,W,env0,_,_,ok,e1,fun W1 v1 H1 s1 ok1 r1=>⟨u,v,Rep.int_ ry,r1.int_,k W1 _ H1 s1 (ok1.set (.int _))⟩⟩
theorem ds_augA (hN:X.N.Nodup) (hi:X.N[i]?=some x) (hx:Loc X.env.scope x) (he:DEx X G H0 e f) (hf:X.fn x=true∨X.env.scope.names.lookup x=some .local:=by first | exact .inl rfl | exact .inr rfl | assumption) :
    DSx X G H0 (.AugAssign (.Name x p') .Add e pos) (sSet i (fBin dAddI (fVar i) f)):=(ps_aug hN hi hx he ip_add hf).imp (aug_D fun d1 d2 d h=>by
  cases d1 <;> cases d2 <;> simp [dAddI] at h
  exact ⟨_,_,rfl,rfl,h.symm⟩)
def rGetL:V→V→Hp→VK→Prop:=fun o i H Q=>∃ l xs k v,o=.ref l∧i=.int k∧H l=some (.lst xs)∧0≤k∧xs[k.toNat]?=some v∧Q v H
theorem get_list:PGet X rGetL:=by
  intro pins s σ H o i ov iv Q I ro ri h
  obtain ⟨l,xs,k,v,rfl,rfl,hl,h0,hv,q⟩:=h
  cases ro
  obtain ⟨t,rfl⟩:=ri
  obtain ⟨its,r,pl,hz⟩:=I.list (.inl (.inl hl))
  obtain ⟨w,ew,rw'⟩:=r.get hv
  have hk:=(List.getElem?_eq_some_iff.mp hv).1
  have hn:=line63
  exact wpAny_getItem_list pl.isList h0 (by omega) (by simpa using ew) ⟨v,H,I,rw',q⟩
def augSl (i:Nat) (op:D→D→Option D) (k:Int) (d v:D) (e:DE0):Option (Fl × DE0):=match e[i]? with
  | some (some (.ow ds))=>if k.toNat < ds.length then (op d v).map fun r=>(.nx,e.set i (some (.ow (ds.set k.toNat r)))) else none
  | _=>none
def sAugIt (i:Nat) (op:D→D→Option D) (fk fe:FE):FS:=fun e=>match e[i]? with
  | some (some (.ow _))=>(fk e).bind fun rk=>match rk.1,rk.2[i]? with
    | .int k,some (some (.ow ds))=>if 0≤k then (ds[k.toNat]?).bind fun d=>(fe rk.2).bind fun rv=>augSl i op k d rv.1 rv.2 else none
    | _,_=>none
  | _=>none
theorem augS_D {op:D→D→Option D} {o:Int→Int→Int} (ho:∀ d1 d2 d,op d1 d2=some d→∃ u v,d1=.int u∧d2=.int v∧d=.int (o u v)) :
    ∀ Dn σ H,tDS X.K G H0 (sAugIt i op g f) Dn σ H→tAugS (tVar i) (tD X.K G H0 g) (tD X.K G H0 f) rGetL (ipI o) rSetL Dn σ H:=fun Dn σ H ⟨W,env,fl,env',ok,q,k⟩=>by
  unfold sAugIt at q
  split at q
  case h_2=>cases q
  rename_i ds0 hq0
  obtain ⟨v,hv,l,vs0,rfl,hW0,hl0,_⟩:=ok.slot i _ hq0
  cases e1:g env with
  | none=>rw [e1] at q; cases q
  | some r1 =>
  obtain ⟨dk,env1⟩:=r1
  rw [e1,Option.bind_some] at q
  dsimp only at q
  split at q
  case h_2=>cases q
  rename_i kk ds hq
  split at q
  case isFalse=>cases q
  rename_i hk0
  cases e2:ds[kk.toNat]? with
  | none=>rw [e2] at q; cases q
  | some dd =>
  rw [e2,Option.bind_some] at q
  cases e3:f env1 with
  | none=>rw [e3] at q; cases q
  | some r3 =>
  obtain ⟨dv,env2⟩:=r3
  rw [e3,Option.bind_some] at q
  unfold augSl at q
  dsimp only at q
  split at q
  case h_2=>cases q
  rename_i ds2 hq2
  split at q
  case isFalse=>cases q
  rename_i hlt
  cases e4:op dd dv with
  | none=>rw [e4] at q; cases q
  | some dr =>
  rw [e4] at q
  cases q
  obtain ⟨u,w,rfl,rfl,rfl⟩:=ho _ _ _ e4
  refine ⟨_,hv,W,env,_,_,ok,e1,fun W1 v1 H1 s1 ok1 r1=>?_⟩
  obtain ⟨v',hv',l',vs1,e5,hW1,hl1,rr1⟩:=ok1.slot i _ hq
  rw [hv] at hv'; cases hv'; cases e5
  obtain ⟨x1,ex1,rx1⟩:=rr1.get e2
  refine ⟨l,vs1,kk,x1,rfl,r1.int_,hl1,hk0,ex1,W1,env1,_,_,ok1,e3,fun W2 v2 H2 s2 ok2 r2=>?_⟩
  refine ⟨u,w,rx1.int_,r2.int_,?_⟩
  obtain ⟨v',hv',l',vs2,e6,hW2,hl2,rr2⟩:=ok2.slot i _ hq2
  rw [hv] at hv'; cases hv'; cases e6
  obtain ⟨t1,t2⟩:=ok2.turn hq2 hv (Reps.set (.int (o u w)) kk.toNat rr2)
  have hl2':=rr2.length
  refine ⟨l,vs2,kk,kk.toNat,rfl,r1.int_,hl2,?_,k W2 _ _ ((s1.trans s2).trans t2) t1⟩
  rw [← hl2']
  unfold ixN
  rw [if_pos hk0,if_pos (by omega)]
theorem ds_augSA (i:Nat) (hk:DEx X G H0 b g) (he:DEx X G H0 e f) (hN:X.N[i]?=some x:=by rfl) (hv:Vis X.env.scope x:=by first | exact Or.inl rfl | exact Or.inr (Or.inl rfl) | exact Or.inr (Or.inr rfl)) (hd:(x==("__debug__" : Str))=false:=by decide)
    (hcd:(x==("__classdict__" : Str))=false:=by decide) (ha:∀ ov iv new,augStore b ov iv new=(do holding [new,ov,iv] (setItem ov iv new); release [new,ov,iv] []; pure .next):=by intros; rfl) :
    DSx X G H0 (.AugAssign (.Subscript (.Name x p') b p1) .Add e pos) (sAugIt i dAddI g f):=(ps_augS (pe_var hN hv hd hcd) hk get_list he ip_add set_list ha).imp (augS_D fun d1 d2 d h=>by
  cases d1 <;> cases d2 <;> simp [dAddI] at h
  exact ⟨_,_,rfl,rfl,h.symm⟩)
theorem ds_augSB (i:Nat) (hk:DEx X G H0 b g) (he:DEx X G H0 e f) (hN:X.N[i]?=some x:=by rfl) (hv:Vis X.env.scope x:=by first | exact Or.inl rfl | exact Or.inr (Or.inl rfl) | exact Or.inr (Or.inr rfl)) (hd:(x==("__debug__" : Str))=false:=by decide)
    (hcd:(x==("__classdict__" : Str))=false:=by decide) (ha:∀ ov iv new,augStore b ov iv new=(do holding [new,ov,iv] (setItem ov iv new); release [new,ov,iv] []; pure .next):=by intros; rfl) :
    DSx X G H0 (.AugAssign (.Subscript (.Name x p') b p1) .Sub e pos) (sAugIt i dSub g f):=(ps_augS (pe_var hN hv hd hcd) hk get_list he ip_sub set_list ha).imp (augS_D fun d1 d2 d h=>by
  cases d1 <;> cases d2 <;> simp [dSub] at h
  exact ⟨_,_,rfl,rfl,h.symm⟩)
def extSl (zs:List D) (e:DE0) (i:Nat):Option (D × DE0):=match e[i]? with
  | some (some (.ow ds))=>if Few (ds.length + zs.length) then some (.non,e.set i (some (.ow (ds++zs)))) else none
  | _=>none
def fExtend (i:Nat) (F:FA):FE:=fun e=>match e[i]? with
  | some (some (.ow _))=>(F e).bind fun r=>extSl r.1 r.2 i
  | _=>none
theorem de_extend (i:Nat) (ha:DFx X G H0 a F) (hN:X.N[i]?=some x:=by rfl) (hv:Vis X.env.scope x:=by first | exact Or.inl rfl | exact Or.inr (Or.inl rfl) | exact Or.inr (Or.inr rfl)) (hd:(x==("__debug__" : Str))=false:=by decide)
    (hcd:(x==("__classdict__" : Str))=false:=by decide) (hbase:attributeBase (.Name x p') "extend" X.env (eval (.Name x p') X.env)=eval (.Name x p') X.env:=by rfl)
    (hfew:((backTo pos (starEach [a] X.env)).all (fun x=>!x.1) && (backToKw pos (keywordEach [] X.env)).all (fun x=>x.1.isSome)
      && decide ([a].length + ([]:List Keyword).length + (if ([]:List Keyword).isEmpty then 0 else 1) < 30))=true:=by rfl)
    (hline:(p1.endLine==pos.line)=true:=by rfl) (hs:starEach [a] X.env=(false,eval a X.env)::starEach [] X.env:=by rfl) :
    DEx X G H0 (.Call (.Attribute (.Name x p') "extend" p1) [a] [] pos) (fExtend i F):=(pe_bm PySem.F.plainAttrs_list PySem.F.slot_list_extend PySem.F.type_list_extend mt_extend (pe_var hN hv hd hcd) (pa_cons ha pa_nil hs) hbase hfew hline hs rfl).imp fun σ H Q ⟨W,env,d,env',ok,q,k⟩=>by
  unfold fExtend at q
  split at q
  case h_2=>cases q
  rename_i ds0 hq0
  obtain ⟨v,hv,l,vs0,rfl,hW0,hl0,_⟩:=ok.slot i _ hq0
  cases e1:F env with
  | none=>rw [e1] at q; cases q
  | some r =>
    obtain ⟨da,env1⟩:=r
    rw [e1,Option.bind_some] at q
    unfold extSl at q
    dsimp only at q
    split at q
    case h_2=>cases q
    rename_i ds hq
    split at q
    case isFalse=>cases q
    rename_i hlen
    cases q
    refine ⟨_,hv,.inl ⟨rfl,_,.inl (.inl hl0)⟩,W,env,da,env1,ok,e1,fun W1 n us H1 s1 ok1 ok2 nW hn r1=>?_⟩
    obtain ⟨v',e2,l',vs,e3,hW,hl,r⟩:=ok2.slot i _ hq
    rw [hv] at e2; cases e2; cases e3
    obtain ⟨t1,t2⟩:=ok2.turn hq hv (r.append r1)
    refine ⟨l,n,vs,us,rfl,rfl,hl,hn,?_,k _ _ _ (s1.trans t2) t1 .non⟩
    rw [← r.length,← r1.length]
    exact Nat.le_trans hlen (by rw [sizeLine_eq]; decide)
end
end L2
end
set_option Elab.async false
set_option linter.all false
set_option maxRecDepth 100000
set_option maxHeartbeats 4000000
noncomputable section
namespace L2
open PySem PySem.Spec PyProof.Rows
def atomD:D→Bool | .tup _=>false | .lst _=>false | .dct _ _=>false | _=>true
theorem Rep.atom {K K':PySem.W.Frag} {H H':Hp} {O O':Addr→Prop} {d:D} {v:V} (r:Rep K H O d v) (h:atomD d=true):Rep K' H' O' d v:=by
  cases r with
  | non=>exact .non
  | bl b=>exact .bl b
  | int i=>exact .int i
  | str s=>exact .str s
  | tup _ _=>cases h
  | lst _ _ _=>cases h
  | klst _ _=>cases h
  | dct _ _=>cases h
structure WalkS (K:PySem.W.Frag) (G:Addr→Prop) (J:It) (W:Addr→Prop) (H:Hp) (ds:List D):Prop where
  go:∀ H' (i:Nat) d,Same H H'→ds[i]?=some d→J.go i H'∧∀ x H'',J.yld i H' x H''→H''=H'∧Rep K H' (Ow G W) d x
  stop:∀ H',Same H H'→J.stop ds.length H'
def tDC (K:PySem.W.Frag) (G:Addr→Prop) (H0:Hp) (f:FI):TI:=fun σ H R=>∃ W env ds env',Ok K G H0 W env σ H∧f env=some (ds,env') ∧
  ∀ W' J H',Step W H W' H'→Ok K G H0 W' env' σ H'→WalkS K G J W' H' ds→R J H'
def DCx (X:Cx) (G:Addr→Prop) (H0:Hp) (tg:Expr) (e:Expr) (f:FI):Prop:=PI X tg e (tDC X.K G H0 f)
def fiV (i:Nat):FI:=fun e=>match e[i]? with
  | some (some (.ow ds))=>some (ds,e)
  | some (some (.sh (.lst ds)))=>some (ds,e)
  | _=>none
section
variable {X:Cx} {G:Addr→Prop} {H0:Hp} {a b c e:Expr} {es:List Expr} {f g:FE} {F:FA} {u:FS} {pos p' p1 pos1:Pos} {x:Str} {i:Nat}
end
end L2
end
set_option Elab.async false
set_option linter.all false
set_option maxRecDepth 100000
set_option maxHeartbeats 4000000
noncomputable section
namespace L2
open PySem PySem.Spec PyProof.Rows
section
variable {X:Cx} {G:Addr→Prop} {H0:Hp} {a b c e:Expr} {es rest:List Expr} {f g:FE} {F:FA} {u:FS} {pos p' p1 pos1:Pos} {x:Str} {i:Nat}
def fSumV (i:Nat):FE:=fun e=>match e[i]? with
  | some (some (.ow ds))=>(ints? ds).map fun ns=>(.int ns.sum,e)
  | some (some (.sh (.lst ds)))=>(ints? ds).map fun ns=>(.int ns.sum,e)
  | _=>none
theorem de_sumV (i:Nat) (hc:X.calm=true) (hg:Gl X "sum") (hm:X.mg "sum" = none) (hN:X.N[i]?=some x:=by rfl) (hv:Vis X.env.scope x:=by first | exact Or.inl rfl | exact Or.inr (Or.inl rfl) | exact Or.inr (Or.inr rfl)) (hd:(x==("__debug__" : Str))=false:=by decide)
    (hcd:(x==("__classdict__" : Str))=false:=by decide) (he:starEach [.Name x p1] X.env=(false,eval (.Name x p1) X.env)::starEach [] X.env:=by rfl):DEx X G H0 (.Call (.Name "sum" p') [.Name x p1] [] pos) (fSumV i) :=
  (pe_callB (call_sumL hc) hg hm boot_sum (pa_cons (pe_var hN hv hd hcd) pa_nil he) (by decide) (by decide) he rfl).imp fun σ H Q ⟨W,env,d,env',ok,q,k⟩=>by
    unfold fSumV at q
    split at q
    · rename_i ds hq
      cases e2:ints? ds with
      | none=>rw [e2] at q; cases q
      | some ns =>
      rw [e2] at q
      cases q
      cases ints_map e2
      obtain ⟨v,e1,l,vs,rfl,hW,hl,r⟩:=ok.slot i _ hq
      cases reps_ints r
      exact ⟨_,e1,l,ns,rfl,.inl (.inl hl),k W _ H Step.refl ok (.int _)⟩
    · rename_i ds hq
      cases e2:ints? ds with
      | none=>rw [e2] at q; cases q
      | some ns =>
      rw [e2] at q
      cases q
      cases ints_map e2
      obtain ⟨v,e1,r⟩:=ok.slot i _ hq
      obtain ⟨l,us,rfl,h,r⟩:=Rep.lst_ r
      cases reps_ints r
      exact ⟨_,e1,l,ns,rfl,h.sq,k W _ H Step.refl ok (.int _)⟩
    · cases q
def tDL (K:PySem.W.Frag) (G:Addr→Prop) (H0:Hp) (f:FA):TA:=fun σ H Q=>∃ W env ds env',Ok K G H0 W env σ H∧f env=some (ds,env') ∧
  ∀ W' vs H',Step W H W' H'→Ok K G H0 W' env' σ H'→Reps K H' G ds vs→Q vs H'
def DLx (X:Cx) (G:Addr→Prop) (H0:Hp) (es:List Expr) (f:FA):Prop:=PA X es (tDL X.K G H0 f)
theorem dl_of (h:DAx X G H0 es F):DLx X G H0 es F:=h.imp fun σ H Q ⟨W,env,ds,env',ok,q,k⟩ =>
  ⟨W,env,ds,env',ok,q,fun W' vs H' st ok' r=>k W' vs H' st ok' (r.mono (fun _ _ h=>h) fun a us o h=>⟨o.1,h⟩)⟩
def fLend (i:Nat) (F:FA):FA:=fun e=>match e[i]? with
  | some (some (.ow _))=>(F e).bind fun q=>match q.2[i]? with | some (some (.ow ds))=>some (.lst ds::q.1,q.2) | _=>none
  | _=>none
theorem dl_lend (i:Nat) (hr:DLx X G H0 es F) (hN:X.N[i]?=some x:=by rfl) (hv:Vis X.env.scope x:=by first | exact Or.inl rfl | exact Or.inr (Or.inl rfl) | exact Or.inr (Or.inr rfl)) (hd:(x==("__debug__" : Str))=false:=by decide)
    (hcd:(x==("__classdict__" : Str))=false:=by decide) (hs:starEach (.Name x p1::es) X.env=(false,eval (.Name x p1) X.env)::starEach es X.env:=by rfl):DLx X G H0 (.Name x p1::es) (fLend i F) :=
  (pa_cons (pe_var hN hv hd hcd) hr hs).imp fun σ H Q ⟨W,env,ds,env',ok,q,k⟩=>by
    unfold fLend at q
    split at q
    case h_2=>cases q
    rename_i ds0 hq0
    obtain ⟨v,hv,l,vs0,rfl,hW0,hl0,_⟩:=ok.slot i _ hq0
    cases e1:F env with
    | none=>rw [e1] at q; cases q
    | some r =>
      obtain ⟨das,env1⟩:=r
      rw [e1,Option.bind_some] at q
      dsimp only at q
      split at q
      case h_2=>cases q
      rename_i ds1 hq1
      cases q
      refine ⟨_,hv,W,env,das,_,ok,e1,fun W1 vs H1 s1 ok1 r1=>?_⟩
      obtain ⟨v',e2,l',vs1,e3,hW,hl,rr⟩:=ok1.slot i _ hq1
      rw [hv] at e2; cases e2; cases e3
      exact k W1 _ H1 s1 ok1 (.cons (.lst (ok1.good l (ok1.wl l hW).1) (.inl hl) (rr.mono (fun _ _ h=>h) fun a us o h=>⟨o.1,h⟩)) r1)
def fCallA (m:List D→Option D) (F:FA):FE:=fun e=>(F e).bind fun r=>(m r.1).bind fun d=>if atomD d=true then some (d,r.2) else none
variable {CX:CXT} {k:Nat} {fa:Addr} {fd:FuncData} {ps:List Str} {m:List D→Option D} {E:XK}
theorem call_A:∀ σ H Q,tD X.K G H0 (fCallA m F) σ H Q→tCall (dSp X.K m) [] E (tDL X.K G H0 F) σ H Q:=fun σ H Q ⟨W,env,d,env',ok,q,k⟩=>by
  unfold fCallA at q
  cases e1:F env with
  | none=>rw [e1] at q; cases q
  | some r =>
    obtain ⟨ds,env1⟩:=r
    rw [e1,Option.bind_some] at q
    dsimp only at q
    cases e2:m ds with
    | none=>rw [e2] at q; cases q
    | some d' =>
      rw [e2,Option.bind_some] at q
      split at q
      case isFalse=>cases q
      rename_i hat
      cases q
      refine ⟨W,env,ds,_,ok,e1,fun W1 vs H1 s1 ok1 p1=>?_⟩
      show dSp X.K m (vs++[]) H1 Q E
      rw [List.append_nil]
      exact ⟨G,ds,_,p1,e2,fun v H2 sm r2=>k W1 v H2 (s1.trans (Step.same sm)) (ok1.same sm) (r2.atom hat)⟩
theorem de_callA (Fn:FnOk X.prog X.w X.K X.mg X.base CX k fa fd ps (dSp X.K m)) (hr:Room k X.A) (hg:Gl X x) (hm:X.mg x=some (.ref fa)) (hk:PySem.W.keepIn X.K (.ref fa)=true) (hb:Binds X.K fd ps []) (hx:Passes CX X E) (ha:DLx X G H0 (e::es) F)
    (hdb:(x==("__debug__" : Str))=false:=by decide) (he:starEach (e::es) X.env=(false,eval e X.env)::starEach es X.env:=by rfl) (hpl:(backTo pos (starEach es X.env)).any (·.1)=false:=by rfl) :
    DEx X G H0 (.Call (.Name x p') (e::es) [] pos) (fCallA m F):=(pe_call Fn hr hg hm hk hb .nil hx ha hdb he hpl).imp call_A
end
end L2
end
set_option Elab.async false
set_option linter.all false
set_option maxRecDepth 100000
set_option maxHeartbeats 4000000
noncomputable section
namespace L2
open PySem PySem.Spec PyProof.Rows
section
variable {X:Cx} {G:Addr→Prop} {H0:Hp} {a b c e:Expr} {es rest:List Expr} {f g:FE} {F:FA} {pos p' p1 pos1:Pos} {x:Str} {i:Nat}
end
end L2
end
set_option Elab.async false
set_option linter.all false
set_option maxRecDepth 100000
set_option maxHeartbeats 2000000
namespace L2
open PySem PySem.Spec PyProof.Rows
variable {prog:Program} {w:World} {A:Around} {E:Value→Shared→Prop} {s:Shared} {a:Addr}
end L2
namespace L2
open PySem PySem.Spec PyProof.Rows
variable {prog:Program} {w:World} {A:Around} {E:Value→Shared→Prop} {s:Shared}
end L2
set_option Elab.async false
set_option linter.all false
set_option maxRecDepth 100000
set_option maxHeartbeats 4000000
noncomputable section
namespace L2
open PySem PySem.Spec PyProof.Rows
section
variable {X:Cx} {xs N':List Str} {sc:Scope} {cl:List (Str × Addr)} {C:Addr} {s:Shared} {H:Hp} {fp:List Addr} {x:Str} {ix:List Nat}
end
section
variable {X:Cx} {G:Addr→Prop} {H0:Hp} {a b c e:Expr} {es:List Expr} {f g:FE} {F:FA} {u:FS} {pos p' p1 pos1:Pos} {x:Str} {i:Nat}
end
end L2
end
set_option Elab.async false
set_option linter.all false
set_option maxRecDepth 100000
set_option maxHeartbeats 4000000
noncomputable section
namespace L2
open PySem PySem.Spec PyProof.Rows
section
variable {X:Cx} {G:Addr→Prop} {H0:Hp} {a b c e:Expr} {es rest:List Expr} {f g:FE} {F:FA} {pos p' p1 pos1:Pos} {x:Str} {i:Nat}
end
end L2
end
set_option Elab.async false
set_option linter.all false
set_option maxRecDepth 100000
set_option maxHeartbeats 4000000
noncomputable section
namespace L2
open PySem PySem.Spec PyProof.Rows
section
variable {X:Cx} {G:Addr→Prop} {H0:Hp} {a b c e:Expr} {es rest:List Expr} {f g:FE} {F:FA} {pos p' p1 pos1:Pos} {x:Str} {i:Nat}
end
end L2
end
set_option Elab.async false
set_option linter.all false
set_option maxRecDepth 100000
set_option maxHeartbeats 4000000
noncomputable section
namespace L2
open PySem PySem.Spec PyProof.Rows
section
variable {X:Cx} {G:Addr→Prop} {H0:Hp} {a b c e:Expr} {es rest:List Expr} {f g:FE} {F:FA} {pos p' p1 pos1:Pos} {x:Str} {i:Nat}
end
end L2
end
set_option Elab.async false
set_option linter.all false
set_option maxRecDepth 100000
set_option maxHeartbeats 4000000
noncomputable section
namespace L2
open PySem PySem.Spec PyProof.Rows
def Nm (sc:Scope) (x:Str):Prop:=Vis sc x∧(x==("__debug__" : Str))=false∧(x==("__classdict__" : Str))=false
def LN (sc:Scope) (x:Str):Prop:=Loc sc x∧(x==("__debug__" : Str))=false∧(x==("__classdict__" : Str))=false
def GN (sc:Scope) (x:Str):Prop:=sc.names.lookup x=some .globalImplicit∧(x==("__debug__" : Str))=false
instance {sc:Scope} {x:Str}:Decidable (LN sc x):=by unfold LN Loc; infer_instance
instance {sc:Scope} {x:Str}:Decidable (GN sc x):=by unfold GN; infer_instance
theorem LN.v {sc:Scope} {x:Str} (h:LN sc x):Nm sc x:=⟨h.1.elim .inl fun z=>.inr (.inl z),h.2⟩
structure JE (X:Cx) (G:Addr→Prop) (H0:Hp) (e:Expr) (f:FE):Prop where
  out:DEx X G H0 e f
structure JT (X:Cx) (G:Addr→Prop) (H0:Hp) (e:Expr) (f:FT):Prop where
  out:DTx X G H0 e f
structure JA (X:Cx) (G:Addr→Prop) (H0:Hp) (e:List Expr) (f:FA):Prop where
  out:DAx X G H0 e f
structure JF (X:Cx) (G:Addr→Prop) (H0:Hp) (e:Expr) (f:FA):Prop where
  out:DFx X G H0 e f
structure JW (X:Cx) (G:Addr→Prop) (H0:Hp) (e:Expr) (f:FT):Prop where
  out:DWx X G H0 e f
structure JO (X:Cx) (G:Addr→Prop) (H0:Hp) (e:Option Expr) (f:FO):Prop where
  out:DOx X G H0 e f
structure JS (X:Cx) (G:Addr→Prop) (H0:Hp) (e:Stmt) (f:FS):Prop where
  out:DSx X G H0 e f
structure JB (X:Cx) (G:Addr→Prop) (H0:Hp) (e:List Stmt) (f:FS):Prop where
  out:DBx X G H0 e f
structure JF2 (X:Cx) (G:Addr→Prop) (H0:Hp) (e:Expr) (f:FA2):Prop where
  out:DF2x X G H0 e f
structure JL (X:Cx) (G:Addr→Prop) (H0:Hp) (e:List Expr) (f:FA):Prop where
  out:DLx X G H0 e f
structure JI (X:Cx) (G:Addr→Prop) (H0:Hp) (tg e:Expr) (f:FI):Prop where
  out:DIx X G H0 tg e f
structure JC (X:Cx) (G:Addr→Prop) (H0:Hp) (tg e:Expr) (f:FI):Prop where
  out:DCx X G H0 tg e f
structure JP (X:Cx) (s:Stmt) (t:TS):Prop where
  out:PS X s t
structure JG (X:Cx) (e:Expr) (t:TG):Prop where
  out:PG X e t
section
variable {X:Cx} {G:Addr→Prop} {H0:Hp} {a b c e:Expr} {es rest:List Expr} {f g:FE} {F:FA} {f2:FA2} {mF2:List D→Option (List (List D))} {p q:FT} {s:Stmt} {ss:List Stmt} {u v:FS} {pos p' p1 p2 pos1:Pos} {x:Str} {i:Nat} {CX:CXT} {k:Nat} {fa:Addr} {fd:FuncData} {ps:List Str} {m:List D→Option D} {mF:List D→Option (List D)} {E:XK}
theorem jde_var (i:Nat) {x:Str} (hv:Nm X.env.scope x) (hN:X.N[i]?=some x:=by rfl):JE X G H0 (.Name x pos) (fVar i):=⟨de_var (i:=i) (hN:=hN) (hv:=hv.1) (hd:=hv.2.1) (hcd:=hv.2.2)⟩
theorem jde_int {i:Int} {j:Nat}:JE X G H0 (.Constant (.int i) j pos) (fC (.int i)):=⟨de_int ⟩
theorem jde_bl {i:Bool} {j:Nat}:JE X G H0 (.Constant (.bool i) j pos) (fC (.bl i)):=⟨de_bl ⟩
theorem jde_add (ha:JE X G H0 a f) (hb:JE X G H0 b g):JE X G H0 (.BinOp a .Add b pos) (fBin dAddI f g):=⟨de_add (ha:=ha.out) (hb:=hb.out)⟩
theorem jde_sub (ha:JE X G H0 a f) (hb:JE X G H0 b g):JE X G H0 (.BinOp a .Sub b pos) (fBin dSub f g):=⟨de_sub (ha:=ha.out) (hb:=hb.out)⟩
theorem jde_mul (ha:JE X G H0 a f) (hb:JE X G H0 b g):JE X G H0 (.BinOp a .Mult b pos) (fBin dMul f g):=⟨de_mul (ha:=ha.out) (hb:=hb.out)⟩
theorem jde_mod (ha:JE X G H0 a f) (hb:JE X G H0 b g):JE X G H0 (.BinOp a .Mod b pos) (fBin dMod f g):=⟨de_mod (ha:=ha.out) (hb:=hb.out)⟩
theorem jde_div (ha:JE X G H0 a f) (hb:JE X G H0 b g):JE X G H0 (.BinOp a .FloorDiv b pos) (fBin dDiv f g):=⟨de_div (ha:=ha.out) (hb:=hb.out)⟩
theorem jde_gt (ha:JE X G H0 a f) (hb:JE X G H0 b g):JE X G H0 (.Compare a [.Gt] [b] pos) (fBin dGt f g):=⟨de_gt (ha:=ha.out) (hb:=hb.out)⟩
theorem jdt_lt (ha:JE X G H0 a f) (hb:JE X G H0 b g):JT X G H0 (.Compare a [.Lt] [b] pos) (fTst (fBin dLt f g)):=⟨dt_lt (ha:=ha.out) (hb:=hb.out)⟩
theorem jdt_gt (ha:JE X G H0 a f) (hb:JE X G H0 b g):JT X G H0 (.Compare a [.Gt] [b] pos) (fTst (fBin dGt f g)):=⟨dt_gt (ha:=ha.out) (hb:=hb.out)⟩
theorem jdt_ge (ha:JE X G H0 a f) (hb:JE X G H0 b g):JT X G H0 (.Compare a [.GtE] [b] pos) (fTst (fBin dGe f g)):=⟨dt_ge (ha:=ha.out) (hb:=hb.out)⟩
theorem jdt_eq (ha:JE X G H0 a f) (hb:JE X G H0 b g):JT X G H0 (.Compare a [.Eq] [b] pos) (fTst (fBin dEq f g)):=⟨dt_eq (ha:=ha.out) (hb:=hb.out)⟩
theorem jdt_ne (ha:JE X G H0 a f) (hb:JE X G H0 b g):JT X G H0 (.Compare a [.NotEq] [b] pos) (fTst (fBin dNe f g)):=⟨dt_ne (ha:=ha.out) (hb:=hb.out)⟩
theorem jde_ix (ha:JE X G H0 a f) (hb:JE X G H0 b g) (hs:PlainIx b:=by intro _ _; rfl):JE X G H0 (.Subscript a b pos) (fBin dIx f g):=⟨de_ix (ha:=ha.out) (hb:=hb.out) (hs:=hs)⟩
theorem jde_neg (ha:JE X G H0 a f):JE X G H0 (.UnaryOp .USub a pos) (fUn dNeg f):=⟨de_neg (ha:=ha.out)⟩
theorem jdt_w (h:JW X G H0 e p):JT X G H0 e p:=⟨dt_w (h:=h.out)⟩
theorem jdw_and1 (h:JT X G H0 a p):JW X G H0 (.BoolOp .And [a] pos) p:=⟨dw_and1 (h:=h.out)⟩
theorem jdw_or1 (h:JT X G H0 a p):JW X G H0 (.BoolOp .Or [a] pos) p:=⟨dw_or1 (h:=h.out)⟩
theorem jdw_and (h:JT X G H0 a p) (h2:JW X G H0 (.BoolOp .And (b::rest) pos) q):JW X G H0 (.BoolOp .And (a::b::rest) pos) (fAnd p q):=⟨dw_and (h:=h.out) (h2:=h2.out)⟩
theorem jdw_or (h:JT X G H0 a p) (h2:JW X G H0 (.BoolOp .Or (b::rest) pos) q):JW X G H0 (.BoolOp .Or (a::b::rest) pos) (fOr p q):=⟨dw_or (h:=h.out) (h2:=h2.out)⟩
theorem jdt_not (h:JT X G H0 a p):JT X G H0 (.UnaryOp .Not a pos) (fNot p):=⟨dt_not (h:=h.out)⟩
theorem jdt_val (h:JE X G H0 a f) (he:∀ whole,isTrue a X.env whole=(do let v ← whole; standAt a.pos; holding [v] (truthy v)):=by intro _; rfl):JT X G H0 a (fTst f):=⟨dt_val (h:=h.out) (he:=he)⟩
theorem jde_one {op:BoolOp} (h:JE X G H0 a f):JE X G H0 (.BoolOp op [a] pos) f:=⟨de_one (h:=h.out)⟩
theorem jde_and (h:JE X G H0 a f) (h2:JE X G H0 (.BoolOp .And (b::rest) pos) g):JE X G H0 (.BoolOp .And (a::b::rest) pos) (fAndV f g):=⟨de_and (h:=h.out) (h2:=h2.out)⟩
theorem jde_not (h:JE X G H0 a f):JE X G H0 (.UnaryOp .Not a pos) (fNotV f):=⟨de_not (h:=h.out)⟩
theorem jda_nil  : JA X G H0 [] fNil:=⟨da_nil ⟩
theorem jda_cons (ha:JE X G H0 e f) (hr:JA X G H0 es F) (hs:starEach (e::es) X.env=(false,eval e X.env)::starEach es X.env:=by rfl):JA X G H0 (e::es) (fCons f F):=⟨da_cons (ha:=ha.out) (hr:=hr.out) (hs:=hs)⟩
theorem jde_tup {k1} (h:JA X G H0 es F):JE X G H0 (.Tuple es k1 pos) (fTup F):=⟨de_tup (h:=h.out)⟩
theorem jdf_lst (h:JA X G H0 es F):JF X G H0 (.List es pos) (fDisp F):=⟨df_lst (h:=h.out)⟩
theorem jde_fr (h:JF X G H0 e F):JE X G H0 e (fLst F):=⟨de_fr (h:=h.out)⟩
theorem jde_call (Fn:FnOk X.prog X.w X.K X.mg X.base CX k fa fd ps (dSp X.K m)) (hr:Room k X.A) (hg:Gl X x) (hm:X.mg x=some (.ref fa)) (hk:PySem.W.keepIn X.K (.ref fa)=true) (hb:Binds X.K fd ps []) (hx:Passes CX X E) (ha:JA X G H0 (e::es) F) (hdb:(x==("__debug__" : Str))=false:=by decide) (he:starEach (e::es) X.env=(false,eval e X.env)::starEach es X.env:=by rfl) (hpl:(backTo pos (starEach es X.env)).any (·.1)=false:=by rfl):JE X G H0 (.Call (.Name x p') (e::es) [] pos) (fCall m F):=⟨de_call (Fn:=Fn) (hr:=hr) (hg:=hg) (hm:=hm) (hk:=hk) (hb:=hb) (hx:=hx) (ha:=ha.out) (hdb:=hdb) (he:=he) (hpl:=hpl)⟩
theorem jdf_call (Fn:FnOk X.prog X.w X.K X.mg X.base CX k fa fd ps (fSp X.K mF)) (hr:Room k X.A) (hg:Gl X x) (hm:X.mg x=some (.ref fa)) (hk:PySem.W.keepIn X.K (.ref fa)=true) (hb:Binds X.K fd ps []) (hx:Passes CX X E) (ha:JA X G H0 (e::es) F) (hdb:(x==("__debug__" : Str))=false:=by decide) (he:starEach (e::es) X.env=(false,eval e X.env)::starEach es X.env:=by rfl) (hpl:(backTo pos (starEach es X.env)).any (·.1)=false:=by rfl):JF X G H0 (.Call (.Name x p') (e::es) [] pos) (fCallF mF F):=⟨df_call (Fn:=Fn) (hr:=hr) (hg:=hg) (hm:=hm) (hk:=hk) (hb:=hb) (hx:=hx) (ha:=ha.out) (hdb:=hdb) (he:=he) (hpl:=hpl)⟩
theorem jde_len (hg:Gl X "len") (hm:X.mg "len" = none) (ha:JA X G H0 [e] F) (he:starEach [e] X.env=(false,eval e X.env)::starEach [] X.env:=by rfl):JE X G H0 (.Call (.Name "len" p') [e] [] pos) (fCall bLen F):=⟨de_len (hg:=hg) (hm:=hm) (ha:=ha.out) (he:=he)⟩
theorem jde_min (hc:X.calm=true) (hg:Gl X "min") (hm:X.mg "min" = none) (ha:JA X G H0 [a,b] F) (he:starEach [a,b] X.env=(false,eval a X.env)::starEach [b] X.env:=by rfl) (hpl:(backTo pos (starEach [b] X.env)).any (·.1)=false:=by rfl):JE X G H0 (.Call (.Name "min" p') [a,b] [] pos) (fCall bMin F):=⟨de_min (hc:=hc) (hg:=hg) (hm:=hm) (ha:=ha.out) (he:=he) (hpl:=hpl)⟩
theorem jde_sum (hc:X.calm=true) (hg:Gl X "sum") (hm:X.mg "sum" = none) (ha:JA X G H0 [e] F) (he:starEach [e] X.env=(false,eval e X.env)::starEach [] X.env:=by rfl):JE X G H0 (.Call (.Name "sum" p') [e] [] pos) (fCall bSum F):=⟨de_sum (hc:=hc) (hg:=hg) (hm:=hm) (ha:=ha.out) (he:=he)⟩
theorem jdf_list (hg:Gl X "list") (hm:X.mg "list" = none) (ha:JA X G H0 [e] F) (he:starEach [e] X.env=(false,eval e X.env)::starEach [] X.env:=by rfl):JF X G H0 (.Call (.Name "list" p') [e] [] pos) (fCallF bList F):=⟨df_list (hg:=hg) (hm:=hm) (ha:=ha.out) (he:=he)⟩
theorem jdf_listRng2 (hc:X.calm=true) (hg:Gl X "list") (hm:X.mg "list" = none) (hg':Gl X "range") (hm':X.mg "range" = none) (ha:JA X G H0 [a,b] F) (hs:starEach [a,b] X.env=[(false,eval a X.env),(false,eval b X.env)]:=by rfl) (hs2:starEach [b] X.env=[(false,eval b X.env)]:=by rfl) (he:starEach [.Call (.Name "range" p1) [a,b] [] pos1] X.env=(false,eval (.Call (.Name "range" p1) [a,b] [] pos1) X.env)::starEach [] X.env:=by rfl):JF X G H0 (.Call (.Name "list" p') [.Call (.Name "range" p1) [a,b] [] pos1] [] pos) (fCallF bRng2 F):=⟨df_listRng2 (hc:=hc) (hg:=hg) (hm:=hm) (hg':=hg') (hm':=hm') (ha:=ha.out) (hs:=hs) (hs2:=hs2) (he:=he)⟩
theorem jdo_none  : JO X G H0 none fO0:=⟨do_none ⟩
theorem jdo_some (h:JE X G H0 e f):JO X G H0 (some e) (fO1 f):=⟨do_some (h:=h.out)⟩
theorem jdf_sl {lo hi:Option Expr} {fl fh:FO} {sp:Pos} (he:JE X G H0 a f) (hl:JO X G H0 lo fl) (hu:JO X G H0 hi fh):JF X G H0 (.Subscript a (.Slice lo hi none sp) pos) (fSl f fl fh):=⟨df_sl (he:=he.out) (hl:=hl.out) (hu:=hu.out)⟩
theorem jdf_cat (ha:JE X G H0 a f) (hb:JE X G H0 b g):JF X G H0 (.BinOp a .Add b pos) (fCat f g):=⟨df_cat (ha:=ha.out) (hb:=hb.out)⟩
theorem jde_lenV (i:Nat) (hg:Gl X "len") (hm:X.mg "len" = none) (hv:Nm X.env.scope x) (he:starEach [.Name x p1] X.env=(false,eval (.Name x p1) X.env)::starEach [] X.env:=by rfl) (hN:X.N[i]?=some x:=by rfl):JE X G H0 (.Call (.Name "len" p') [.Name x p1] [] pos) (fLenV i):=⟨de_lenV (i:=i) (hg:=hg) (hm:=hm) (he:=he) (hN:=hN) (hv:=hv.1) (hd:=hv.2.1) (hcd:=hv.2.2)⟩
theorem jde_ixV (i:Nat) (hb:JE X G H0 b g) (hs:PlainIx b:=by intro _ _; rfl) (hv:Nm X.env.scope x) (hN:X.N[i]?=some x:=by rfl):JE X G H0 (.Subscript (.Name x p1) b pos) (fIxV i g):=⟨de_ixV (i:=i) (hb:=hb.out) (hs:=hs) (hN:=hN) (hv:=hv.1) (hd:=hv.2.1) (hcd:=hv.2.2)⟩
theorem jde_isi {T:String} (hg:Gl X "isinstance") (hm:X.mg "isinstance" = none) (hgT:Gl X x) (hmT:X.mg x=none) (hbT:bootBuiltins x=some (.type T)) (hT:isKind T=true) (ha:JE X G H0 a f) (hdx:(x==("__debug__" : Str))=false:=by decide) (hnx:x ≠ "__name__":=by decide) (he:starEach [a,.Name x p1] X.env=(false,eval a X.env)::starEach [.Name x p1] X.env:=by rfl) (he2:starEach [.Name x p1] X.env=(false,eval (.Name x p1) X.env)::starEach [] X.env:=by rfl) (hpl:(backTo pos (starEach [.Name x p1] X.env)).any (·.1)=false:=by rfl):JE X G H0 (.Call (.Name "isinstance" p') [a,.Name x p1] [] pos) (fIsi T f):=⟨de_isi (hg:=hg) (hm:=hm) (hgT:=hgT) (hmT:=hmT) (hbT:=hbT) (hT:=hT) (ha:=ha.out) (hdx:=hdx) (hnx:=hnx) (he:=he) (he2:=he2) (hpl:=hpl)⟩
theorem jdi_seq {tg:Expr} (h:JE X G H0 e f):JI X G H0 tg e (fiS f):=⟨di_seq (h:=h.out)⟩
theorem jdi_range1 {tg:Expr} (hg:Gl X "range") (hm:X.mg "range" = none) (ha:JA X G H0 [a] F) (hs:starEach [a] X.env=[(false,eval a X.env)]:=by rfl):JI X G H0 tg (.Call (.Name "range" p') [a] [] pos) (fCallF iR1 F):=⟨di_range1 (hg:=hg) (hm:=hm) (ha:=ha.out) (hs:=hs)⟩
theorem jdf_comp {N':List Str} {ix:List Nat} {sc:Scope} {px:Pos} {fi:FI} {te:FE} (c:CompOk X x N' ix sc) (hc:X.calm=true) (hi:JI X G H0 (.Name x px) a fi) (hel:∀ cl C s₂ H₂ fp G H0,JE (cxComp X x N' sc cl C s₂ H₂ fp) G H0 e te) (hs:∀ v,foldedSetIterable a X.env v=pure v:=by intro _; rfl):JF X G H0 (.ListComp e [⟨.Name x px,a,[],0⟩] sc pos) (fComp fi ix fYes te):=⟨df_comp (c:=c) (hc:=hc) (hi:=hi.out) (hel:=fun cl C s₂ H₂ fp G H0=>(hel cl C s₂ H₂ fp G H0).out) (hs:=hs)⟩
theorem jdb_nil  : JB X G H0 [] sNil:=⟨db_nil ⟩
theorem jdb_cons (h1:JS X G H0 s u) (h2:JB X G H0 ss v):JB X G H0 (s::ss) (sSeq u v):=⟨db_cons (h1:=h1.out) (h2:=h2.out)⟩
theorem jdb_one (h:JS X G H0 s u):JB X G H0 [s] u:=⟨db_one (h:=h.out)⟩
theorem jds_own (ps:JP X (.Assign [.Name x p'] e pos) (tAsg (tDF X.K G H0 F) (gName i))):JS X G H0 (.Assign [.Name x p'] e pos) (sOwn i F):=⟨ds_own (ps:=ps.out)⟩
theorem jds_setE (hN:X.N.Nodup) (hi:X.N[i]?=some x) (hx:Loc X.env.scope x) (he:JE X G H0 e f) (hs:swapsWith e (some (.Name x p')) pos.line X.env=pure false:=by rfl) (hf:X.fn x=true∨X.env.scope.names.lookup x=some .local:=by first | exact .inl rfl | exact .inr rfl | assumption):JS X G H0 (.Assign [.Name x p'] e pos) (sSet i f):=⟨ds_setE (hN:=hN) (hi:=hi) (hx:=hx) (he:=he.out) (hs:=hs) (hf:=hf)⟩
theorem jds_setF (ps:JP X (.Assign [.Name x p'] e pos) (tAsg (tDF X.K G H0 F) (gName i))):JS X G H0 (.Assign [.Name x p'] e pos) (sSet i (fLst F)):=⟨ds_setF (ps:=ps.out)⟩
theorem jds_ret (he:JE X G H0 e f):JS X G H0 (.Return (some e) pos) (sRet f):=⟨ds_ret (he:=he.out)⟩
theorem jds_retF (he:JF X G H0 e F):JS X G H0 (.Return (some e) pos) (sRetF F):=⟨ds_retF (he:=he.out)⟩
theorem jds_retO (i:Nat) (hv:Nm X.env.scope x) (hN:X.N[i]?=some x:=by rfl):JS X G H0 (.Return (some (.Name x p')) pos) (sRetO i):=⟨ds_retO (i:=i) (hN:=hN) (hv:=hv.1) (hd:=hv.2.1) (hcd:=hv.2.2)⟩
theorem jds_if {aa bb:List Stmt} (hc:JT X G H0 c p) (ha:JB X G H0 aa u) (hb:JB X G H0 bb v):JS X G H0 (.If c aa bb pos) (sIf p u v):=⟨ds_if (hc:=hc.out) (ha:=ha.out) (hb:=hb.out)⟩
theorem jds_never  : JS X G H0 s sNever:=⟨ds_never ⟩
theorem jds_expr (he:JE X G H0 e f) (hs:swapsWith e none pos.line X.env=pure false:=by rfl):JS X G H0 (.Expr e pos) (sDrop f):=⟨ds_expr (he:=he.out) (hs:=hs)⟩
theorem jds_for {tg:Str} {px:Pos} {body:List Stmt} {fi:FI} (hp:PassesOwn (model X.prog X.w) X.A X.env X.xe) (hc:X.calm=true) (hi:JI X G H0 (.Name tg px) a fi) (hg:JG X (.Name tg px) (gName i)) (hb:JB X G H0 body u) (hs:∀ x,foldedSetIterable a X.env x=pure x:=by intro _; rfl):JS X G H0 (.For (.Name tg px) a body [] pos) (sFor i fi u):=⟨ds_for (hp:=hp) (hc:=hc) (hi:=hi.out) (hg:=hg.out) (hb:=hb.out) (hs:=hs)⟩
theorem jds_while {body:List Stmt} (n:Nat) (hp:PassesOwn (model X.prog X.w) X.A X.env X.xe) (hc:JT X G H0 c p) (hb:JB X G H0 body u):JS X G H0 (.While c body [] pos) (whileF p u n):=⟨ds_while (n:=n) (hp:=hp) (hc:=hc.out) (hb:=hb.out)⟩
theorem jde_append (i : Nat) (ha : JE X G H0 a f) (hv : Nm X.env.scope x) (hbase : attributeBase (.Name x p') "append" X.env (eval (.Name x p') X.env) = eval (.Name x p') X.env := by rfl) (hfew : ((backTo pos (starEach [a] X.env)).all (fun x => !x.1) && (backToKw pos (keywordEach [] X.env)).all (fun x => x.1.isSome)
      && decide ([a].length + ([]:List Keyword).length + (if ([]:List Keyword).isEmpty then 0 else 1) < 30))=true:=by rfl) (hline:(p1.endLine==pos.line)=true:=by rfl) (hs:starEach [a] X.env=(false,eval a X.env)::starEach [] X.env:=by rfl) (hN:X.N[i]?=some x:=by rfl):JE X G H0 (.Call (.Attribute (.Name x p') "append" p1) [a] [] pos) (fAppend i f):=⟨de_append (i:=i) (ha:=ha.out) (hbase:=hbase) (hfew:=hfew) (hline:=hline) (hs:=hs) (hN:=hN) (hv:=hv.1) (hd:=hv.2.1) (hcd:=hv.2.2)⟩
theorem jde_pop (i:Nat) (hv:Nm X.env.scope x) (hbase:attributeBase (.Name x p') "pop" X.env (eval (.Name x p') X.env)=eval (.Name x p') X.env:=by rfl) (hline:(p1.endLine==pos.line)=true:=by rfl) (hN:X.N[i]?=some x:=by rfl):JE X G H0 (.Call (.Attribute (.Name x p') "pop" p1) [] [] pos) (fPop i):=⟨de_pop (i:=i) (hbase:=hbase) (hline:=hline) (hN:=hN) (hv:=hv.1) (hd:=hv.2.1) (hcd:=hv.2.2)⟩
theorem jde_popAt (i : Nat) (ha : JE X G H0 a f) (hv : Nm X.env.scope x) (hbase : attributeBase (.Name x p') "pop" X.env (eval (.Name x p') X.env) = eval (.Name x p') X.env := by rfl) (hfew : ((backTo pos (starEach [a] X.env)).all (fun x => !x.1) && (backToKw pos (keywordEach [] X.env)).all (fun x => x.1.isSome)
      && decide ([a].length + ([]:List Keyword).length + (if ([]:List Keyword).isEmpty then 0 else 1) < 30))=true:=by rfl) (hline:(p1.endLine==pos.line)=true:=by rfl) (hs:starEach [a] X.env=(false,eval a X.env)::starEach [] X.env:=by rfl) (hN:X.N[i]?=some x:=by rfl):JE X G H0 (.Call (.Attribute (.Name x p') "pop" p1) [a] [] pos) (fPopAt i f):=⟨de_popAt (i:=i) (ha:=ha.out) (hbase:=hbase) (hfew:=hfew) (hline:=hline) (hs:=hs) (hN:=hN) (hv:=hv.1) (hd:=hv.2.1) (hcd:=hv.2.2)⟩
theorem jds_setit (i : Nat) (hk : JE X G H0 b g) (he : JE X G H0 e f) (hv : Nm X.env.scope x) (hs : swapsWithSole [.Subscript (.Name x p') b p1] e pos.line X.env = pure false := by rfl) (hw : swappedStores [.Subscript (.Name x p') b p1] e X.env = pure none := by rfl) (h1 : (assignEach [.Subscript (.Name x p') b p1] X.env).map (·.2) = [assign (.Subscript (.Name x p') b p1) X.env] := by rfl) (hass : ∀ v, assign (.Subscript (.Name x p') b p1) X.env v = (do
      let ov ← holding [v] (eval (.Name x p') X.env)
      let iv ← holding [v,ov] (eval b X.env)
      standAt p1
      holding [v,ov,iv] (setItem ov iv v)
      release [v,ov,iv] []):=by intro _; rfl) (hN:X.N[i]?=some x:=by rfl):JS X G H0 (.Assign [.Subscript (.Name x p') b p1] e pos) (sSetIt i g f):=⟨ds_setit (i:=i) (hk:=hk.out) (he:=he.out) (hs:=hs) (hw:=hw) (h1:=h1) (hass:=hass) (hN:=hN) (hv:=hv.1) (hd:=hv.2.1) (hcd:=hv.2.2)⟩
theorem jps_compD {y:Str} {N':List Str} {ix:List Nat} {sc:Scope} {px py spos:Pos} {fi:FI} {te:FE} (c:CompOk X x N' ix sc) (hc:X.calm=true) (hnN:X.N.Nodup) (hiy:X.N[i]?=some y) (hly:Loc X.env.scope y) (hi:JI X G H0 (.Name x px) a fi) (hel:∀ cl C s₂ H₂ fp G H0,JE (cxComp X x N' sc cl C s₂ H₂ fp) G H0 e te) (hsw:swapsWith (.ListComp e [⟨.Name x px,a,[],0⟩] sc pos) (some (.Name y py)) spos.line X.env=pure true) (hf:X.fn y=true∨X.env.scope.names.lookup y=some .local:=by first | exact .inl rfl | exact .inr rfl | assumption) (hs:∀ v,foldedSetIterable a X.env v=pure v:=by intro _; rfl):JP X (.Assign [.Name y py] (.ListComp e [⟨.Name x px,a,[],0⟩] sc pos) spos) (tAsg (tDF X.K G H0 (fComp fi ix fYes te)) (gName i)):=⟨ps_compD (c:=c) (hc:=hc) (hnN:=hnN) (hiy:=hiy) (hly:=hly) (hi:=hi.out) (hel:=fun cl C s₂ H₂ fp G H0=>(hel cl C s₂ H₂ fp G H0).out) (hsw:=hsw) (hf:=hf) (hs:=hs)⟩
theorem jps_comp2 {y:Str} {N':List Str} {ix:List Nat} {sc:Scope} {px py spos:Pos} {fi:FI} {te:FA} (c:CompOk X x N' ix sc) (hc:X.calm=true) (hnN:X.N.Nodup) (hiy:X.N[i]?=some y) (hly:Loc X.env.scope y) (hi:JI X G H0 (.Name x px) a fi) (hel:∀ cl C s₂ H₂ fp G H0,JF (cxComp X x N' sc cl C s₂ H₂ fp) G H0 e te) (hsw:swapsWith (.ListComp e [⟨.Name x px,a,[],0⟩] sc pos) (some (.Name y py)) spos.line X.env=pure true) (hf:X.fn y=true∨X.env.scope.names.lookup y=some .local:=by first | exact .inl rfl | exact .inr rfl | assumption) (hs:∀ v,foldedSetIterable a X.env v=pure v:=by intro _; rfl):JP X (.Assign [.Name y py] (.ListComp e [⟨.Name x px,a,[],0⟩] sc pos) spos) (tAsg (tDF2 X.K G H0 (fComp2 fi ix te)) (gName i)):=⟨ps_comp2 (c:=c) (hc:=hc) (hnN:=hnN) (hiy:=hiy) (hly:=hly) (hi:=hi.out) (hel:=fun cl C s₂ H₂ fp G H0=>(hel cl C s₂ H₂ fp G H0).out) (hsw:=hsw) (hf:=hf) (hs:=hs)⟩
theorem jds_own2 {f2:FA2} (ps:JP X (.Assign [.Name x p'] e pos) (tAsg (tDF2 X.K G H0 f2) (gName i))):JS X G H0 (.Assign [.Name x p'] e pos) (sOwn2 i f2):=⟨ds_own2 (ps:=ps.out)⟩
theorem jde_append2 (i : Nat) (hb : JE X G H0 b g) (ha : ∀ G H0, JE X G H0 a f) (hpi : PlainIx b := by intro _ _; rfl) (hv : Nm X.env.scope x) (hbase : attributeBase (.Subscript (.Name x p') b p2) "append" X.env (eval (.Subscript (.Name x p') b p2) X.env) = eval (.Subscript (.Name x p') b p2) X.env := by rfl) (hfew : ((backTo pos (starEach [a] X.env)).all (fun x => !x.1) && (backToKw pos (keywordEach [] X.env)).all (fun x => x.1.isSome)
      && decide ([a].length + ([]:List Keyword).length + (if ([]:List Keyword).isEmpty then 0 else 1) < 30))=true:=by rfl) (hline:(p1.endLine==pos.line)=true:=by rfl) (hs:starEach [a] X.env=(false,eval a X.env)::starEach [] X.env:=by rfl) (hN:X.N[i]?=some x:=by rfl):JE X G H0 (.Call (.Attribute (.Subscript (.Name x p') b p2) "append" p1) [a] [] pos) (fAppend2 i g f):=⟨de_append2 (i:=i) (hb:=hb.out) (ha:=fun G H0=>(ha G H0).out) (hpi:=hpi) (hbase:=hbase) (hfew:=hfew) (hline:=hline) (hs:=hs) (hN:=hN) (hv:=hv.1) (hd:=hv.2.1) (hcd:=hv.2.2)⟩
theorem jde_insert (i : Nat) (ha : JE X G H0 a f) (hb : JE X G H0 b g) (hv : Nm X.env.scope x) (hbase : attributeBase (.Name x p') "insert" X.env (eval (.Name x p') X.env) = eval (.Name x p') X.env := by rfl) (hfew : ((backTo pos (starEach [a, b] X.env)).all (fun x => !x.1) && (backToKw pos (keywordEach [] X.env)).all (fun x => x.1.isSome)
      && decide ([a,b].length + ([]:List Keyword).length + (if ([]:List Keyword).isEmpty then 0 else 1) < 30))=true:=by rfl) (hline:(p1.endLine==pos.line)=true:=by rfl) (hs:starEach [a,b] X.env=(false,eval a X.env)::starEach [b] X.env:=by rfl) (hs2:starEach [b] X.env=(false,eval b X.env)::starEach [] X.env:=by rfl) (hpl:(backTo pos (starEach [b] X.env)).any (·.1)=false:=by rfl) (hN:X.N[i]?=some x:=by rfl):JE X G H0 (.Call (.Attribute (.Name x p') "insert" p1) [a,b] [] pos) (fInsert i f g):=⟨de_insert (i:=i) (ha:=ha.out) (hb:=hb.out) (hbase:=hbase) (hfew:=hfew) (hline:=hline) (hs:=hs) (hs2:=hs2) (hpl:=hpl) (hN:=hN) (hv:=hv.1) (hd:=hv.2.1) (hcd:=hv.2.2)⟩
theorem jdf_rep (ha:JF X G H0 a F) (hb:JE X G H0 b g):JF X G H0 (.BinOp a .Mult b pos) (fRep F g):=⟨df_rep (ha:=ha.out) (hb:=hb.out)⟩
theorem jds_augA (hN:X.N.Nodup) (hi:X.N[i]?=some x) (hx:Loc X.env.scope x) (he:JE X G H0 e f) (hf:X.fn x=true∨X.env.scope.names.lookup x=some .local:=by first | exact .inl rfl | exact .inr rfl | assumption):JS X G H0 (.AugAssign (.Name x p') .Add e pos) (sSet i (fBin dAddI (fVar i) f)):=⟨ds_augA (hN:=hN) (hi:=hi) (hx:=hx) (he:=he.out) (hf:=hf)⟩
theorem jds_augSA (i:Nat) (hk:JE X G H0 b g) (he:JE X G H0 e f) (hv:Nm X.env.scope x) (ha:∀ ov iv new,augStore b ov iv new=(do holding [new,ov,iv] (setItem ov iv new); release [new,ov,iv] []; pure .next):=by intros; rfl) (hN:X.N[i]?=some x:=by rfl):JS X G H0 (.AugAssign (.Subscript (.Name x p') b p1) .Add e pos) (sAugIt i dAddI g f):=⟨ds_augSA (i:=i) (hk:=hk.out) (he:=he.out) (ha:=ha) (hN:=hN) (hv:=hv.1) (hd:=hv.2.1) (hcd:=hv.2.2)⟩
theorem jds_augSB (i:Nat) (hk:JE X G H0 b g) (he:JE X G H0 e f) (hv:Nm X.env.scope x) (ha:∀ ov iv new,augStore b ov iv new=(do holding [new,ov,iv] (setItem ov iv new); release [new,ov,iv] []; pure .next):=by intros; rfl) (hN:X.N[i]?=some x:=by rfl):JS X G H0 (.AugAssign (.Subscript (.Name x p') b p1) .Sub e pos) (sAugIt i dSub g f):=⟨ds_augSB (i:=i) (hk:=hk.out) (he:=he.out) (ha:=ha) (hN:=hN) (hv:=hv.1) (hd:=hv.2.1) (hcd:=hv.2.2)⟩
theorem jde_extend (i : Nat) (ha : JF X G H0 a F) (hv : Nm X.env.scope x) (hbase : attributeBase (.Name x p') "extend" X.env (eval (.Name x p') X.env) = eval (.Name x p') X.env := by rfl) (hfew : ((backTo pos (starEach [a] X.env)).all (fun x => !x.1) && (backToKw pos (keywordEach [] X.env)).all (fun x => x.1.isSome)
      && decide ([a].length + ([]:List Keyword).length + (if ([]:List Keyword).isEmpty then 0 else 1) < 30))=true:=by rfl) (hline:(p1.endLine==pos.line)=true:=by rfl) (hs:starEach [a] X.env=(false,eval a X.env)::starEach [] X.env:=by rfl) (hN:X.N[i]?=some x:=by rfl):JE X G H0 (.Call (.Attribute (.Name x p') "extend" p1) [a] [] pos) (fExtend i F):=⟨de_extend (i:=i) (ha:=ha.out) (hbase:=hbase) (hfew:=hfew) (hline:=hline) (hs:=hs) (hN:=hN) (hv:=hv.1) (hd:=hv.2.1) (hcd:=hv.2.2)⟩
theorem jde_sumV (i:Nat) (hc:X.calm=true) (hg:Gl X "sum") (hm:X.mg "sum" = none) (hv:Nm X.env.scope x) (he:starEach [.Name x p1] X.env=(false,eval (.Name x p1) X.env)::starEach [] X.env:=by rfl) (hN:X.N[i]?=some x:=by rfl):JE X G H0 (.Call (.Name "sum" p') [.Name x p1] [] pos) (fSumV i):=⟨de_sumV (i:=i) (hc:=hc) (hg:=hg) (hm:=hm) (he:=he) (hN:=hN) (hv:=hv.1) (hd:=hv.2.1) (hcd:=hv.2.2)⟩
theorem jdl_of (h:JA X G H0 es F):JL X G H0 es F:=⟨dl_of (h:=h.out)⟩
theorem jdl_lend (i:Nat) (hr:JL X G H0 es F) (hv:Nm X.env.scope x) (hs:starEach (.Name x p1::es) X.env=(false,eval (.Name x p1) X.env)::starEach es X.env:=by rfl) (hN:X.N[i]?=some x:=by rfl):JL X G H0 (.Name x p1::es) (fLend i F):=⟨dl_lend (i:=i) (hr:=hr.out) (hs:=hs) (hN:=hN) (hv:=hv.1) (hd:=hv.2.1) (hcd:=hv.2.2)⟩
theorem jde_callA (Fn:FnOk X.prog X.w X.K X.mg X.base CX k fa fd ps (dSp X.K m)) (hr:Room k X.A) (hg:Gl X x) (hm:X.mg x=some (.ref fa)) (hk:PySem.W.keepIn X.K (.ref fa)=true) (hb:Binds X.K fd ps []) (hx:Passes CX X E) (ha:JL X G H0 (e::es) F) (hdb:(x==("__debug__" : Str))=false:=by decide) (he:starEach (e::es) X.env=(false,eval e X.env)::starEach es X.env:=by rfl) (hpl:(backTo pos (starEach es X.env)).any (·.1)=false:=by rfl):JE X G H0 (.Call (.Name x p') (e::es) [] pos) (fCallA m F):=⟨de_callA (Fn:=Fn) (hr:=hr) (hg:=hg) (hm:=hm) (hk:=hk) (hb:=hb) (hx:=hx) (ha:=ha.out) (hdb:=hdb) (he:=he) (hpl:=hpl)⟩
theorem jps_set {y:Str} (hN:X.N.Nodup) (hi:X.N[i]?=some y) (hx:Loc X.env.scope y) (he:JF X G H0 e F) (hs:swapsWith e (some (.Name y p')) pos.line X.env=pure false:=by rfl) (hf:X.fn y=true∨X.env.scope.names.lookup y=some .local:=by first | exact .inl rfl | exact .inr rfl | assumption) :
    JP X (.Assign [.Name y p'] e pos) (tAsg (tDF X.K G H0 F) (gName i)):=⟨ps_set hN hi hx he.out hs hf⟩
structure JN (X:Cx) (es:List Expr) (t:TGs):Prop where
  out:PGs X es t
theorem jpn_nil:JN X [] (gIs []):=⟨pn_nil⟩
theorem jpn_cons {ix:List Nat} {y:Str} (hN:X.N.Nodup) (hi:X.N[i]?=some y) (hx:Loc X.env.scope y) (h:JN X es (gIs ix)) (hf:X.fn y=true∨X.env.scope.names.lookup y=some .local:=by first | exact .inl rfl | exact .inr rfl | assumption)
    (hs:(assignEach (.Name y pos::es) X.env).map (·.2)=assign (.Name y pos) X.env::(assignEach es X.env).map (·.2):=by rfl):JN X (.Name y pos::es) (gIs (i::ix)):=⟨pn_cons hN hi hx h.out hf hs⟩
theorem jds_forU {ix:List Nat} {k:Nat} {body:List Stmt} {fi:FI} (hp:PassesOwn (model X.prog X.w) X.A X.env X.xe) (hc:X.calm=true) (hi:JI X G H0 (.Tuple es k p1) a fi) (h:JN X es (gIs ix)) (hb:JB X G H0 body u)
    (hn:(assignEach es X.env).length=ix.length:=by rfl) (hst:(assignEach es X.env).findIdx? (·.1)=none:=by rfl)
    (hs:∀ x,foldedSetIterable a X.env x=pure x:=by intro _; rfl):JS X G H0 (.For (.Tuple es k p1) a body [] pos) (sForU ix fi u):=⟨ds_forU hp hc hi.out h.out hb.out hn hst hs⟩
structure JJ (X:Cx) (G:Addr→Prop) (H0:Hp) (tg e:Expr) (f:FI):Prop where
  out:DJx X G H0 tg e f
theorem jdj_enumS {k j:Nat} {kp:Pos} (hg:Gl X "enumerate") (hm:X.mg "enumerate" = none) (ha:JA X G H0 [a] F) (hs:starEach [a] X.env=(false,eval a X.env)::starEach [] X.env:=by rfl) (hpl:(backTo pos (starEach [a] X.env)).any (·.1)=false:=by rfl) :
    JJ X G H0 (.Tuple es k p1) (.Call (.Name "enumerate" p') [a] [⟨some "start",.Constant (.int 1) j p2,kp⟩] pos) (fCallF (iEn 1) F):=⟨dj_enumS hg hm ha.out hs hpl⟩
theorem jds_forP {ix:List Nat} {k:Nat} {body:List Stmt} {fi:FI} (hp:PassesOwn (model X.prog X.w) X.A X.env X.xe) (hc:X.calm=true) (hi:JJ X G H0 (.Tuple es k p1) a fi) (h:JN X es (gIs ix)) (hb:JB X G H0 body u)
    (hn:(assignEach es X.env).length=ix.length:=by rfl) (hst:(assignEach es X.env).findIdx? (·.1)=none:=by rfl)
    (hs:∀ x,foldedSetIterable a X.env x=pure x:=by intro _; rfl):JS X G H0 (.For (.Tuple es k p1) a body [] pos) (sForU ix fi u):=⟨ds_forP hp hc hi.out h.out hb.out hn hst hs⟩
section
variable {xs N':List Str} {sc:Scope} {cl:List (Str × Addr)} {C:Addr} {s':Shared} {H:Hp} {fp:List Addr}
end
theorem jpg_name {y:Str} (hN:X.N.Nodup) (hi:X.N[i]?=some y) (hx:Loc X.env.scope y) (hf:X.fn y=true∨X.env.scope.names.lookup y=some .local:=by first | exact .inl rfl | exact .inr rfl | assumption):JG X (.Name y pos) (gName i):=⟨pg_name hN hi hx hf⟩
end
section
variable {P:Program} {w:World} {K:PySem.W.Frag} {mg:Str→Option Value} {base:Heap}
theorem jfn_D {x qual:Str} {st:Stmt} {f:Addr} {fd:FuncData} {N ps:List Str} {k:Nat} {g:FS} {n ar:Nat} (F:Fun K x qual st f fd) (S:FnScope N ps (defScope st)) (hn:n=N.length) (ha:ar=ps.length)
    (hbody:∀ (cdv:Value) (A:Around) (outer:List Env) (s:Shared) (H:Hp) (E:XK) (G:Addr→Prop) (H0:Hp),Room k (A.deeper (envOfC qual (defScope st) s.heap.objs.size f cdv)) →
      JB (cxOf CX0 P w K mg base N qual (defScope st) f cdv A outer s H E).nox G H0 (defBody st) g):FnOk P w K mg base CX0 (k + 1) f fd ps (dSp K (runD n ar g)) :=
  fn_D F S hn ha fun cdv A outer s H E G H0 hr=>(hbody cdv A outer s H E G H0 hr).out
theorem jfn_F {x qual:Str} {st:Stmt} {f:Addr} {fd:FuncData} {N ps:List Str} {k:Nat} {g:FS} {n ar:Nat} (F:Fun K x qual st f fd) (S:FnScope N ps (defScope st)) (hn:n=N.length) (ha:ar=ps.length)
    (hbody:∀ (cdv:Value) (A:Around) (outer:List Env) (s:Shared) (H:Hp) (E:XK) (G:Addr→Prop) (H0:Hp),Room k (A.deeper (envOfC qual (defScope st) s.heap.objs.size f cdv)) →
      JB (cxOf CX0 P w K mg base N qual (defScope st) f cdv A outer s H E).nox G H0 (defBody st) g):FnOk P w K mg base CX0 (k + 1) f fd ps (fSp K (runF n ar g)) :=
  fn_F F S hn ha fun cdv A outer s H E G H0 hr=>(hbody cdv A outer s H E G H0 hr).out
end
end L2
end
set_option Elab.async false
set_option linter.all false
set_option maxRecDepth 100000
set_option maxHeartbeats 4000000
namespace L2
open PySem
theorem forL_inv {i:Nat} {g:FS} (P:Nat→DE0→Prop):∀ (ds:List D) (e:DE0) (n:Nat),P n e→(∀ (k:Nat) (d:D) (e:DE0),ds[k]?=some d→P (n + k) e→∃ e',g (e.set i (some (.sh d)))=some (.nx,e')∧P (n + k + 1) e') →
    ∃ e',forL i g ds e=some (.nx,e')∧P (n + ds.length) e'
  | [],e,n,h,_=>⟨e,rfl,h⟩
  | d::r,e,n,h,hs=>by
    obtain ⟨e1,h1,p1⟩:=hs 0 d e rfl h
    obtain ⟨e2,h2,p2⟩:=forL_inv P r e1 (n + 1) p1 fun k d' e' hk hp=>by
      have:=hs (k + 1) d' e' (by simpa using hk) (by rw [← Nat.add_assoc,Nat.add_right_comm]; exact hp)
      rw [show n + (k + 1) + 1=n + 1 + k + 1 by omega] at this
      exact this
    refine ⟨e2,?_,by rw [List.length_cons,show n + (r.length + 1)=n + 1 + r.length by omega]; exact p2⟩
    simp only [forL,h1,Option.bind_some,h2]
theorem forL_inv0 {i:Nat} {g:FS} (P:Nat→DE0→Prop) (ds:List D) (e:DE0) (h:P 0 e) (hs:∀ (k:Nat) (d:D) (e:DE0),ds[k]?=some d→P k e→∃ e',g (e.set i (some (.sh d)))=some (.nx,e')∧P (k + 1) e') :
    ∃ e',forL i g ds e=some (.nx,e')∧P ds.length e':=by
  obtain ⟨e',h1,h2⟩:=forL_inv P ds e 0 h fun k d e hk hp=>by
    obtain ⟨e',q1,q2⟩:=hs k d e hk (by simpa using hp)
    exact ⟨e',q1,by simpa using q2⟩
  exact ⟨e',h1,by simpa using h2⟩
theorem rngD_get {lo:Int} {n k:Nat} {d:D} (h:(rngD lo n)[k]?=some d):d=.int (lo + k)∧k < n:=by
  unfold rngD at h
  rw [List.getElem?_map] at h
  by_cases hk:k < n
  · rw [List.getElem?_range hk] at h
    exact ⟨(Option.some.inj h).symm,hk⟩
  · rw [List.getElem?_eq_none (by simpa using hk)] at h; cases h
theorem rngD_length {lo:Int} {n:Nat}:(rngD lo n).length=n:=by simp [rngD]
theorem small_of {i:Int} (h:-1000000000000 < i∧i < 1000000000000):Small i:=⟨by omega,by omega⟩
theorem atI_ok {α:Type} {xs:List α} {i:Int} (h0:0≤i) (h1:i < xs.length):∃ x,atI xs i=some x∧xs[i.toNat]?=some x:=by
  have hl:i.toNat < xs.length:=by omega
  exact ⟨xs[i.toNat],by unfold atI ixN; rw [if_pos h0,if_pos h1]; simp [hl],by simp [hl]⟩
theorem sSeq_assoc (a b c:FS):sSeq (sSeq a b) c=sSeq a (sSeq b c):=by
  funext e
  simp only [sSeq]
  cases a e with
  | none=>rfl
  | some r=>obtain ⟨fl,e1⟩:=r; cases fl <;> rfl
theorem runD_rt {n ar:Nat} {g:FS} {ds:List D} {d:D} {e':DE0} (h:ds.length=ar) (hg:g (dStart n ds)=some (.rt d,e')):runD n ar g ds=some d:=by
  unfold runD
  rw [if_pos h,hg]
theorem few {n:Nat} (h:n≤1000000):Few n:=Nat.le_trans h (by decide)
theorem iR1_ok (n:Nat) (hn:n≤1000000):iR1 [.int n]=some (rngD 0 n):=by
  unfold iR1
  dsimp only
  rw [if_pos (show Bnd _ _ _ from ⟨by omega,by omega⟩),Int.toNat_natCast]
theorem dMul_r {i j:Int} (h:Small j):dMul (.int i) (.int j)=some (.int (i * j)):=by
  unfold dMul; dsimp only; rw [if_pos (.inr h)]
theorem dMul_l {i j:Int} (h:Small i):dMul (.int i) (.int j)=some (.int (i * j)):=by
  unfold dMul; dsimp only; rw [if_pos (.inl h)]
end L2
namespace L2
open PySem
theorem compL_map {α:Type} {te:FE} {base:DE0} (φ ψ:α→D):∀ (xs:List α),(∀ x∈xs,∃ e',te (some (.sh (φ x))::base)=some (ψ x,e'))→compL fYes te base (xs.map φ)=some (xs.map ψ)
  | [],_=>rfl
  | x::xs,h=>by
    obtain ⟨e',he⟩:=h x List.mem_cons_self
    have ih:=compL_map φ ψ xs fun y hy=>h y (List.mem_cons_of_mem _ hy)
    simp only [List.map_cons,compL,fYes,Option.bind_some,if_true,he,ih,Option.map_some]
theorem compL2_map {α:Type} {te:FA} {base:DE0} (φ:α→D) (ψ:α→List D):∀ (xs:List α),(∀ x∈xs,∃ e',te (some (.sh (φ x))::base)=some (ψ x,e'))→compL2 te base (xs.map φ)=some (xs.map ψ)
  | [],_=>rfl
  | x::xs,h=>by
    obtain ⟨e',he⟩:=h x List.mem_cons_self
    have ih:=compL2_map φ ψ xs fun y hy=>h y (List.mem_cons_of_mem _ hy)
    simp only [List.map_cons,compL2,he,Option.bind_some,ih,Option.map_some]
theorem perm_erase {α:Type}:∀ {l:List α} {n:Nat} {z:α},l[n]?=some z→l.Perm (z::l.eraseIdx n)
  | [],_,_,h=>by simp at h
  | a::l,0,z,h=>by simp at h; subst h; exact .refl _
  | a::l,n + 1,z,h=>by
    have ih:=perm_erase (l:=l) (n:=n) (z:=z) (by simpa using h)
    rw [List.eraseIdx_cons_succ]
    exact (ih.cons a).trans (List.Perm.swap z a _)
theorem perm_set {α:Type}:∀ {l:List (List α)} {j:Nat} {s:List α} {x:α},l[j]?=some s→(l.set j (s++[x])).flatten.Perm (x::l.flatten)
  | [],_,_,_,h=>by simp at h
  | a::l,0,s,x,h=>by
    simp at h; subst h
    simp only [List.set_cons_zero,List.flatten_cons,List.append_assoc,List.singleton_append]
    exact List.perm_middle
  | a::l,j + 1,s,x,h=>by
    have ih:=perm_set (l:=l) (j:=j) (s:=s) (x:=x) (by simpa using h)
    simp only [List.set_cons_succ,List.flatten_cons]
    exact (ih.append_left a).trans List.perm_middle
theorem rngL_eq (i j:Int):(rngL i j)=(List.range (j - i).toNat).map fun (k:Nat)=>i + (k:Int):=rfl
theorem at3_0 (a b c:D):atI [a,b,c] 0=some a:=rfl
theorem at3_1 (a b c:D):atI [a,b,c] 1=some b:=rfl
theorem at3_2 (a b c:D):atI [a,b,c] 2=some c:=rfl
theorem at4_2 (a b c d:D):atI [a,b,c,d] 2=some c:=rfl
theorem at4_3 (a b c d:D):atI [a,b,c,d] 3=some d:=rfl
end L2
namespace L2
open PySem
theorem forL_mapA {α:Type} {i:Nat} {g:FS} (φ:α→D) (P:List α→DE0→Prop) (all:List α) (hs:∀ (p:List α) (x:α) (q:List α) (e:DE0),all=p++x::q→P p e→∃ e',g (e.set i (some (.sh (φ x))))=some (.nx,e')∧P (p++[x]) e') :
    ∀ (xs pre:List α) (e:DE0),all=pre++xs→P pre e→∃ e',forL i g (xs.map φ) e=some (.nx,e')∧P all e'
  | [],pre,e,h,hp=>⟨e,rfl,by rw [h,List.append_nil]; exact hp⟩
  | x::xs,pre,e,h,hp=>by
    obtain ⟨e1,h1,p1⟩:=hs pre x xs e h hp
    obtain ⟨e2,h2,p2⟩:=forL_mapA φ P all hs xs (pre++[x]) e1 (by rw [h]; simp) p1
    exact ⟨e2,by simp only [List.map_cons,forL,h1,Option.bind_some,h2],p2⟩
theorem forL_map {α:Type} {i:Nat} {g:FS} (φ:α→D) (P:List α→DE0→Prop) (all:List α) (e:DE0) (h0:P [] e) (hs:∀ (p:List α) (x:α) (q:List α) (e:DE0),all=p++x::q→P p e→∃ e',g (e.set i (some (.sh (φ x))))=some (.nx,e')∧P (p++[x]) e') :
    ∃ e',forL i g (all.map φ) e=some (.nx,e')∧P all e':=forL_mapA φ P all hs all [] e rfl h0
theorem runD_rt' {n ar:Nat} {g:FS} {ds:List D} {d:D} (h:ds.length=ar) (hg:∃ e',g (dStart n ds)=some (.rt d,e')):runD n ar g ds=some d:=by
  obtain ⟨e',hg⟩:=hg
  exact runD_rt h hg
end L2
set_option linter.all false
set_option maxRecDepth 100000
noncomputable section
namespace LB
open PySem L2
def s_share_gap:FS:=sRet (fBin dSub (fBin dMul (fIxV 0 (fC (.int 1))) (fIxV 1 (fC (.int 0)))) (fBin dMul (fIxV 1 (fC (.int 1))) (fIxV 0 (fC (.int 0)))))
def m_share_gap:List D→Option D:=runD 2 2 s_share_gap
def s_share_sign:FS:=sSeq (sSet 2 (fCall m_share_gap (fCons (fVar 0) (fCons (fVar 1) (fNil))))) (sSeq (sIf (fTst (fBin dGt (fVar 2) (fC (.int 0)))) (sRet (fC (.int 1))) (sNil)) (sSeq (sIf (fTst (fBin dLt (fVar 2) (fC (.int 0)))) (sRet (fUn dNeg (fC (.int 1)))) (sNil)) (sRet (fC (.int 0)))))
def m_share_sign:List D→Option D:=runD 3 2 s_share_sign
def s__law_whole:FS:=sRet (fAndV (fIsi "int" (fVar 0)) (fNotV (fIsi "bool" (fVar 0))))
def m__law_whole:List D→Option D:=runD 1 1 s__law_whole
def s__law_at:FS:=sSeq (sIf (fTst (fBin dLt (fVar 1) (fLenV 0))) (sRet (fIxV 0 (fVar 1))) (sNil)) (sRet (fC (.int 0)))
def m__law_at:List D→Option D:=runD 2 2 s__law_at
def b__law_draws_0:FS:=sSeq (sSet 5 (fCall m__law_at (fCons (fVar 0) (fCons (fVar 4) (fNil))))) (sSeq (sIf (fTst (fBin dEq (fBin dMod (fLenV 0) (fC (.int 2))) (fC (.int 1)))) (sSeq (sSet 3 (fBin dMod (fBin dAddI (fBin dAddI (fBin dAddI (fBin dMul (fVar 3) (fC (.int 48271))) (fVar 5)) (fVar 4)) (fC (.int 1))) (fC (.int 2147483647)))) (sSet 5 (fBin dMod (fBin dMul (fBin dAddI (fVar 3) (fVar 4)) (fC (.int 69621))) (fC (.int 2147483647))))) (sNil)) (sDrop (fAppend 2 (fVar 5))))
def s__law_draws:FS:=sSeq (sOwn 2 (fDisp (fNil))) (sSeq (sSet 3 (fC (.int 7))) (sSeq (sFor 4 (fCallF iR1 (fCons (fVar 1) (fNil))) (b__law_draws_0)) (sRet (fVar 2))))
def m__law_draws:List D→Option D:=runD 6 2 s__law_draws
def s_sack_hours:FS:=sRet (fIxV 0 (fC (.int 1)))
def m_sack_hours:List D→Option D:=runD 1 1 s_sack_hours
def s_sack_loss:FS:=sRet (fIxV 0 (fC (.int 2)))
def m_sack_loss:List D→Option D:=runD 1 1 s_sack_loss
def s_single_block:FS:=sRet (fTup (fCons (fC (.int 1)) (fCons (fCall m_sack_hours (fCons (fVar 0) (fNil))) (fCons (fCall m_sack_loss (fCons (fVar 0) (fNil))) (fNil)))))
def m_single_block:List D→Option D:=runD 1 1 s_single_block
def s_joined_block:FS:=sRet (fTup (fCons (fBin dAddI (fIxV 0 (fC (.int 0))) (fIxV 1 (fC (.int 0)))) (fCons (fBin dAddI (fIxV 0 (fC (.int 1))) (fIxV 1 (fC (.int 1)))) (fCons (fBin dAddI (fIxV 0 (fC (.int 2))) (fIxV 1 (fC (.int 2)))) (fNil)))))
def m_joined_block:List D→Option D:=runD 2 2 s_joined_block
def s_block_share:FS:=sRet (fTup (fCons (fIxV 0 (fC (.int 1))) (fCons (fIxV 0 (fC (.int 2))) (fNil))))
def m_block_share:List D→Option D:=runD 1 1 s_block_share
def s_has_greater_share:FS:=sRet (fBin dGt (fCall m_share_sign (fCons (fCall m_block_share (fCons (fVar 0) (fNil))) (fCons (fCall m_block_share (fCons (fVar 1) (fNil))) (fNil)))) (fC (.int 0)))
def m_has_greater_share:List D→Option D:=runD 2 2 s_has_greater_share
def b_stack_blocks_0:FS:=sSet 3 (fCall m_joined_block (fCons (fPop 1) (fCons (fVar 3) (fNil))))
def b_stack_blocks_1:FS:=sSeq (sSet 3 (fCall m_single_block (fCons (fVar 2) (fNil)))) (sSeq (whileF (fAnd (fTst (fBin dGt (fLenV 1) (fC (.int 0)))) (fNot (fTst (fCall m_has_greater_share (fCons (fIxV 1 (fUn dNeg (fC (.int 1)))) (fCons (fVar 3) (fNil))))))) (b_stack_blocks_0) 10000) (sDrop (fAppend 1 (fVar 3))))
def s_stack_blocks:FS:=sSeq (sOwn 1 (fDisp (fNil))) (sSeq (sFor 2 (fiS (fVar 0)) (b_stack_blocks_1)) (sRet (fVar 1)))
def m_stack_blocks:List D→Option D:=runD 4 1 s_stack_blocks
def s__law_more_below:FS:=sSeq (sIf (fTst (fBin dEq (fLenV 0) (fC (.int 0)))) (sRet (fLst (fDisp (fNil)))) (sNil)) (sSeq (sSet 1 (fIxV 0 (fBin dSub (fLenV 0) (fC (.int 1))))) (sRet (fLst (fCat (fLst (fSl (fVar 0) (fO0) (fO1 (fBin dSub (fLenV 0) (fC (.int 1)))))) (fLst (fDisp (fCons (fTup (fCons (fIxV 1 (fC (.int 0))) (fCons (fIxV 1 (fC (.int 1))) (fCons (fBin dAddI (fIxV 1 (fC (.int 2))) (fC (.int 1))) (fNil))))) (fNil))))))))
def m__law_more_below:List D→Option D:=runD 2 1 s__law_more_below
def b__law_stacks_0:FS:=sSeq (sSet 9 (fIxV 0 (fBin dAddI (fC (.int 1)) (fVar 8)))) (sSeq (sSet 10 (fBin dAddI (fC (.int 1)) (fBin dMod (fVar 9) (fC (.int 60))))) (sSeq (sSet 11 (fBin dMod (fBin dDiv (fVar 9) (fC (.int 60))) (fC (.int 101)))) (sSeq (sIf (fTst (fBin dEq (fVar 4) (fC (.int 1)))) (sSeq (sSet 10 (fBin dAddI (fC (.int 1)) (fBin dMod (fVar 9) (fBin dSub (fC (.int 4)) (fBin dMul (fC (.int 2)) (fVar 5)))))) (sSet 11 (fBin dMod (fBin dDiv (fVar 9) (fC (.int 60))) (fBin dSub (fC (.int 4)) (fBin dMul (fC (.int 2)) (fVar 5)))))) (sNil)) (sSeq (sIf (fTst (fBin dEq (fVar 4) (fC (.int 2)))) (sSeq (sSet 10 (fBin dIx (fLst (fDisp (fCons (fC (.int 1)) (fCons (fC (.int 60)) (fCons (fC (.int 2)) (fCons (fC (.int 59)) (fNil))))))) (fBin dMod (fVar 9) (fC (.int 4))))) (sSet 11 (fBin dIx (fLst (fDisp (fCons (fC (.int 0)) (fCons (fC (.int 100)) (fCons (fC (.int 1)) (fCons (fC (.int 99)) (fNil))))))) (fBin dMod (fBin dDiv (fVar 9) (fC (.int 60))) (fC (.int 4)))))) (sNil)) (sSeq (sIf (fTst (fBin dEq (fVar 4) (fC (.int 3)))) (sSeq (sSet 10 (fBin dIx (fLst (fDisp (fCons (fVar 10) (fCons (fBin dAddI (fC (.int 58)) (fBin dMod (fVar 9) (fC (.int 3)))) (fNil))))) (fVar 5))) (sSet 11 (fVar 10))) (sNil)) (sSeq (sSet 12 (fBin dMod (fBin dIx (fLst (fDisp (fCons (fBin dDiv (fVar 9) (fC (.int 6060))) (fCons (fVar 8) (fNil))))) (fBin dMul (fBin dDiv (fVar 4) (fC (.int 3))) (fVar 5))) (fVar 2))) (sSeq (sSet 13 (fPopAt 7 (fBin dMod (fBin dDiv (fVar 9) (fC (.int 30300))) (fLenV 7)))) (sDrop (fAppend2 6 (fVar 12) (fTup (fCons (fVar 13) (fCons (fVar 10) (fCons (fVar 11) (fNil))))))))))))))
def s__law_stacks:FS:=sSeq (sSet 2 (fBin dIx (fLst (fDisp (fCons (fC (.int 5)) (fCons (fC (.int 3)) (fCons (fC (.int 2)) (fCons (fC (.int 4)) (fCons (fC (.int 1)) (fCons (fC (.int 5)) (fCons (fC (.int 0)) (fCons (fC (.int 4)) (fCons (fC (.int 3)) (fCons (fC (.int 5)) (fCons (fC (.int 2)) (fCons (fC (.int 4)) (fNil))))))))))))))) (fBin dMod (fIxV 0 (fC (.int 0))) (fC (.int 12))))) (sSeq (sSet 3 (fBin dSub (fVar 1) (fBin dMod (fBin dDiv (fIxV 0 (fC (.int 0))) (fC (.int 12))) (fBin dAddI (fVar 1) (fC (.int 1)))))) (sSeq (sSet 4 (fBin dMod (fBin dDiv (fIxV 0 (fC (.int 0))) (fC (.int 180))) (fC (.int 4)))) (sSeq (sSet 5 (fBin dMod (fBin dDiv (fIxV 0 (fC (.int 0))) (fC (.int 720))) (fC (.int 2)))) (sSeq (sOwn2 6 (fComp2 (fCallF iR1 (fCons (fVar 2) (fNil))) [] (fDisp (fNil)))) (sSeq (sOwn 7 (fCallF bRng2 (fCons (fC (.int 1)) (fCons (fC (.int 61)) (fNil))))) (sSeq (sFor 8 (fCallF iR1 (fCons (fBin dMul (fVar 3) (fCall bMin (fCons (fVar 2) (fCons (fC (.int 1)) (fNil))))) (fNil))) (b__law_stacks_0)) (sSeq (sIf (fAnd (fTst (fBin dEq (fVar 4) (fC (.int 3)))) (fTst (fBin dEq (fVar 5) (fC (.int 1))))) (sSet 6 (fLst (fComp (fiS (fVar 6)) [] fYes (fCall m__law_more_below (fCons (fVar 0) (fNil)))))) (sNil)) (sRet (fVar 6)))))))))
def m__law_stacks:List D→Option D:=runD 14 2 s__law_stacks
def b__law_same_row_0:FS:=sSeq (sIf (fAnd (fTst (fIsi "str" (fIxV 1 (fVar 2)))) (fNot (fTst (fIsi "str" (fIxV 0 (fVar 2)))))) (sRet (fC (.bl false))) (sNil)) (sSeq (sIf (fAnd (fNot (fTst (fIsi "str" (fIxV 1 (fVar 2))))) (fNot (fTst (fCall m__law_whole (fCons (fIxV 0 (fVar 2)) (fNil)))))) (sRet (fC (.bl false))) (sNil)) (sIf (fTst (fBin dNe (fIxV 0 (fVar 2)) (fIxV 1 (fVar 2)))) (sRet (fC (.bl false))) (sNil)))
def s__law_same_row:FS:=sSeq (sIf (fOr (fNot (fTst (fIsi "tuple" (fVar 0)))) (fTst (fBin dNe (fLenV 0) (fLenV 1)))) (sRet (fC (.bl false))) (sNil)) (sSeq (sFor 2 (fCallF iR1 (fCons (fLenV 1) (fNil))) (b__law_same_row_0)) (sRet (fC (.bl true))))
def m__law_same_row:List D→Option D:=runD 3 2 s__law_same_row
def b__law_same_rows_0:FS:=sIf (fNot (fTst (fCall m__law_same_row (fCons (fIxV 0 (fVar 2)) (fCons (fIxV 1 (fVar 2)) (fNil)))))) (sRet (fC (.bl false))) (sNil)
def s__law_same_rows:FS:=sSeq (sIf (fOr (fNot (fTst (fIsi "list" (fVar 0)))) (fTst (fBin dNe (fLenV 0) (fLenV 1)))) (sRet (fC (.bl false))) (sNil)) (sSeq (sFor 2 (fCallF iR1 (fCons (fLenV 1) (fNil))) (b__law_same_rows_0)) (sRet (fC (.bl true))))
def m__law_same_rows:List D→Option D:=runD 3 2 s__law_same_rows
def s_turn_share:FS:=sRet (fTup (fCons (fIxV 0 (fC (.int 2))) (fCons (fIxV 0 (fC (.int 3))) (fNil))))
def m_turn_share:List D→Option D:=runD 1 1 s_turn_share
def b_place_of_turn_0:FS:=sSet 2 (fBin dAddI (fVar 2) (fC (.int 1)))
def s_place_of_turn:FS:=sSeq (sSet 2 (fC (.int 0))) (sSeq (whileF (fAnd (fTst (fBin dLt (fVar 2) (fLenV 0))) (fTst (fBin dGe (fCall m_share_sign (fCons (fCall m_turn_share (fCons (fIxV 0 (fVar 2)) (fNil))) (fCons (fCall m_turn_share (fCons (fVar 1) (fNil))) (fNil)))) (fC (.int 0))))) (b_place_of_turn_0) 10000) (sRet (fVar 2)))
def m_place_of_turn:List D→Option D:=runD 3 2 s_place_of_turn
def b_block_turns_0:FS:=sSeq (sSet 7 (fTup (fCons (fVar 2) (fCons (fVar 4) (fCons (fVar 5) (fCons (fVar 6) (fNil))))))) (sDrop (fInsert 1 (fCallA m_place_of_turn (fLend 1 (fCons (fVar 7) (fNil)))) (fVar 7)))
def b_block_turns_1:FS:=sForU [4,5,6] (fiS (fCall m_stack_blocks (fCons (fVar 3) (fNil)))) (b_block_turns_0)
def s_block_turns:FS:=sSeq (sOwn 1 (fDisp (fNil))) (sSeq (sForU [2,3] (fCallF (iEn 1) (fCons (fVar 0) (fNil))) (b_block_turns_1)) (sRet (fVar 1)))
def m_block_turns:List D→Option D:=runD 8 1 s_block_turns
def b__law_same_stacks_0:FS:=sIf (fNot (fTst (fCall m__law_same_rows (fCons (fIxV 0 (fVar 2)) (fCons (fIxV 1 (fVar 2)) (fNil)))))) (sRet (fC (.bl false))) (sNil)
def s__law_same_stacks:FS:=sSeq (sIf (fOr (fNot (fTst (fIsi "list" (fVar 0)))) (fTst (fBin dNe (fLenV 0) (fLenV 1)))) (sRet (fC (.bl false))) (sNil)) (sSeq (sFor 2 (fCallF iR1 (fCons (fLenV 1) (fNil))) (b__law_same_stacks_0)) (sRet (fC (.bl true))))
def m__law_same_stacks:List D→Option D:=runD 3 2 s__law_same_stacks
def s__law_copy:FS:=sRetF (fComp (fiS (fVar 0)) [] fYes (fLst (fCallF bList (fCons (fVar 0) (fNil)))))
def m__law_copy:List D→Option (List D):=runF 1 1 s__law_copy
def b_told_order_0:FS:=sDrop (fExtend 1 (fRep (fDisp (fCons (fVar 2) (fNil))) (fVar 3)))
def s_told_order:FS:=sSeq (sOwn 1 (fDisp (fNil))) (sSeq (sForU [2,3,4,5] (fiS (fCall m_block_turns (fCons (fVar 0) (fNil)))) (b_told_order_0)) (sRetO 1))
def m_told_order:List D→Option (List D):=runF 6 1 s_told_order
def b__law_best_0:FS:=sSeq (sSet 2 (fBin dAddI (fVar 2) (fBin dIx (fIxV 0 (fVar 4)) (fC (.int 1))))) (sSeq (sSet 3 (fBin dAddI (fVar 3) (fBin dIx (fIxV 0 (fVar 4)) (fC (.int 2))))) (sIf (fTst (fBin dGe (fBin dMul (fVar 3) (fIxV 1 (fC (.int 1)))) (fBin dMul (fIxV 1 (fC (.int 2))) (fVar 2)))) (sSet 1 (fLst (fDisp (fCons (fBin dAddI (fVar 4) (fC (.int 1))) (fCons (fVar 2) (fCons (fVar 3) (fNil))))))) (sNil)))
def s__law_best:FS:=sSeq (sSet 1 (fLst (fDisp (fCons (fC (.int 0)) (fCons (fC (.int 1)) (fCons (fUn dNeg (fC (.int 1))) (fNil))))))) (sSeq (sSet 2 (fC (.int 0))) (sSeq (sSet 3 (fC (.int 0))) (sSeq (sFor 4 (fCallF iR1 (fCons (fLenV 0) (fNil))) (b__law_best_0)) (sRet (fVar 1)))))
def m__law_best:List D→Option D:=runD 5 1 s__law_best
def b__law_turns_0:FS:=sIf (fTst (fBin dGt (fBin dMul (fBin dIx (fIxV 3 (fVar 5)) (fC (.int 2))) (fBin dIx (fIxV 3 (fVar 4)) (fC (.int 1)))) (fBin dMul (fBin dIx (fIxV 3 (fVar 4)) (fC (.int 2))) (fBin dIx (fIxV 3 (fVar 5)) (fC (.int 1)))))) (sSet 4 (fVar 5)) (sNil)
def b__law_turns_1:FS:=sSeq (sSet 3 (fLst (fComp (fiV 1) [] fYes (fCall m__law_best (fCons (fVar 0) (fNil)))))) (sSeq (sSet 4 (fC (.int 0))) (sSeq (sFor 5 (fCallF iR1 (fCons (fLenV 3) (fNil))) (b__law_turns_0)) (sSeq (sDrop (fAppend 2 (fTup (fCons (fBin dAddI (fVar 4) (fC (.int 1))) (fCons (fBin dIx (fIxV 3 (fVar 4)) (fC (.int 0))) (fCons (fBin dIx (fIxV 3 (fVar 4)) (fC (.int 1))) (fCons (fBin dIx (fIxV 3 (fVar 4)) (fC (.int 2))) (fNil)))))))) (sSetIt 1 (fVar 4) (fLst (fSl (fIxV 1 (fVar 4)) (fO1 (fBin dIx (fIxV 3 (fVar 4)) (fC (.int 0)))) (fO0)))))))
def s__law_turns:FS:=sSeq (sOwn 1 (fComp (fiS (fVar 0)) [] fYes (fLst (fCallF bList (fCons (fVar 0) (fNil)))))) (sSeq (sOwn 2 (fDisp (fNil))) (sSeq (whileF (fTst (fBin dGt (fCall bSum (fCons (fLst (fComp (fiV 1) [] fYes (fLenV 0))) (fNil))) (fC (.int 0)))) (b__law_turns_1) 10000) (sRet (fVar 2))))
def m__law_turns:List D→Option D:=runD 6 1 s__law_turns
def s_sack_number:FS:=sRet (fIxV 0 (fC (.int 0)))
def m_sack_number:List D→Option D:=runD 1 1 s_sack_number
def s_check_known:FS:=sIf (fOr (fTst (fBin dLt (fVar 1) (fC (.int 1)))) (fTst (fBin dGt (fVar 1) (fLenV 0)))) (sNever) (sNil)
def m_check_known:List D→Option D:=runD 2 2 s_check_known
def b_check_whole_0:FS:=sSeq (sIf (fTst (fBin dEq (fIxV 2 (fBin dSub (fVar 3) (fC (.int 1)))) (fC (.int 0)))) (sNever) (sNil)) (sAugIt 2 dSub (fBin dSub (fVar 3) (fC (.int 1))) (fC (.int 1)))
def s_check_whole:FS:=sSeq (sOwn 2 (fComp (fiS (fVar 0)) [] fYes (fLenV 0))) (sSeq (sFor 3 (fiS (fVar 1)) (b_check_whole_0)) (sIf (fTst (fBin dGt (fSumV 2) (fC (.int 0)))) (sNever) (sNil)))
def m_check_whole:List D→Option D:=runD 4 2 s_check_whole
def b_check_order_0:FS:=sDrop (fCall m_check_known (fCons (fVar 0) (fCons (fVar 2) (fNil))))
def s_check_order:FS:=sSeq (sFor 2 (fiS (fVar 1)) (b_check_order_0)) (sDrop (fCall m_check_whole (fCons (fVar 0) (fCons (fVar 1) (fNil)))))
def m_check_order:List D→Option D:=runD 3 2 s_check_order
def b_taken_sacks_0:FS:=sSeq (sDrop (fAppend 3 (fBin dIx (fIxV 0 (fBin dSub (fVar 4) (fC (.int 1)))) (fIxV 2 (fBin dSub (fVar 4) (fC (.int 1))))))) (sAugIt 2 dAddI (fBin dSub (fVar 4) (fC (.int 1))) (fC (.int 1)))
def s_taken_sacks:FS:=sSeq (sDrop (fCall m_check_order (fCons (fVar 0) (fCons (fVar 1) (fNil))))) (sSeq (sOwn 2 (fComp (fiS (fVar 0)) [] fYes (fC (.int 0)))) (sSeq (sOwn 3 (fDisp (fNil))) (sSeq (sFor 4 (fiS (fVar 1)) (b_taken_sacks_0)) (sRet (fVar 3)))))
def m_taken_sacks:List D→Option D:=runD 5 2 s_taken_sacks
def b_order_cost_0:FS:=sSeq (sSet 3 (fBin dAddI (fVar 3) (fCall m_sack_hours (fCons (fVar 4) (fNil))))) (sSet 2 (fBin dAddI (fVar 2) (fBin dMul (fCall m_sack_loss (fCons (fVar 4) (fNil))) (fVar 3))))
def s_order_cost:FS:=sSeq (sSet 2 (fC (.int 0))) (sSeq (sSet 3 (fC (.int 0))) (sSeq (sFor 4 (fiS (fCall m_taken_sacks (fCons (fVar 0) (fCons (fVar 1) (fNil))))) (b_order_cost_0)) (sRet (fVar 2))))
def m_order_cost:List D→Option D:=runD 5 2 s_order_cost
def b__law_taken_0:FS:=sSeq (sDrop (fAppend 3 (fBin dIx (fIxV 0 (fBin dSub (fVar 4) (fC (.int 1)))) (fIxV 2 (fBin dSub (fVar 4) (fC (.int 1))))))) (sSetIt 2 (fBin dSub (fVar 4) (fC (.int 1))) (fBin dAddI (fIxV 2 (fBin dSub (fVar 4) (fC (.int 1)))) (fC (.int 1))))
def s__law_taken:FS:=sSeq (sOwn 2 (fComp (fiS (fVar 0)) [] fYes (fC (.int 0)))) (sSeq (sOwn 3 (fDisp (fNil))) (sSeq (sFor 4 (fiS (fVar 1)) (b__law_taken_0)) (sRet (fVar 3))))
def m__law_taken:List D→Option D:=runD 5 2 s__law_taken
def s_least_cost:FS:=sRet (fCall m_order_cost (fCons (fVar 0) (fCons (fLst (fCallF m_told_order (fCons (fVar 0) (fNil)))) (fNil))))
def m_least_cost:List D→Option D:=runD 1 1 s_least_cost
def b__law_cost_0:FS:=sSeq (sSet 1 (fBin dAddI (fVar 1) (fIxV 3 (fC (.int 1))))) (sSet 2 (fBin dAddI (fVar 2) (fBin dMul (fIxV 3 (fC (.int 2))) (fVar 1))))
def s__law_cost:FS:=sSeq (sSet 1 (fC (.int 0))) (sSeq (sSet 2 (fC (.int 0))) (sSeq (sFor 3 (fiS (fVar 0)) (b__law_cost_0)) (sRet (fVar 2))))
def m__law_cost:List D→Option D:=runD 4 1 s__law_cost
def b__law_is_order_0:FS:=sSeq (sIf (fOr (fNot (fTst (fCall m__law_whole (fCons (fVar 3) (fNil))))) (fOr (fTst (fBin dLt (fVar 3) (fC (.int 1)))) (fTst (fBin dGt (fVar 3) (fLenV 1))))) (sRet (fC (.bl false))) (sNil)) (sSetIt 2 (fBin dSub (fVar 3) (fC (.int 1))) (fBin dAddI (fIxV 2 (fBin dSub (fVar 3) (fC (.int 1)))) (fC (.int 1))))
def b__law_is_order_1:FS:=sIf (fTst (fBin dNe (fIxV 2 (fVar 4)) (fCall bLen (fCons (fIxV 1 (fVar 4)) (fNil))))) (sRet (fC (.bl false))) (sNil)
def s__law_is_order:FS:=sSeq (sIf (fNot (fTst (fIsi "list" (fVar 0)))) (sRet (fC (.bl false))) (sNil)) (sSeq (sOwn 2 (fComp (fiS (fVar 1)) [] fYes (fC (.int 0)))) (sSeq (sFor 3 (fiS (fVar 0)) (b__law_is_order_0)) (sSeq (sFor 4 (fCallF iR1 (fCons (fLenV 1) (fNil))) (b__law_is_order_1)) (sRet (fC (.bl true))))))
def m__law_is_order:List D→Option D:=runD 5 2 s__law_is_order
def s_sacks_in_all:FS:=sRet (fCall bSum (fCons (fLst (fComp (fiS (fVar 0)) [] fYes (fLenV 0))) (fNil)))
def m_sacks_in_all:List D→Option D:=runD 1 1 s_sacks_in_all
def b_loss_in_all_0:FS:=sSet 1 (fBin dAddI (fVar 1) (fCall bSum (fCons (fLst (fComp (fiS (fVar 2)) [] fYes (fCall m_sack_loss (fCons (fVar 0) (fNil))))) (fNil))))
def s_loss_in_all:FS:=sSeq (sSet 1 (fC (.int 0))) (sSeq (sFor 2 (fiS (fVar 0)) (b_loss_in_all_0)) (sRet (fVar 1)))
def m_loss_in_all:List D→Option D:=runD 3 1 s_loss_in_all
def s_top_sack:FS:=sRet (fBin dIx (fIxV 0 (fBin dSub (fVar 1) (fC (.int 1)))) (fC (.int 0)))
def m_top_sack:List D→Option D:=runD 2 2 s_top_sack
def s_with_stack:FS:=sRet (fLst (fCat (fLst (fCat (fLst (fSl (fVar 0) (fO0) (fO1 (fBin dSub (fVar 1) (fC (.int 1)))))) (fLst (fDisp (fCons (fVar 2) (fNil)))))) (fLst (fSl (fVar 0) (fO1 (fVar 1)) (fO0)))))
def m_with_stack:List D→Option D:=runD 3 3 s_with_stack
def s_without_top:FS:=sRet (fCall m_with_stack (fCons (fVar 0) (fCons (fVar 1) (fCons (fLst (fSl (fIxV 0 (fBin dSub (fVar 1) (fC (.int 1)))) (fO1 (fC (.int 1))) (fO0))) (fNil)))))
def m_without_top:List D→Option D:=runD 2 2 s_without_top
def b_dry_on_0:FS:=sSeq (sSet 5 (fBin dIx (fLst (fCallF m_told_order (fCons (fVar 4) (fNil)))) (fC (.int 0)))) (sSeq (sSet 6 (fCall m_top_sack (fCons (fVar 4) (fCons (fVar 5) (fNil))))) (sSeq (sSet 2 (fBin dAddI (fVar 2) (fCall m_sack_hours (fCons (fVar 6) (fNil))))) (sSeq (sSet 3 (fBin dAddI (fVar 3) (fBin dMul (fCall m_sack_hours (fCons (fVar 6) (fNil))) (fCall m_loss_in_all (fCons (fVar 4) (fNil)))))) (sSeq (sSet 4 (fCall m_without_top (fCons (fVar 4) (fCons (fVar 5) (fNil))))) (sDrop (fAppend 1 (fTup (fCons (fCall m_sack_number (fCons (fVar 6) (fNil))) (fCons (fVar 2) (fCons (fVar 3) (fCons (fCall m_least_cost (fCons (fVar 4) (fNil))) (fNil))))))))))))
def s_dry_on:FS:=sSeq (sOwn 1 (fDisp (fNil))) (sSeq (sSet 2 (fC (.int 0))) (sSeq (sSet 3 (fC (.int 0))) (sSeq (sSet 4 (fVar 0)) (sSeq (whileF (fTst (fBin dGt (fCall m_sacks_in_all (fCons (fVar 4) (fNil))) (fC (.int 0)))) (b_dry_on_0) 10000) (sRet (fVar 1))))))
def m_dry_on:List D→Option D:=runD 7 1 s_dry_on
end LB
end
set_option Elab.async false
set_option linter.all false
set_option maxRecDepth 100000
set_option maxHeartbeats 4000000
namespace LB
open PySem L2
theorem at_ok (ns:List Int) (k:Nat):∃ c,m__law_at [.lst (ns.map D.int),.int k]=some (.int c):=by
  by_cases h:(k:Int) < ns.length
  · obtain ⟨x,h1,h2⟩:=atI_ok (xs:=ns.map D.int) (i:=(k:Int)) (by omega) (by simpa using h)
    rw [List.getElem?_map] at h2
    cases q:ns[(k:Int).toNat]? with
    | none=>rw [q] at h2; cases h2
    | some c =>
      rw [q] at h2; cases h2
      refine ⟨c,?_⟩
      simp [m__law_at,runD,s__law_at,dStart,h,h1]
  · refine ⟨0,?_⟩
    simp [m__law_at,runD,s__law_at,dStart,h]
theorem draws_ok (ns:List Int) (n:Nat) (hn:n≤1000):∃ cs:List Int,cs.length=n∧m__law_draws [.lst (ns.map D.int),.int n]=some (.lst (cs.map D.int)):=by
  have loop:=forL_inv0 (i:=4) (g:=b__law_draws_0)
    (fun k e=>∃ (cs:List Int) (st:Int) (v4 v5:Option Sl),cs.length=k∧e=[some (.sh (.lst (ns.map D.int))),some (.sh (.int n)),some (.ow (cs.map D.int)),some (.sh (.int st)),v4,v5])
    (rngD 0 n) [some (.sh (.lst (ns.map D.int))),some (.sh (.int n)),some (.ow []),some (.sh (.int 7)),none,none] ⟨[],7,none,none,rfl,rfl⟩ ?_
  · obtain ⟨e',h1,cs,st,v4,v5,hl,rfl⟩:=loop
    refine ⟨cs,by rw [hl,rngD_length],?_⟩
    have hb:=iR1_ok n (by omega)
    simp [m__law_draws,runD,s__law_draws,dStart,hb,h1]
  · rintro k d e hd ⟨cs,st,v4,v5,hl,rfl⟩
    obtain ⟨rfl,hk⟩:=rngD_get hd
    obtain ⟨c,hc⟩:=at_ok ns k
    have hcl:Few (cs.length + 1):=few (by omega)
    by_cases hp:(ns.length:Int) % 2=1
    · refine ⟨_,?_,cs++[((st * 48271 + c + k + 1) % 2147483647 + k) * 69621 % 2147483647],(st * 48271 + c + k + 1) % 2147483647,some (.sh (.int (0 + k))),some (.sh (.int (((st * 48271 + c + k + 1) % 2147483647 + k) * 69621 % 2147483647))),by simp [hl],rfl⟩
      have s1:Small 48271:=small_of (by decide)
      have s2:Small 69621:=small_of (by decide)
      simp [b__law_draws_0,hc,hp,dMod,dMul,s1,s2,hcl]
    · refine ⟨_,?_,cs++[c],st,some (.sh (.int (0 + k))),some (.sh (.int c)),by simp [hl],rfl⟩
      simp [b__law_draws_0,hc,hp,dMod,hcl]
theorem gap_ok (a b c d:Int) (hb:Small b) (hd:Small d) :
    m_share_gap [.tup [.int a,.int b],.tup [.int c,.int d]]=some (.int (b * c - d * a)):=by
  simp [m_share_gap,runD,s_share_gap,dStart,dMul,hb,hd,atI,ixN]
theorem share_ok (a b c d:Int) (hb:Small b) (hd:Small d) :
    m_share_sign [.tup [.int a,.int b],.tup [.int c,.int d]]=some (.int (if d * a < b * c then 1 else if b * c < d * a then -1 else 0)):=by
  have hg:=gap_ok a b c d hb hd
  by_cases h1:d * a < b * c
  · have h3:0 < b * c - d * a:=by omega
    simp [m_share_sign,runD,s_share_sign,dStart,hg,h1,h3]
  · have h3:¬ 0 < b * c - d * a:=by omega
    by_cases h2:b * c < d * a
    · have h4:b * c - d * a < 0:=by omega
      simp [m_share_sign,runD,s_share_sign,dStart,hg,h1,h2,h3,h4]
    · have h4:¬ b * c - d * a < 0:=by omega
      simp [m_share_sign,runD,s_share_sign,dStart,hg,h1,h2,h3,h4]
theorem whole_ok (i:Int):m__law_whole [.int i]=some (.bl true):=by
  simp [m__law_whole,runD,s__law_whole,dStart]
end LB
set_option Elab.async false
set_option linter.all false
set_option maxRecDepth 100000
set_option maxHeartbeats 8000000
namespace LB
open PySem L2
abbrev Sk:=Int × Int × Int
def sD (s:Sk):D:=.tup [.int s.1,.int s.2.1,.int s.2.2]
def GoodS (s:Sk):Prop:=1≤s.1∧s.1≤60∧1≤s.2.1∧s.2.1≤60∧0≤s.2.2∧s.2.2≤100
theorem b60:Bnd 1 1073741824 60:=⟨by decide,by decide⟩
theorem b3:Bnd 1 1073741824 3:=⟨by decide,by decide⟩
theorem b12:Bnd 1 1073741824 12:=⟨by decide,by decide⟩
theorem b180:Bnd 1 1073741824 180:=⟨by decide,by decide⟩
theorem b720:Bnd 1 1073741824 720:=⟨by decide,by decide⟩
theorem b6060:Bnd 1 1073741824 6060:=⟨by decide,by decide⟩
theorem b30300:Bnd 1 1073741824 30300:=⟨by decide,by decide⟩
theorem ixN_pos {n:Nat} {i:Int} (h0:0≤i) (h1:i < n):ixN n i=some i.toNat:=by unfold ixN; rw [if_pos h0,if_pos h1]
theorem eraseIdx_mp {α β:Type} (f:α→β):∀ (l:List α) (n:Nat),(l.eraseIdx n).map f=(l.map f).eraseIdx n
  | [],n=>by simp
  | a::l,0=>rfl
  | a::l,n + 1=>by simp only [List.eraseIdx_cons_succ,List.map_cons,eraseIdx_mp f l n]
theorem at4 (a b c d i:Int) (h0:0≤i) (h1:i < 4):∃ x,atI [D.int a,D.int b,D.int c,D.int d] i=some (.int x)∧(x=a∨x=b∨x=c∨x=d):=by
  have:i=0∨i=1∨i=2∨i=3:=by omega
  rcases this with rfl | rfl | rfl | rfl
  · exact ⟨a,rfl,by simp⟩
  · exact ⟨b,rfl,by simp⟩
  · exact ⟨c,rfl,by simp⟩
  · exact ⟨d,rfl,by simp⟩
theorem at12 (i:Int) (h0:0≤i) (h1:i < 12):∃ x:Int,atI [D.int 5,.int 3,.int 2,.int 4,.int 1,.int 5,.int 0,.int 4,.int 3,.int 5,.int 2,.int 4] i=some (.int x)∧0≤x∧x≤5:=by
  have:i=0∨i=1∨i=2∨i=3∨i=4∨i=5∨i=6∨i=7∨i=8∨i=9∨i=10∨i=11:=by omega
  rcases this with rfl | rfl | rfl | rfl | rfl | rfl | rfl | rfl | rfl | rfl | rfl | rfl <;> exact ⟨_,rfl,by decide,by decide⟩
noncomputable def hl:FS:=sSeq (sSet 10 (fBin dAddI (fC (.int 1)) (fBin dMod (fVar 9) (fC (.int 60))))) (sSeq (sSet 11 (fBin dMod (fBin dDiv (fVar 9) (fC (.int 60))) (fC (.int 101)))) (sSeq (sIf (fTst (fBin dEq (fVar 4) (fC (.int 1)))) (sSeq (sSet 10 (fBin dAddI (fC (.int 1)) (fBin dMod (fVar 9) (fBin dSub (fC (.int 4)) (fBin dMul (fC (.int 2)) (fVar 5)))))) (sSet 11 (fBin dMod (fBin dDiv (fVar 9) (fC (.int 60))) (fBin dSub (fC (.int 4)) (fBin dMul (fC (.int 2)) (fVar 5)))))) (sNil)) (sSeq (sIf (fTst (fBin dEq (fVar 4) (fC (.int 2)))) (sSeq (sSet 10 (fBin dIx (fLst (fDisp (fCons (fC (.int 1)) (fCons (fC (.int 60)) (fCons (fC (.int 2)) (fCons (fC (.int 59)) (fNil))))))) (fBin dMod (fVar 9) (fC (.int 4))))) (sSet 11 (fBin dIx (fLst (fDisp (fCons (fC (.int 0)) (fCons (fC (.int 100)) (fCons (fC (.int 1)) (fCons (fC (.int 99)) (fNil))))))) (fBin dMod (fBin dDiv (fVar 9) (fC (.int 60))) (fC (.int 4)))))) (sNil)) (sIf (fTst (fBin dEq (fVar 4) (fC (.int 3)))) (sSeq (sSet 10 (fBin dIx (fLst (fDisp (fCons (fVar 10) (fCons (fBin dAddI (fC (.int 58)) (fBin dMod (fVar 9) (fC (.int 3)))) (fNil))))) (fVar 5))) (sSet 11 (fVar 10))) (sNil)))))
noncomputable def pl:FS:=sSeq (sSet 12 (fBin dMod (fBin dIx (fLst (fDisp (fCons (fBin dDiv (fVar 9) (fC (.int 6060))) (fCons (fVar 8) (fNil))))) (fBin dMul (fBin dDiv (fVar 4) (fC (.int 3))) (fVar 5))) (fVar 2))) (sSeq (sSet 13 (fPopAt 7 (fBin dMod (fBin dDiv (fVar 9) (fC (.int 30300))) (fLenV 7)))) (sDrop (fAppend2 6 (fVar 12) (fTup (fCons (fVar 13) (fCons (fVar 10) (fCons (fVar 11) (fNil))))))))
theorem stacks_body:b__law_stacks_0=sSeq (sSet 9 (fIxV 0 (fBin dAddI (fC (.int 1)) (fVar 8)))) (sSeq hl pl):=by
  unfold hl
  simp only [sSeq_assoc]
  rfl
theorem hl_ok (v0 v1 v2 v3 v6 v7 v8 v10 v11 v12 v13:Option Sl) (menu turn c:Int) (hm:0≤menu∧menu < 4) (ht:0≤turn∧turn < 2) :
    ∃ h l:Int,(1≤h∧h≤60∧0≤l∧l≤100∧(menu=3→l≤60))∧hl [v0,v1,v2,v3,some (.sh (.int menu)),some (.sh (.int turn)),v6,v7,v8,some (.sh (.int c)),v10,v11,v12,v13] =
      some (.nx,[v0,v1,v2,v3,some (.sh (.int menu)),some (.sh (.int turn)),v6,v7,v8,some (.sh (.int c)),some (.sh (.int h)),some (.sh (.int l)),v12,v13]):=by
  have hm':menu=0∨menu=1∨menu=2∨menu=3:=by omega
  have ht':turn=0∨turn=1:=by omega
  have s2:Small 2:=small_of (by decide)
  rcases hm' with rfl | rfl | rfl | rfl
  · refine ⟨1 + c % 60,c / 60 % 101,by omega,?_⟩
    simp [hl,dMod,dDiv,b60]
  · rcases ht' with rfl | rfl
    · refine ⟨1 + c % 4,c / 60 % 4,by omega,?_⟩
      simp [hl,dMod,dDiv,dMul,b60,s2]
    · refine ⟨1 + c % 2,c / 60 % 2,by omega,?_⟩
      simp [hl,dMod,dDiv,dMul,b60,s2]
  · obtain ⟨x,hx,ex⟩:=at4 1 60 2 59 (c % 4) (by omega) (by omega)
    obtain ⟨y,hy,ey⟩:=at4 0 100 1 99 (c / 60 % 4) (by omega) (by omega)
    refine ⟨x,y,by omega,?_⟩
    simp [hl,dMod,dDiv,b60,hx,hy]
  · rcases ht' with rfl | rfl
    · refine ⟨1 + c % 60,1 + c % 60,by omega,?_⟩
      simp [hl,dMod,dDiv,b60,atI,ixN]
    · refine ⟨58 + c % 3,58 + c % 3,by omega,?_⟩
      simp [hl,dMod,dDiv,b60,atI,ixN]
theorem pl_ok (v0 v1 v3 v12 v13:Option Sl) (many menu turn k c h l:Int) (dss:List (List D)) (pool:List Int) (hm:0≤menu∧menu < 4) (ht:0≤turn∧turn < 2) (hmany:0 < many) (hd:(dss.length:Int)=many) (hp:0 < pool.length) (hp2:pool.length≤60) (hds:∀ ds∈dss,ds.length≤1000) :
    ∃ (j n:Nat) (z:Int) (ds:List D) (p:Int),dss[j]?=some ds∧pool[n]?=some z∧pl [v0,v1,some (.sh (.int many)),v3,some (.sh (.int menu)),some (.sh (.int turn)),some (.o2 dss),some (.ow (pool.map D.int)),some (.sh (.int k)),some (.sh (.int c)),some (.sh (.int h)),some (.sh (.int l)),v12,v13] =
      some (.nx,[v0,v1,some (.sh (.int many)),v3,some (.sh (.int menu)),some (.sh (.int turn)),some (.o2 (dss.set j (ds++[sD (z,h,l)]))),some (.ow ((pool.eraseIdx n).map D.int)),some (.sh (.int k)),some (.sh (.int c)),some (.sh (.int h)),some (.sh (.int l)),some (.sh (.int p)),some (.sh (.int z))]):=by
  obtain ⟨q,hq⟩:∃ q:Int,atI [D.int (c / 6060),D.int k] (menu / 3 * turn)=some (.int q):=by
    have:menu / 3 * turn=0∨menu / 3 * turn=1:=by
      have h1:menu / 3=0∨menu / 3=1:=by omega
      have h2:turn=0∨turn=1:=by omega
      rcases h1 with h1 | h1 <;> rcases h2 with h2 | h2 <;> rw [h1,h2] <;> decide
    rcases this with e | e <;> rw [e]
    · exact ⟨_,rfl⟩
    · exact ⟨_,rfl⟩
  have r1:0≤q % many:=Int.emod_nonneg _ (by omega)
  have r2:q % many < many:=Int.emod_lt_of_pos _ hmany
  have hj:ixN dss.length (q % many)=some (q % many).toNat:=ixN_pos r1 (by rw [hd]; exact r2)
  have hjl:(q % many).toNat < dss.length:=by omega
  have hds':dss[(q % many).toNat]?=some dss[(q % many).toNat]:=by simp [hjl]
  have hf1:Few (dss[(q % many).toNat].length + 1):=few (by have:=hds _ (List.getElem_mem hjl); omega)
  have t1:0≤c / 30300 % (pool.length:Int):=Int.emod_nonneg _ (by omega)
  have t2:c / 30300 % (pool.length:Int) < (pool.length:Int):=Int.emod_lt_of_pos _ (by omega)
  have hn:ixN pool.length (c / 30300 % (pool.length:Int))=some (c / 30300 % (pool.length:Int)).toNat:=ixN_pos t1 t2
  have hnl:(c / 30300 % (pool.length:Int)).toNat < pool.length:=by omega
  have hz:pool[(c / 30300 % (pool.length:Int)).toNat]?=some pool[(c / 30300 % (pool.length:Int)).toNat]:=by simp [hnl]
  have hf2:Few pool.length:=few (by omega)
  have sm:Small (menu / 3):=small_of (by omega)
  have hpp:(0:Int) < pool.length:=by omega
  refine ⟨(q % many).toNat,(c / 30300 % (pool.length:Int)).toNat,pool[(c / 30300 % (pool.length:Int)).toNat],dss[(q % many).toNat],q % many,hds',hz,?_⟩
  have er:(pool.eraseIdx (c / 30300 % (pool.length:Int)).toNat).map D.int=(pool.map D.int).eraseIdx (c / 30300 % (pool.length:Int)).toNat:=eraseIdx_mp _ _ _
  simp [pl,dMod,dDiv,dMul,b3,b6060,b30300,sm,hq,hmany,hj,hds',hn,hz,hf1,hf2,hp,fPopAt,popSl,capt,sD,er]
end LB
set_option Elab.async false
set_option linter.all false
set_option maxRecDepth 100000
set_option maxHeartbeats 8000000
namespace LB
open PySem L2
def below (s:List Sk):List Sk:=match s.getLast? with
  | none=>[]
  | some x=>s.dropLast++[(x.1,x.2.1,x.2.2 + 1)]
theorem below_snoc (s:List Sk) (x:Sk):below (s++[x])=s++[(x.1,x.2.1,x.2.2 + 1)]:=by simp [below]
theorem cut_init (s:List D) (x:D):cutD (s++[x]) none (some ((s.length:Int)))=s:=by
  unfold cutD
  rw [HT.sIx_none,HT.sIx_nat]
  simp
theorem more_below_ok (s:List Sk) (hl:s.length≤1000):m__law_more_below [.lst (s.map sD)]=some (.lst ((below s).map sD)):=by
  rcases List.eq_nil_or_concat s with rfl | ⟨t,x,rfl⟩
  · simp [m__law_more_below,runD,s__law_more_below,dStart,below]
  · rw [List.concat_eq_append] at hl ⊢
    rw [below_snoc]
    obtain ⟨n,h,l⟩:=x
    have hlen:(t++[((n,h,l):Sk)]).length=t.length + 1:=by simp
    have ne:¬ ((t.length:Int) + 1=0):=by omega
    have e1:atI (t.map sD++[D.tup [.int n,.int h,.int l]]) ((t.length:Int))=some (.tup [.int n,.int h,.int l]):=by
      unfold atI
      rw [ixN_pos (by omega) (by rw [List.length_append,List.length_map,List.length_singleton]; omega)]
      simp
    have e2:=cut_init (t.map sD) (D.tup [.int n,.int h,.int l])
    rw [List.length_map] at e2
    have e3:Few (t.length + 1):=few (by omega)
    have e4:(t.length:Int) + 1 - 1=t.length:=by omega
    simp [m__law_more_below,runD,s__law_more_below,dStart,ne,e1,e2,e3,e4,sD,at3_0,at3_1,at3_2]
structure SInv (menu:Int) (many k:Nat) (sss:List (List Sk)) (pool:List Int):Prop where
  len:sss.length=many
  tot:sss.flatten.length=k
  good:∀ x∈sss.flatten,GoodS x∧(menu=3→x.2.2≤60)
  perm:(pool++sss.flatten.map (·.1)).Perm (rngL 1 61)
theorem SInv.pool {menu:Int} {many k:Nat} {sss:List (List Sk)} {pool:List Int} (h:SInv menu many k sss pool):pool.length + k=60:=by
  have:=h.perm.length_eq
  rw [List.length_append,List.length_map,h.tot,rngL_length] at this
  exact this
theorem SInv.step {menu:Int} {many k j n:Nat} {sss:List (List Sk)} {pool:List Int} {s:List Sk} {z hh l:Int} (h:SInv menu many k sss pool) (hj:sss[j]?=some s) (hn:pool[n]?=some z) (hb:1≤hh∧hh≤60∧0≤l∧l≤100∧(menu=3→l≤60)) :
    SInv menu many (k + 1) (sss.set j (s++[(z,hh,l)])) (pool.eraseIdx n):=by
  have p1:=perm_set (x:=((z,hh,l):Sk)) hj
  have p2:=perm_erase hn
  have pp:((pool.eraseIdx n)++(sss.set j (s++[(z,hh,l)])).flatten.map (·.1)).Perm (rngL 1 61):=by
    refine .trans (List.Perm.append_left _ (p1.map (·.1))) ?_
    refine .trans ?_ h.perm
    refine .trans ?_ (List.Perm.append_right _ p2.symm)
    simp only [List.map_cons,List.cons_append]
    exact List.perm_middle
  refine ⟨by rw [List.length_set]; exact h.len,by rw [p1.length_eq,List.length_cons,h.tot],fun x hx=>?_,pp⟩
  have hx':=p1.mem_iff.mp hx
  rcases List.mem_cons.mp hx' with rfl | hx'
  · have hz:z∈rngL 1 61:=h.perm.mem_iff.mp (List.mem_append_left _ (List.mem_of_getElem? hn))
    rw [rngL_eq] at hz
    obtain ⟨m,hm,rfl⟩:=List.mem_map.mp hz
    have hm:=List.mem_range.mp hm
    refine ⟨⟨?_,?_,hb.1,hb.2.1,hb.2.2.1,hb.2.2.2.1⟩,hb.2.2.2.2⟩
    · show 1≤1 + (m:Int); omega
    · show 1 + (m:Int)≤60; omega
  · exact h.good x hx'
def ssD (sss:List (List Sk)):List (List D):=sss.map fun s=>s.map sD
theorem ssD_set (sss:List (List Sk)) (j:Nat) (s:List Sk) (x:Sk):(ssD sss).set j (s.map sD++[sD x])=ssD (sss.set j (s++[x])):=by
  unfold ssD
  rw [List.map_set]
  simp
theorem ssD_get {sss:List (List Sk)} {j:Nat} {ds:List D} (h:(ssD sss)[j]?=some ds):∃ s,sss[j]?=some s∧ds=s.map sD:=by
  unfold ssD at h
  rw [List.getElem?_map] at h
  cases q:sss[j]? with
  | none=>rw [q] at h; cases h
  | some s=>rw [q] at h; cases h; exact ⟨s,rfl,rfl⟩
theorem stacks_turn (cs:List Int) (v1 v3 v8 v9 v10 v11 v12 v13:Option Sl) (many:Nat) (menu turn:Int) (k:Nat) (sss:List (List Sk)) (pool:List Int) (hm:0≤menu∧menu < 4) (ht:0≤turn∧turn < 2) (hk:k < 14) (hc:k + 1 < cs.length) (hmany:0 < many) (h:SInv menu many k sss pool) :
    ∃ sss' pool' w9 w10 w11 w12 w13,SInv menu many (k + 1) sss' pool' ∧
      b__law_stacks_0 [some (.sh (.lst (cs.map D.int))),v1,some (.sh (.int many)),v3,some (.sh (.int menu)),some (.sh (.int turn)),some (.o2 (ssD sss)),some (.ow (pool.map D.int)),some (.sh (.int (0 + k))),v9,v10,v11,v12,v13] =
      some (.nx,[some (.sh (.lst (cs.map D.int))),v1,some (.sh (.int many)),v3,some (.sh (.int menu)),some (.sh (.int turn)),some (.o2 (ssD sss')),some (.ow (pool'.map D.int)),some (.sh (.int (0 + k))),w9,w10,w11,w12,w13]):=by
  have hpl:=h.pool
  obtain ⟨c,hat⟩:∃ c:Int,atI (cs.map D.int) (1 + (0 + (k:Int)))=some (.int c):=by
    obtain ⟨x,h1,h2⟩:=atI_ok (xs:=cs.map D.int) (i:=1 + (0 + (k:Int))) (by omega) (by rw [List.length_map]; omega)
    rw [List.getElem?_map] at h2
    cases q:cs[(1 + (0 + (k:Int))).toNat]? with
    | none=>rw [q] at h2; cases h2
    | some c=>rw [q] at h2; cases h2; exact ⟨c,h1⟩
  obtain ⟨hh,l,hb,e1⟩:=hl_ok (some (.sh (.lst (cs.map D.int)))) v1 (some (.sh (.int many))) v3 (some (.o2 (ssD sss))) (some (.ow (pool.map D.int))) (some (.sh (.int (0 + k)))) v10 v11 v12 v13 menu turn c hm ht
  have hds:∀ ds∈ssD sss,ds.length≤1000:=fun ds hd=>by
    obtain ⟨s,hs,rfl⟩:=List.mem_map.mp hd
    rw [List.length_map]
    have:s.length≤sss.flatten.length:=(List.sublist_flatten_of_mem hs).length_le
    rw [h.tot] at this
    omega
  obtain ⟨j,n,z,ds,p,hj,hn,e2⟩:=pl_ok (some (.sh (.lst (cs.map D.int)))) v1 v3 v12 v13 many menu turn (0 + k) c hh l (ssD sss) pool hm ht (by omega) (by rw [ssD,List.length_map,h.len]) (by omega) (by omega) hds
  obtain ⟨s,hs,rfl⟩:=ssD_get hj
  rw [ssD_set] at e2
  refine ⟨_,_,some (.sh (.int c)),some (.sh (.int hh)),some (.sh (.int l)),some (.sh (.int p)),some (.sh (.int z)),h.step hs hn hb,?_⟩
  rw [stacks_body]
  simp only [sSeq,sSet,fIxV,fBin,fC,fVar,dAddI,List.getElem?_cons_zero,List.getElem?_cons_succ,Option.bind_some,Option.map_some,ixSl,hat,List.set_cons_zero,List.set_cons_succ,e1,e2]
structure Stk (most:Nat) (ss:List (List Sk)):Prop where
  many:ss.length≤5
  tot:ss.flatten.length≤most
  good:∀ x∈ss.flatten,GoodS x
  nd:(ss.flatten.map (·.1)).Nodup
theorem rngL_nodup (i j:Int):(rngL i j).Nodup:=by
  rw [rngL_eq]
  exact List.Pairwise.map _ (fun a b h z=>h (by omega)) List.nodup_range
theorem SInv.stk {menu:Int} {many k most:Nat} {sss:List (List Sk)} {pool:List Int} (h:SInv menu many k sss pool) (hm:many≤5) (hk:k≤most):Stk most sss :=
  ⟨by rw [h.len]; exact hm,by rw [h.tot]; exact hk,fun x hx=>(h.good x hx).1,(List.nodup_append.mp (h.perm.nodup_iff.mpr (rngL_nodup 1 61))).2.1⟩
theorem below_fst (s:List Sk):(below s).map (·.1)=s.map (·.1):=by
  rcases List.eq_nil_or_concat s with rfl | ⟨t,x,rfl⟩
  · rfl
  · rw [List.concat_eq_append,below_snoc]; simp
theorem below_good (s:List Sk) (h:∀ x∈s,GoodS x∧x.2.2≤60):∀ x∈below s,GoodS x:=by
  rcases List.eq_nil_or_concat s with rfl | ⟨t,y,rfl⟩
  · intro x hx; exact absurd hx (by simp [below])
  · rw [List.concat_eq_append] at h ⊢
    rw [below_snoc]
    intro x hx
    rcases List.mem_append.mp hx with hx | hx
    · exact (h x (List.mem_append_left _ hx)).1
    · rw [List.mem_singleton.mp hx]
      obtain ⟨⟨a,b,c,d,e,f⟩,g⟩:=h y (by simp)
      exact ⟨a,b,c,d,by show 0≤y.2.2 + 1; omega,by show y.2.2 + 1≤100; omega⟩
theorem flat_fst:∀ (sss:List (List Sk)),(sss.map below).flatten.map (·.1)=sss.flatten.map (·.1)
  | []=>rfl
  | s::r=>by simp only [List.map_cons,List.flatten_cons,List.map_append,below_fst,flat_fst r]
theorem SInv.stkB {many k most:Nat} {sss:List (List Sk)} {pool:List Int} (h:SInv 3 many k sss pool) (hm:many≤5) (hk:k≤most):Stk most (sss.map below):=by
  have h0:=h.stk hm hk
  refine ⟨by rw [List.length_map]; exact h0.many,?_,fun x hx=>?_,by rw [flat_fst]; exact h0.nd⟩
  · have:=congrArg List.length (flat_fst sss)
    simp only [List.length_map] at this
    rw [this]; exact h0.tot
  · obtain ⟨t,ht,hx⟩:=List.mem_flatten.mp hx
    obtain ⟨s,hs,rfl⟩:=List.mem_map.mp ht
    exact below_good s (fun y hy=>by
      obtain ⟨a,b⟩:=h.good y (List.mem_flatten.mpr ⟨s,hs,hy⟩)
      exact ⟨a,b rfl⟩) x hx
end LB
set_option Elab.async false
set_option linter.all false
set_option maxRecDepth 100000
set_option maxHeartbeats 8000000
namespace LB
open PySem L2
theorem bRng2_pool:bRng2 [.int 1,.int 61]=some ((rngL 1 61).map D.int):=by
  unfold bRng2
  dsimp only
  rw [if_pos ⟨⟨by decide,by decide⟩,⟨by decide,by decide⟩,⟨by decide,by decide⟩⟩]
theorem compL2_nil (ds:List D):compL2 (fDisp fNil) [] ds=some (ds.map fun _=>[]):=by
  have:=compL2_map (te:=fDisp fNil) (base:=[]) (fun d:D=>d) (fun _=>([]:List D)) ds fun x _=>⟨_,rfl⟩
  simpa using this
theorem stacks_ok (cs:List Int) (most:Nat) (hm:most≤14) (hl:most + 1≤cs.length):∃ ss,Stk most ss∧m__law_stacks [.lst (cs.map D.int),.int most]=some (.lst ((ssD ss).map D.lst)):=by
  obtain ⟨c0,r,rfl⟩:∃ c0 r,cs=c0::r:=by
    cases cs with
    | nil=>simp at hl
    | cons a r=>exact ⟨a,r,rfl⟩
  have hat0:atI (D.int c0::r.map D.int) 0=some (.int c0):=by
    unfold atI
    rw [ixN_pos (by omega) (by simp only [List.length_cons]; omega)]
    rfl
  obtain ⟨mi,hmi,hm0,hm5⟩:=at12 (c0 % 12) (by omega) (by omega)
  obtain ⟨many,rfl⟩:∃ n:Nat,mi=n:=⟨mi.toNat,by omega⟩
  have hmost:(0:Int) < (most:Int) + 1:=by omega
  have cb1:0≤c0 / 12 % ((most:Int) + 1):=Int.emod_nonneg _ (by omega)
  have cb2:c0 / 12 % ((most:Int) + 1) < (most:Int) + 1:=Int.emod_lt_of_pos _ hmost
  obtain ⟨count,hcount⟩:∃ n:Nat,(most:Int) - c0 / 12 % ((most:Int) + 1)=n:=⟨((most:Int) - c0 / 12 % ((most:Int) + 1)).toNat,by omega⟩
  have hcm:count≤most:=by omega
  have menub:0≤c0 / 180 % 4∧c0 / 180 % 4 < 4:=by omega
  have turnb:0≤c0 / 720 % 2∧c0 / 720 % 2 < 2:=by omega
  generalize hmenu:c0 / 180 % 4=menu at menub
  generalize hturn:c0 / 720 % 2=turn at turnb
  have hi1:=iR1_ok many (by omega)
  have hrep:(rngD 0 many).map (fun _=>([]:List D))=ssD (List.replicate many []):=by
    unfold ssD rngD
    rw [List.map_map,List.map_replicate]
    simp [List.eq_replicate_iff]
  have hfew:Few (rngD 0 many).length:=few (by rw [rngD_length]; omega)
  obtain ⟨N,hN,hNle,hN0⟩:∃ N:Nat,(count:Int) * (if (1:Int) < many then 1 else (many:Int))=N∧N≤most∧(many=0→N=0):=by
    by_cases h1:(1:Int) < many
    · exact ⟨count,by rw [if_pos h1]; omega,hcm,fun z=>by omega⟩
    · rw [if_neg h1]
      have:many=0∨many=1:=by omega
      rcases this with rfl | rfl
      · exact ⟨0,by simp,by omega,fun _=>rfl⟩
      · exact ⟨count,by simp,hcm,fun z=>by omega⟩
  have hi2:=iR1_ok N (by omega)
  have s0:SInv menu many 0 (List.replicate many []) (rngL 1 61):=⟨by simp,by simp,fun x hx=>by simp at hx,by simp⟩
  have loop:=forL_inv0 (i:=8) (g:=b__law_stacks_0)
    (fun k e=>∃ (sss:List (List Sk)) (pool:List Int) (v8 v9 v10 v11 v12 v13:Option Sl),SInv menu many k sss pool ∧
      e=[some (.sh (.lst (D.int c0::r.map D.int))),some (.sh (.int most)),some (.sh (.int many)),some (.sh (.int count)),some (.sh (.int menu)),some (.sh (.int turn)),some (.o2 (ssD sss)),some (.ow (pool.map D.int)),v8,v9,v10,v11,v12,v13])
    (rngD 0 N) _ ⟨List.replicate many [],rngL 1 61,none,none,none,none,none,none,s0,rfl⟩ ?_
  · obtain ⟨e',h1,sss,pool,v8,v9,v10,v11,v12,v13,hs,rfl⟩:=loop
    rw [rngD_length] at hs
    have smc:Small (count:Int):=small_of (by omega)
    by_cases hB:menu=3∧turn=1
    · obtain ⟨rfl,rfl⟩:=hB
      refine ⟨sss.map below,hs.stkB (by omega) hNle,?_⟩
      have hc:=compL_map (te:=fCall m__law_more_below (fCons (fVar 0) fNil)) (base:=[]) (fun s:List Sk=>D.lst (s.map sD)) (fun s:List Sk=>D.lst ((below s).map sD)) sss fun s hs'=>by
        have hsl:s.length≤1000:=by
          have:s.length≤sss.flatten.length:=(List.sublist_flatten_of_mem hs').length_le
          rw [hs.tot] at this
          omega
        exact ⟨_,by simp [more_below_ok s hsl]; rfl⟩
      have hf3:Few sss.length:=few (by rw [hs.len]; omega)
      have hcc:compL fYes (fCall m__law_more_below (fCons (fVar 0) fNil)) [] ((ssD sss).map D.lst)=some ((ssD (sss.map below)).map D.lst):=by
        unfold ssD
        rw [List.map_map,List.map_map,List.map_map]
        exact hc
      have hf4:Few (ssD sss).length:=by unfold ssD; rw [List.length_map]; exact hf3
      refine runD_rt (e':=?_) rfl ?_
      rotate_left
      · show s__law_stacks [some (.sh (.lst (D.int c0::r.map D.int))),some (.sh (.int most)),none,none,none,none,none,none,none,none,none,none,none,none]=_
        simp [s__law_stacks,hat0,dMod,dDiv,dMul,b12,b180,b720,hmi,hmost,hmenu,hturn,hcount,hi1,fComp2,hfew,compL2_nil,hrep,bRng2_pool,smc,hN,hi2,h1,fComp,hf4,hcc]
        rfl
    · refine ⟨sss,hs.stk (by omega) hNle,?_⟩
      by_cases h3:menu=3
      · have h4:¬ turn=1:=fun z=>hB ⟨h3,z⟩
        subst h3
        refine runD_rt (e':=?_) rfl ?_
        rotate_left
        · show s__law_stacks [some (.sh (.lst (D.int c0::r.map D.int))),some (.sh (.int most)),none,none,none,none,none,none,none,none,none,none,none,none]=_
          simp [s__law_stacks,hat0,dMod,dDiv,dMul,b12,b180,b720,hmi,hmost,hmenu,hturn,hcount,hi1,fComp2,hfew,compL2_nil,hrep,bRng2_pool,smc,hN,hi2,h1,h4]
          rfl
      · refine runD_rt (e':=?_) rfl ?_
        rotate_left
        · show s__law_stacks [some (.sh (.lst (D.int c0::r.map D.int))),some (.sh (.int most)),none,none,none,none,none,none,none,none,none,none,none,none]=_
          simp [s__law_stacks,hat0,dMod,dDiv,dMul,b12,b180,b720,hmi,hmost,hmenu,hturn,hcount,hi1,fComp2,hfew,compL2_nil,hrep,bRng2_pool,smc,hN,hi2,h1,h3]
          rfl
  · rintro k d e hd ⟨sss,pool,v8,v9,v10,v11,v12,v13,hs,rfl⟩
    obtain ⟨rfl,hk⟩:=rngD_get hd
    have hmp:0 < many:=by
      rcases Nat.eq_zero_or_pos many with z | z
      · have:=hN0 z; omega
      · exact z
    obtain ⟨sss',pool',w9,w10,w11,w12,w13,hs',he⟩:=stacks_turn (c0::r) (some (.sh (.int most))) (some (.sh (.int count))) v8 v9 v10 v11 v12 v13 many menu turn k sss pool menub turnb (by omega) (by omega) hmp hs
    exact ⟨_,he,sss',pool',_,w9,w10,w11,w12,w13,hs',rfl⟩
end LB
set_option Elab.async false
set_option linter.all false
set_option maxRecDepth 100000
set_option maxHeartbeats 8000000
namespace LB
open PySem L2
def iT (xs:List Int):D:=.tup (xs.map D.int)
theorem at_map {α:Type} (f:α→D) {xs:List α} {k:Nat} {x:α} (h:xs[k]?=some x):atI (xs.map f) (k:Int)=some (f x):=by
  have hl:=(List.getElem?_eq_some_iff.mp h).1
  unfold atI
  rw [ixN_pos (by omega) (by rw [List.length_map]; omega)]
  simp [h]
theorem same_row_ok (xs:List Int) (hl:xs.length≤1000):m__law_same_row [iT xs,iT xs]=some (.bl true):=by
  obtain ⟨e',h1,v2,rfl⟩:=forL_inv0 (i:=2) (g:=b__law_same_row_0) (fun k e=>∃ v2,e=[some (.sh (iT xs)),some (.sh (iT xs)),v2]) (rngD 0 xs.length) [some (.sh (iT xs)),some (.sh (iT xs)),none] ⟨none,rfl⟩ (by
    rintro k d e hd ⟨v2,rfl⟩
    obtain ⟨rfl,hk⟩:=rngD_get hd
    have ha:atI (xs.map D.int) (k:Int)=some (.int xs[k]):=at_map D.int (by simp [hk])
    exact ⟨[some (.sh (iT xs)),some (.sh (iT xs)),some (.sh (.int (0 + k)))],by simp [b__law_same_row_0,iT,ha,whole_ok],_,rfl⟩)
  have hi:=iR1_ok xs.length (by omega)
  refine runD_rt (e':=?w) rfl ?h
  rotate_left
  show s__law_same_row [some (.sh (iT xs)),some (.sh (iT xs)),none]=_
  have h1':forL 2 b__law_same_row_0 (rngD 0 xs.length) [some (.sh (.tup (xs.map D.int))),some (.sh (.tup (xs.map D.int))),none]=some (.nx,[some (.sh (.tup (xs.map D.int))),some (.sh (.tup (xs.map D.int))),v2]):=h1
  simp [s__law_same_row,iT,hi,h1']
  rfl
theorem same_rows_ok {α:Type} (f:α→List Int) (xs:List α) (hl:xs.length≤1000) (hr:∀ x∈xs,(f x).length≤1000):m__law_same_rows [.lst (xs.map fun x=>iT (f x)),.lst (xs.map fun x=>iT (f x))]=some (.bl true):=by
  obtain ⟨e',h1,v2,rfl⟩:=forL_inv0 (i:=2) (g:=b__law_same_rows_0) (fun k e=>∃ v2,e=[some (.sh (.lst (xs.map fun x=>iT (f x)))),some (.sh (.lst (xs.map fun x=>iT (f x)))),v2]) (rngD 0 xs.length) [some (.sh (.lst (xs.map fun x=>iT (f x)))),some (.sh (.lst (xs.map fun x=>iT (f x)))),none] ⟨none,rfl⟩ (by
    rintro k d e hd ⟨v2,rfl⟩
    obtain ⟨rfl,hk⟩:=rngD_get hd
    have ha:atI (xs.map fun x=>iT (f x)) (k:Int)=some (iT (f xs[k])):=at_map _ (by simp [hk])
    have hs:=same_row_ok (f xs[k]) (hr _ (List.getElem_mem hk))
    exact ⟨[some (.sh (.lst (xs.map fun x=>iT (f x)))),some (.sh (.lst (xs.map fun x=>iT (f x)))),some (.sh (.int (0 + k)))],by simp [b__law_same_rows_0,ha,hs],_,rfl⟩)
  have hi:=iR1_ok xs.length (by omega)
  refine runD_rt (e':=?w) rfl ?h
  rotate_left
  show s__law_same_rows [some (.sh (.lst (xs.map fun x=>iT (f x)))),some (.sh (.lst (xs.map fun x=>iT (f x)))),none]=_
  simp [s__law_same_rows,hi,h1]
  rfl
end LB
set_option Elab.async false
set_option linter.all false
set_option maxRecDepth 100000
set_option maxHeartbeats 8000000
namespace LB
open PySem L2
abbrev Bk:=Int × Int × Int
def hrs (r:List Sk):Int:=(r.map (·.2.1)).sum
def lss (r:List Sk):Int:=(r.map (·.2.2)).sum
def blk (r:List Sk):Bk:=(r.length,hrs r,lss r)
def jn (u b:Bk):Bk:=(u.1 + b.1,u.2.1 + b.2.1,u.2.2 + b.2.2)
def gt (u b:Bk):Prop:=b.2.2 * u.2.1 < u.2.2 * b.2.1
instance (u b:Bk):Decidable (gt u b):=inferInstanceAs (Decidable (_ < _))
def SmB (b:Bk):Prop:=Small b.2.1∧Small b.2.2
theorem single_ok (s:Sk):m_single_block [sD s]=some (sD (1,s.2.1,s.2.2)):=by
  obtain ⟨n,h,l⟩:=s
  have e1:m_sack_hours [sD (n,h,l)]=some (.int h):=by simp [m_sack_hours,runD,s_sack_hours,dStart,sD,at3_1]
  have e2:m_sack_loss [sD (n,h,l)]=some (.int l):=by simp [m_sack_loss,runD,s_sack_loss,dStart,sD,at3_2]
  simp [m_single_block,runD,s_single_block,dStart,e1,e2]
  rfl
theorem joined_ok (u b:Bk):m_joined_block [sD u,sD b]=some (sD (jn u b)):=by
  obtain ⟨a1,a2,a3⟩:=u
  obtain ⟨b1,b2,b3⟩:=b
  simp [m_joined_block,runD,s_joined_block,dStart,sD,at3_0,at3_1,at3_2,jn]
theorem greater_ok (u b:Bk) (hu:SmB u) (hb:SmB b):m_has_greater_share [sD u,sD b]=some (.bl (decide (gt u b))):=by
  obtain ⟨a1,a2,a3⟩:=u
  obtain ⟨b1,b2,b3⟩:=b
  have e1:∀ x y z:Int,m_block_share [sD (x,y,z)]=some (.tup [.int y,.int z]):=fun x y z=>by simp [m_block_share,runD,s_block_share,dStart,sD,at3_1,at3_2]
  have e2:=share_ok a2 a3 b2 b3 hu.2 hb.2
  by_cases h1:b3 * a2 < a3 * b2
  · rw [if_pos h1] at e2
    simp [m_has_greater_share,runD,s_has_greater_share,dStart,e1,e2,gt,h1]
  · rw [if_neg h1] at e2
    by_cases h2:a3 * b2 < b3 * a2
    · rw [if_pos h2] at e2
      simp [m_has_greater_share,runD,s_has_greater_share,dStart,e1,e2,gt,h1]
    · rw [if_neg h2] at e2
      simp [m_has_greater_share,runD,s_has_greater_share,dStart,e1,e2,gt,h1]
theorem at_last (bs:List D) (x:D):atI (bs++[x]) (-1)=some x:=atI_last bs x
theorem hrs_app (a b:List Sk):hrs (a++b)=hrs a + hrs b:=by simp [hrs]
theorem lss_app (a b:List Sk):lss (a++b)=lss a + lss b:=by simp [lss]
theorem jn_blk (a b:List Sk):jn (blk a) (blk b)=blk (a++b):=by
  simp only [jn,blk,hrs_app,lss_app,List.length_append]
  simp
theorem sum_bd (r:List Sk) (h:∀ x∈r,GoodS x):(r.length:Int)≤hrs r∧hrs r≤60 * r.length∧0≤lss r∧lss r≤100 * r.length:=by
  induction r with
  | nil=>simp [hrs,lss]
  | cons x r ih =>
    obtain ⟨h1,h2,h3,h4⟩:=ih fun y hy=>h y (List.mem_cons_of_mem _ hy)
    obtain ⟨_,_,g1,g2,g3,g4⟩:=h x List.mem_cons_self
    simp only [hrs,lss,List.map_cons,List.sum_cons,List.length_cons] at h1 h2 h3 h4 ⊢
    omega
theorem smB (r:List Sk) (h:∀ x∈r,GoodS x) (hl:r.length≤1000):SmB (blk r):=by
  obtain ⟨h1,h2,h3,h4⟩:=sum_bd r h
  exact ⟨small_of (by show -1000000000000 < hrs r∧hrs r < 1000000000000; omega),small_of (by show -1000000000000 < lss r∧lss r < 1000000000000; omega)⟩
def joinR:List (List Sk)→List Sk→List (List Sk) × List Sk
  | [],b=>([],b)
  | u::r,b=>if gt (blk u) (blk b) then (u::r,b) else joinR r (u++b)
def bD (r:List Sk):D:=sD (blk r)
theorem blocks_body (v0 v2:Option Sl) (bs:List D) (u b:List Sk):b_stack_blocks_0 [v0,some (.ow (bs++[bD u])),v2,some (.sh (bD b))]=some (.nx,[v0,some (.ow bs),v2,some (.sh (bD (u++b)))]):=by
  have e:=joined_ok (blk u) (blk b)
  rw [jn_blk] at e
  simp [b_stack_blocks_0,bD,e]
theorem while_ok (v0 v2:Option Sl):∀ (n:Nat) (rs:List (List Sk)) (b:List Sk),rs.length < n→(∀ r∈rs,∀ x∈r,GoodS x)→(∀ x∈b,GoodS x)→(rs.flatten.length + b.length≤1000) →
    whileF (fAnd (fTst (fBin dGt (fLenV 1) (fC (.int 0)))) (fNot (fTst (fCall m_has_greater_share (fCons (fIxV 1 (fUn dNeg (fC (.int 1)))) (fCons (fVar 3) (fNil))))))) b_stack_blocks_0 n
      [v0,some (.ow (rs.reverse.map bD)),v2,some (.sh (bD b))]=some (.nx,[v0,some (.ow ((joinR rs b).1.reverse.map bD)),v2,some (.sh (bD (joinR rs b).2))])
  | 0,r,b,h,_,_,_=>by omega
  | n + 1,[],b,_,_,_,_=>by simp [whileF,joinR]
  | n + 1,u::r,b,h,hs,hb,hl=>by
    rw [List.flatten_cons,List.length_append] at hl
    have hg:m_has_greater_share [bD u,bD b]=some (.bl (decide (gt (blk u) (blk b)))):=greater_ok (blk u) (blk b) (smB u (hs u (by simp)) (by omega)) (smB b hb (by omega))
    have hp:(0:Int) < (r.length:Int) + 1:=by omega
    have hbd:=blocks_body v0 v2 (r.reverse.map bD) u b
    unfold whileF
    rw [List.reverse_cons,List.map_append,List.map_cons,List.map_nil]
    by_cases h1:gt (blk u) (blk b)
    · simp [joinR,h1,hg,hp,at_last]
    · have ih:=while_ok v0 v2 n r (u++b) (by simpa using h) (fun t ht=>hs t (by simp [ht])) (fun x hx=>by
        rcases List.mem_append.mp hx with hx | hx
        · exact hs u (by simp) x hx
        · exact hb x hx) (by rw [List.length_append]; omega)
      have e1:joinR (u::r) b=joinR r (u++b):=by simp [joinR,h1]
      rw [e1]
      have hc:(fAnd (fTst (fBin dGt (fLenV 1) (fC (.int 0)))) (fNot (fTst (fCall m_has_greater_share (fCons (fIxV 1 (fUn dNeg (fC (.int 1)))) (fCons (fVar 3) (fNil)))))))
          [v0,some (.ow (r.reverse.map bD++[bD u])),v2,some (.sh (bD b))]=some (true,[v0,some (.ow (r.reverse.map bD++[bD u])),v2,some (.sh (bD b))]):=by
        simp [h1,hg,hp,at_last]
      rw [hc,Option.bind_some]
      dsimp only
      rw [if_pos rfl,hbd,Option.bind_some]
      exact ih
structure Good (r:List Sk):Prop where
  ne:r ≠ []
  beg:∀ p,p <+: r→lss p * hrs r≤lss r * hrs p
theorem hrs_nn (r:List Sk) (h:∀ x∈r,GoodS x):0≤hrs r:=by have:=sum_bd r h; omega
theorem hrs_pos (r:List Sk) (h:∀ x∈r,GoodS x) (ne:r ≠ []):0 < hrs r:=by
  have h1:=sum_bd r h
  have:0 < r.length:=List.length_pos_iff.mpr ne
  omega
theorem pre_app {α:Type}:∀ {u b p:List α},p <+: u++b→p <+: u∨∃ t,p=u++t∧t <+: b
  | [],b,p,h=>.inr ⟨p,rfl,h⟩
  | a::u,b,[],h=>.inl List.nil_prefix
  | a::u,b,c::p,h=>by
    rw [List.cons_append,List.cons_prefix_cons] at h
    obtain ⟨rfl,h⟩:=h
    rcases pre_app h with h | ⟨t,rfl,ht⟩
    · exact .inl (by rw [List.cons_prefix_cons]; exact ⟨rfl,h⟩)
    · exact .inr ⟨t,rfl,ht⟩
theorem Good.join {u b:List Sk} (gu:Good u) (gb:Good b) (hu:∀ x∈u,GoodS x) (hb:∀ x∈b,GoodS x) (h:¬ gt (blk u) (blk b)):Good (u++b):=by
  have h':lss u * hrs b≤lss b * hrs u:=Int.not_lt.mp h
  have pu:=hrs_pos u hu gu.ne
  have pb:=hrs_pos b hb gb.ne
  refine ⟨by simp [gu.ne],fun p hp=>?_⟩
  rw [hrs_app,lss_app]
  rcases pre_app hp with hp | ⟨t,rfl,ht⟩
  · -- within u
    have h1:=gu.beg p hp
    have pp:0≤hrs p:=hrs_nn p fun x hx=>hu x (hp.subset hx)
    have a1:lss p * hrs u * (hrs u + hrs b)≤lss u * hrs p * (hrs u + hrs b):=Int.mul_le_mul_of_nonneg_right h1 (by omega)
    have a2:hrs p * (lss u * hrs b)≤hrs p * (lss b * hrs u):=Int.mul_le_mul_of_nonneg_left h' pp
    have a3:lss p * (hrs u + hrs b) * hrs u≤(lss u + lss b) * hrs p * hrs u:=by
      have e1:lss p * (hrs u + hrs b) * hrs u=lss p * hrs u * (hrs u + hrs b):=by rw [Int.mul_assoc,Int.mul_comm (hrs u + hrs b),← Int.mul_assoc]
      have e2:lss u * hrs p * (hrs u + hrs b)=lss u * hrs p * hrs u + hrs p * (lss u * hrs b):=by rw [Int.mul_add,Int.mul_comm (lss u) (hrs p),Int.mul_assoc (hrs p) (lss u) (hrs b)]
      have e3:(lss u + lss b) * hrs p * hrs u=lss u * hrs p * hrs u + hrs p * (lss b * hrs u):=by rw [Int.add_mul,Int.add_mul,Int.mul_comm (lss b) (hrs p),Int.mul_assoc (hrs p) (lss b) (hrs u)]
      omega
    exact Int.le_of_mul_le_mul_right a3 pu
  · -- u and a beginning of b
    rw [hrs_app,lss_app]
    have h1:=gb.beg t ht
    obtain ⟨q,rfl⟩:=ht
    rw [hrs_app,lss_app] at h1 h' ⊢
    rw [hrs_app] at pb
    have nq:0≤hrs q:=hrs_nn q fun x hx=>hb x (List.mem_append_right _ hx)
    have b1:lss t * hrs q≤lss q * hrs t:=by
      have e1:lss t * (hrs t + hrs q)=lss t * hrs t + lss t * hrs q:=Int.mul_add _ _ _
      have e2:(lss t + lss q) * hrs t=lss t * hrs t + lss q * hrs t:=Int.add_mul _ _ _
      omega
    have b2:lss u * (hrs t + hrs q) * hrs q≤(lss t + lss q) * hrs u * hrs q:=Int.mul_le_mul_of_nonneg_right h' nq
    have nu:0≤hrs u:=by omega
    have b3:hrs u * (lss t * hrs q)≤hrs u * (lss q * hrs t):=Int.mul_le_mul_of_nonneg_left b1 nu
    have b4:lss u * hrs q * (hrs t + hrs q)≤lss q * hrs u * (hrs t + hrs q):=by
      have e1:lss u * hrs q * (hrs t + hrs q)=lss u * (hrs t + hrs q) * hrs q:=by rw [Int.mul_assoc,Int.mul_comm (hrs q),← Int.mul_assoc]
      have e2:(lss t + lss q) * hrs u * hrs q=hrs u * (lss t * hrs q) + lss q * hrs u * hrs q:=by rw [Int.add_mul,Int.add_mul,Int.mul_comm (lss t) (hrs u),Int.mul_assoc (hrs u) (lss t) (hrs q)]
      have e3:lss q * hrs u * (hrs t + hrs q)=hrs u * (lss q * hrs t) + lss q * hrs u * hrs q:=by rw [Int.mul_add,Int.mul_comm (lss q) (hrs u),Int.mul_assoc (hrs u) (lss q) (hrs t)]
      omega
    have b5:lss u * hrs q≤lss q * hrs u:=Int.le_of_mul_le_mul_right b4 pb
    simp only [Int.mul_add,Int.add_mul]
    have c1:=Int.mul_comm (lss u) (hrs u)
    omega
def Desc:List (List Sk)→Prop
  | []=>True
  | [_]=>True
  | b::u::r=>gt (blk u) (blk b)∧Desc (u::r)
structure Runs (rs:List (List Sk)) (s:List Sk):Prop where
  flat:rs.reverse.flatten=s
  good:∀ r∈rs,Good r
  desc:Desc rs
theorem joinR_ok:∀ (rs:List (List Sk)) (b:List Sk) (s:List Sk),Runs rs s→Good b→(∀ x∈s++b,GoodS x)→Runs ((joinR rs b).2::(joinR rs b).1) (s++b)
  | [],b,s,h,gb,_=>by
    have:s=[]:=by have:=h.flat; simpa using this.symm
    subst this
    exact ⟨by simp [joinR],fun r hr=>by simp [joinR] at hr; rw [hr]; exact gb,trivial⟩
  | u::r,b,s,h,gb,hx=>by
    have hf:s=r.reverse.flatten++u:=by rw [← h.flat]; simp
    by_cases h1:gt (blk u) (blk b)
    · have e:joinR (u::r) b=(u::r,b):=by simp [joinR,h1]
      rw [e]
      refine ⟨by simp [hf],fun t ht=>?_,h1,h.desc⟩
      rcases List.mem_cons.mp ht with rfl | ht
      · exact gb
      · exact h.good t ht
    · have e:joinR (u::r) b=joinR r (u++b):=by simp [joinR,h1]
      rw [e]
      have hr:Runs r r.reverse.flatten:=⟨rfl,fun t ht=>h.good t (List.mem_cons_of_mem _ ht),by
        have:=h.desc
        cases r with
        | nil=>trivial
        | cons v r=>exact this.2⟩
      have gj:Good (u++b):=(h.good u (by simp)).join gb (fun x hx'=>hx x (by rw [hf]; simp [hx'])) (fun x hx'=>hx x (by simp [hx'])) h1
      have:=joinR_ok r (u++b) r.reverse.flatten hr gj (fun x hx'=>hx x (by rw [hf]; simpa [or_assoc] using hx'))
      rw [hf,List.append_assoc]
      exact this
theorem good_one (x:Sk) (h:GoodS x):Good [x]:=⟨by simp,fun p hp=>by
  have:p=[]∨p=[x]:=by
    obtain ⟨t,ht⟩:=hp
    cases p with
    | nil=>exact .inl rfl
    | cons y q=>simp at ht; simp [ht]
  rcases this with rfl | rfl
  · simp [lss,hrs]
  · exact Int.le_refl _⟩
theorem single_bD (x:Sk):m_single_block [sD x]=some (bD [x]):=by
  rw [single_ok]
  simp [bD,blk,hrs,lss]
theorem blocks_turn (S:D) (rs:List (List Sk)) (s:List Sk) (x:Sk) (v2 v3:Option Sl) (h:Runs rs s) (hg:∀ y∈s++[x],GoodS y) (hl:s.length < 900) :
    ∃ rs' v3',Runs rs' (s++[x])∧b_stack_blocks_1 [some (.sh S),some (.ow (rs.reverse.map bD)),some (.sh (sD x)),v3]=some (.nx,[some (.sh S),some (.ow (rs'.reverse.map bD)),some (.sh (sD x)),v3']):=by
  have hfl:rs.flatten.length=s.length:=by
    rw [← h.flat,List.length_flatten,List.length_flatten,List.map_reverse,List.sum_reverse]
  have hrl:rs.length≤s.length:=by
    rw [← hfl]
    have:∀ (l:List (List Sk)),(∀ r∈l,r ≠ [])→l.length≤l.flatten.length:=fun l=>by
      induction l with
      | nil=>intro _; simp
      | cons a l ih =>
        intro hh
        have:=ih fun r hr=>hh r (List.mem_cons_of_mem _ hr)
        have ha:0 < a.length:=List.length_pos_iff.mpr (hh a List.mem_cons_self)
        rw [List.length_cons,List.flatten_cons,List.length_append]
        omega
    exact this rs fun r hr=>(h.good r hr).ne
  have hw:=while_ok (some (.sh S)) (some (.sh (sD x))) 10000 rs [x] (by omega) (fun r hr y hy=>hg y (by
    rw [← h.flat]
    exact List.mem_append_left _ (List.mem_flatten.mpr ⟨r,by simpa using hr,hy⟩))) (fun y hy=>hg y (by simp at hy; simp [hy])) (by rw [hfl]; simp; omega)
  have hr:=joinR_ok rs [x] s h (good_one x (hg x (by simp))) hg
  refine ⟨_,some (.sh (bD (joinR rs [x]).2)),hr,?_⟩
  have hlen:(joinR rs [x]).1.length≤s.length:=by
    have e:=hr.flat
    have:∀ (l:List (List Sk)),(∀ r∈l,r ≠ [])→l.length≤l.flatten.length:=fun l=>by
      induction l with
      | nil=>intro _; simp
      | cons a l ih =>
        intro hh
        have:=ih fun r hr=>hh r (List.mem_cons_of_mem _ hr)
        have ha:0 < a.length:=List.length_pos_iff.mpr (hh a List.mem_cons_self)
        rw [List.length_cons,List.flatten_cons,List.length_append]
        omega
    have h2:=this _ fun r hr'=>(hr.good r hr').ne
    have h3:(((joinR rs [x]).2::(joinR rs [x]).1).flatten).length=(s++[x]).length:=by
      rw [← e,List.length_flatten,List.length_flatten,List.map_reverse,List.sum_reverse]
    rw [h3] at h2
    simp at h2
    exact h2
  have hf:Few ((joinR rs [x]).1.length + 1):=few (by omega)
  unfold b_stack_blocks_1
  simp only [sSeq,sSet,fCall,fCons,fVar,fNil,List.getElem?_cons_zero,List.getElem?_cons_succ,Option.bind_some,Option.map_some,single_bD,List.set_cons_zero,List.set_cons_succ,hw,sDrop,fAppend,appSl,List.length_map,List.length_reverse,hf,if_true]
  simp
theorem stack_blocks_ok (s:List Sk) (hg:∀ y∈s,GoodS y) (hl:s.length≤14):∃ rs,Runs rs s∧m_stack_blocks [.lst (s.map sD)]=some (.lst (rs.reverse.map bD)):=by
  obtain ⟨e',h1,rs,v2,v3,hr,rfl⟩:=forL_map (i:=2) (g:=b_stack_blocks_1) sD (fun p e=>∃ rs v2 v3,Runs rs p∧e=[some (.sh (.lst (s.map sD))),some (.ow (rs.reverse.map bD)),v2,v3]) s
    [some (.sh (.lst (s.map sD))),some (.ow []),none,none] ⟨[],none,none,⟨rfl,fun r hr=>by simp at hr,trivial⟩,rfl⟩ (by
      rintro p x q e hpq ⟨rs,v2,v3,hr,rfl⟩
      obtain ⟨rs',v3',hr',he⟩:=blocks_turn (.lst (s.map sD)) rs p x v2 v3 hr (fun y hy=>hg y (by
        rw [hpq]
        rcases List.mem_append.mp hy with hy | hy
        · simp [hy]
        · simp at hy; simp [hy])) (by
        have:s.length=p.length + (q.length + 1):=by rw [hpq]; simp
        omega)
      exact ⟨_,he,rs',_,_,hr',rfl⟩)
  refine ⟨rs,hr,?_⟩
  refine runD_rt (e':=[some (.sh (.lst (s.map sD))),some (.sh (.lst (rs.reverse.map bD))),v2,v3]) rfl ?_
  show s_stack_blocks [some (.sh (.lst (s.map sD))),none,none,none]=_
  simp only [s_stack_blocks,sSeq,sOwn,fDisp,fNil,Option.bind_some,Option.map_some,List.length_nil,Nat.zero_le,if_true,List.set_cons_zero,List.set_cons_succ,sFor,fiS,fVar,List.getElem?_cons_zero,List.getElem?_cons_succ,h1,sRet]
end LB
set_option Elab.async false
set_option linter.all false
set_option maxRecDepth 100000
set_option maxHeartbeats 8000000
namespace LB
open PySem L2
theorem bSum_h {α:Type} (f:α→Int) (r:List α):bSum [.lst (r.map fun x=>.int (f x))]=some (.int (r.map f).sum):=by
  have:(r.map fun x=>D.int (f x))=(r.map f).map D.int:=by rw [List.map_map]; rfl
  rw [this]
  show (ints? ((r.map f).map D.int)).map _=_
  rw [ints_of]
  rfl
end LB
set_option Elab.async false
set_option linter.all false
set_option maxRecDepth 100000
set_option maxHeartbeats 8000000
namespace LB
open PySem L2
theorem forU_mapA {α:Type} {ix:List Nat} {g:FS} (vals:α→List D) (P:List α→DE0→Prop) (all:List α) (hl:∀ x∈all,(vals x).length=ix.length)
    (hs:∀ (p:List α) (x:α) (q:List α) (e:DE0),all=p++x::q→P p e→∃ e',g (setAll ix (vals x) e)=some (.nx,e')∧P (p++[x]) e') :
    ∀ (xs pre:List α) (e:DE0),all=pre++xs→P pre e→∃ e',forU ix g (xs.map fun x=>D.tup (vals x)) e=some (.nx,e')∧P all e'
  | [],pre,e,h,hp=>⟨e,rfl,by rw [h,List.append_nil]; exact hp⟩
  | x::xs,pre,e,h,hp=>by
    obtain ⟨e1,h1,p1⟩:=hs pre x xs e h hp
    obtain ⟨e2,h2,p2⟩:=forU_mapA vals P all hl hs xs (pre++[x]) e1 (by rw [h]; simp) p1
    have hx:=hl x (by rw [h]; simp)
    exact ⟨e2,by simp only [List.map_cons,forU,unp,hx,if_true,Option.bind_some,h1,h2],p2⟩
theorem forU_map {α:Type} {ix:List Nat} {g:FS} (vals:α→List D) (P:List α→DE0→Prop) (all:List α) (e:DE0) (h0:P [] e) (hl:∀ x∈all,(vals x).length=ix.length)
    (hs:∀ (p:List α) (x:α) (q:List α) (e:DE0),all=p++x::q→P p e→∃ e',g (setAll ix (vals x) e)=some (.nx,e')∧P (p++[x]) e') :
    ∃ e',forU ix g (all.map fun x=>D.tup (vals x)) e=some (.nx,e')∧P all e':=forU_mapA vals P all hl hs all [] e rfl h0
theorem enumD_map {α:Type} (f:α→D):∀ (xs:List α) (c:Nat),enumD c (xs.map f)=(xs.zipIdx c).map fun p=>D.tup [.int (p.2:Nat),f p.1]
  | [],c=>rfl
  | x::xs,c=>by simp [enumD,List.zipIdx_cons,enumD_map f xs (c + 1)]
theorem gt_asym {u b:Bk} (h:gt u b):¬ gt b u:=fun z=>by
  unfold gt at h z
  omega
theorem gt_ge {n c b:Bk} (hn:0 < n.2.1) (hc:0 < c.2.1) (hb:0 < b.2.1) (h1:gt n c) (h2:¬ gt b c):gt n b:=by
  unfold gt at h1 h2 ⊢
  have h2:b.2.2 * c.2.1≤c.2.2 * b.2.1:=Int.not_lt.mp h2
  have a1:b.2.2 * c.2.1 * n.2.1≤c.2.2 * b.2.1 * n.2.1:=Int.mul_le_mul_of_nonneg_right h2 (by omega)
  have a2:c.2.2 * n.2.1 * b.2.1 < n.2.2 * c.2.1 * b.2.1:=Int.mul_lt_mul_of_pos_right h1 hb
  have a3:b.2.2 * n.2.1 * c.2.1 < n.2.2 * b.2.1 * c.2.1:=by
    have e1:b.2.2 * n.2.1 * c.2.1=b.2.2 * c.2.1 * n.2.1:=Int.mul_right_comm ..
    have e2:n.2.2 * b.2.1 * c.2.1=n.2.2 * c.2.1 * b.2.1:=Int.mul_right_comm ..
    have e3:c.2.2 * b.2.1 * n.2.1=c.2.2 * n.2.1 * b.2.1:=Int.mul_right_comm ..
    omega
  exact Int.lt_of_mul_lt_mul_right a3 (by omega)
theorem ge_gt {n c b:Bk} (hn:0 < n.2.1) (hc:0 < c.2.1) (hb:0 < b.2.1) (h1:¬ gt c n) (h2:gt c b):gt n b:=by
  unfold gt at h1 h2 ⊢
  have h1:c.2.2 * n.2.1≤n.2.2 * c.2.1:=Int.not_lt.mp h1
  have a1:c.2.2 * n.2.1 * b.2.1≤n.2.2 * c.2.1 * b.2.1:=Int.mul_le_mul_of_nonneg_right h1 (by omega)
  have a2:b.2.2 * c.2.1 * n.2.1 < c.2.2 * b.2.1 * n.2.1:=Int.mul_lt_mul_of_pos_right h2 hn
  have a3:b.2.2 * n.2.1 * c.2.1 < n.2.2 * b.2.1 * c.2.1:=by
    have e1:b.2.2 * n.2.1 * c.2.1=b.2.2 * c.2.1 * n.2.1:=Int.mul_right_comm ..
    have e2:n.2.2 * b.2.1 * c.2.1=n.2.2 * c.2.1 * b.2.1:=Int.mul_right_comm ..
    have e3:c.2.2 * b.2.1 * n.2.1=c.2.2 * n.2.1 * b.2.1:=Int.mul_right_comm ..
    omega
  exact Int.lt_of_mul_lt_mul_right a3 (by omega)
theorem ge_ge {n c b:Bk} (hn:0 < n.2.1) (hc:0 < c.2.1) (hb:0 < b.2.1) (h1:¬ gt c n) (h2:¬ gt b c):¬ gt b n:=fun z=>by
  have:=gt_ge (n:=b) (c:=n) (b:=c) hb hn hc z h1
  exact h2 this
abbrev Tn:=Nat × List Sk
def tnD (t:Tn):D:=.tup [.int (t.1:Int),.int (t.2.length:Int),.int (hrs t.2),.int (lss t.2)]
theorem tshare_ok (t:Tn):m_turn_share [tnD t]=some (.tup [.int (hrs t.2),.int (lss t.2)]):=by
  simp [m_turn_share,runD,s_turn_share,dStart,tnD,at4_2,at4_3]
def geT (a b:Tn):Bool:=!decide (gt (blk b.2) (blk a.2))
theorem geT_iff {a b:Tn}:geT a b=true↔¬ gt (blk b.2) (blk a.2):=by simp [geT]
theorem sign_ok (t n:Tn) (ht:SmB (blk t.2)) (hn:SmB (blk n.2)):∃ z:Int,m_share_sign [.tup [.int (hrs t.2),.int (lss t.2)],.tup [.int (hrs n.2),.int (lss n.2)]]=some (.int z)∧decide (0≤z)=geT t n:=by
  refine ⟨_,share_ok _ _ _ _ ht.2 hn.2,?_⟩
  unfold geT gt
  show decide ((0:Int)≤if lss n.2 * hrs t.2 < lss t.2 * hrs n.2 then 1 else if lss t.2 * hrs n.2 < lss n.2 * hrs t.2 then -1 else 0)=!decide (lss t.2 * hrs n.2 < lss n.2 * hrs t.2)
  by_cases h1:lss n.2 * hrs t.2 < lss t.2 * hrs n.2
  · rw [if_pos h1]
    have h2:¬ lss t.2 * hrs n.2 < lss n.2 * hrs t.2:=by omega
    simp [h2]
  · rw [if_neg h1]
    by_cases h2:lss t.2 * hrs n.2 < lss n.2 * hrs t.2
    · simp [h2]
    · simp [h2]
def plc (ts:List Tn) (n:Tn):Nat:=(ts.takeWhile fun t=>geT t n).length
noncomputable def cPlace:FT:=fAnd (fTst (fBin dLt (fVar 2) (fLenV 0))) (fTst (fBin dGe (fCall m_share_sign (fCons (fCall m_turn_share (fCons (fIxV 0 (fVar 2)) (fNil))) (fCons (fCall m_turn_share (fCons (fVar 1) (fNil))) (fNil)))) (fC (.int 0))))
theorem place_while (n:Tn) (hn:SmB (blk n.2)):∀ (suf pre:List Tn) (fuel:Nat),suf.length < fuel→(∀ t∈suf,SmB (blk t.2)) →
    whileF cPlace b_place_of_turn_0 fuel [some (.sh (.lst ((pre++suf).map tnD))),some (.sh (tnD n)),some (.sh (.int (pre.length:Int)))]=some (.nx,[some (.sh (.lst ((pre++suf).map tnD))),some (.sh (tnD n)),some (.sh (.int ((pre.length + plc suf n:Nat):Int)))])
  | _,_,0,h,_=>by omega
  | [],pre,f + 1,h,_=>by
    unfold whileF cPlace
    simp [plc]
  | t::r,pre,f + 1,h,hs=>by
    obtain ⟨z,hz,hd⟩:=sign_ok t n (hs t (by simp)) hn
    have hat:atI ((pre++t::r).map tnD) (pre.length:Int)=some (tnD t):=at_map tnD (by simp)
    have hlt:(pre.length:Int) < ((pre++t::r).map tnD).length:=by simp; omega
    have hc:cPlace [some (.sh (.lst ((pre++t::r).map tnD))),some (.sh (tnD n)),some (.sh (.int (pre.length:Int)))]=some (geT t n,[some (.sh (.lst ((pre++t::r).map tnD))),some (.sh (tnD n)),some (.sh (.int (pre.length:Int)))]):=by
      unfold cPlace
      generalize (pre++t::r).map tnD=L at hat hlt
      simp only [fAnd,fTst,fBin,fVar,fLenV,List.getElem?_cons_zero,List.getElem?_cons_succ,Option.bind_some,Option.map_some,dLt,hlt,decide_true,if_true,fCall,fCons,fNil,fIxV,ixSl,hat,tshare_ok,hz,fC,dGe,hd]
    unfold whileF
    rw [hc,Option.bind_some]
    dsimp only
    cases hg:geT t n with
    | false =>
      rw [if_neg Bool.false_ne_true]
      simp [plc,hg]
    | true =>
      rw [if_pos rfl]
      have hb:b_place_of_turn_0 [some (.sh (.lst ((pre++t::r).map tnD))),some (.sh (tnD n)),some (.sh (.int (pre.length:Int)))]=some (.nx,[some (.sh (.lst ((pre++t::r).map tnD))),some (.sh (tnD n)),some (.sh (.int ((pre++[t]).length:Int)))]):=by
        simp [b_place_of_turn_0]
      rw [hb,Option.bind_some]
      dsimp only
      have ih:=place_while n hn r (pre++[t]) f (by simpa using h) fun t' ht'=>hs t' (by simp [ht'])
      rw [List.append_assoc,List.singleton_append] at ih
      rw [ih]
      have:(pre++[t]).length + plc r n=pre.length + plc (t::r) n:=by simp [plc,hg]; omega
      rw [this]
theorem place_ok (ts:List Tn) (n:Tn) (hn:SmB (blk n.2)) (hs:∀ t∈ts,SmB (blk t.2)) (hl:ts.length < 9000):m_place_of_turn [.lst (ts.map tnD),tnD n]=some (.int (plc ts n:Int)):=by
  have h:=place_while n hn ts [] 10000 (by omega) hs
  simp only [List.nil_append,List.length_nil,Nat.zero_add] at h
  refine runD_rt (e':=[some (.sh (.lst (ts.map tnD))),some (.sh (tnD n)),some (.sh (.int (plc ts n:Int)))]) rfl ?_
  show s_place_of_turn [some (.sh (.lst (ts.map tnD))),some (.sh (tnD n)),none]=_
  have h':whileF cPlace b_place_of_turn_0 10000 [some (.sh (.lst (ts.map tnD))),some (.sh (tnD n)),some (.sh (.int 0))]=_:=h
  unfold cPlace at h'
  simp only [s_place_of_turn,sSeq,sSet,fC,Option.bind_some,Option.map_some,List.set_cons_zero,List.set_cons_succ,h',sRet,fVar,List.getElem?_cons_zero,List.getElem?_cons_succ]
def ins (ts:List Tn) (n:Tn):List Tn:=(ts.takeWhile fun t=>geT t n)++n::ts.dropWhile fun t=>geT t n
theorem ins_eq (ts:List Tn) (n:Tn):(ts.map tnD).take (plc ts n)++tnD n::(ts.map tnD).drop (plc ts n)=(ins ts n).map tnD:=by
  have e:=List.takeWhile_append_dropWhile (p:=fun t=>geT t n) (l:=ts)
  have hk:plc ts n=(ts.takeWhile fun t=>geT t n).length:=rfl
  have h1:ts.take (plc ts n)=ts.takeWhile fun t=>geT t n:=by
    rw [hk]
    generalize (ts.takeWhile fun t=>geT t n)=A at e
    rw [← e]
    exact List.take_left
  have h2:ts.drop (plc ts n)=ts.dropWhile fun t=>geT t n:=by
    rw [hk]
    generalize (ts.takeWhile fun t=>geT t n)=A at e
    conv=>lhs; rw [← e]
    exact List.drop_left
  rw [← List.map_take,← List.map_drop,h1,h2]
  simp [ins]
theorem plc_le (ts:List Tn) (n:Tn):plc ts n≤ts.length:=(List.takeWhile_sublist _).length_le
theorem turns_body (v0 v3 v7:Option Sl) (ts:List Tn) (at':Nat) (r:List Sk) (hn:SmB (blk r)) (hs:∀ t∈ts,SmB (blk t.2)) (hl:ts.length < 9000) :
    b_block_turns_0 [v0,some (.ow (ts.map tnD)),some (.sh (.int (at':Int))),v3,some (.sh (.int (r.length:Int))),some (.sh (.int (hrs r))),some (.sh (.int (lss r))),v7] =
      some (.nx,[v0,some (.ow ((ins ts (at',r)).map tnD)),some (.sh (.int (at':Int))),v3,some (.sh (.int (r.length:Int))),some (.sh (.int (hrs r))),some (.sh (.int (lss r))),some (.sh (tnD (at',r)))]):=by
  have hp:=place_ok ts (at',r) hn hs hl
  have he:=ins_eq ts (at',r)
  have h1:(plc ts (at',r):Int)≤((ts.map tnD).length:Nat):=by rw [List.length_map]; have:=plc_le ts (at',r); omega
  have h2:Few ((ts.map tnD).length + 1):=few (by rw [List.length_map]; omega)
  have ht:D.tup [.int (at':Int),.int (r.length:Int),.int (hrs r),.int (lss r)]=tnD (at',r):=rfl
  have h0:(0:Int)≤(plc ts (at',r):Int):=by omega
  generalize ts.map tnD=L at hp he h1 h2
  simp only [b_block_turns_0,sSeq,sSet,sDrop,fTup,fCons,fNil,fVar,List.getElem?_cons_zero,List.getElem?_cons_succ,Option.bind_some,Option.map_some,List.length_cons,List.length_nil,show (0 + 1 + 1 + 1 + 1≤64)=True by simp,if_true,List.set_cons_zero,List.set_cons_succ,fInsert,fCallA,fLend,ht,hp,atomD,insSl,h0,h1,h2,and_self,Int.toNat_natCast,he]
end LB
set_option Elab.async false
set_option linter.all false
set_option maxRecDepth 100000
set_option maxHeartbeats 8000000
namespace LB
open PySem L2
def bef (a b:Tn):Prop:=gt (blk a.2) (blk b.2)∨(¬ gt (blk b.2) (blk a.2)∧a.1 < b.1)
def ofS (ts:List Tn) (j:Nat):List (List Sk):=(ts.filter fun t=>t.1==j + 1).map (·.2)
structure TurnsOk (ss:List (List Sk)) (ts:List Tn):Prop where
  lo:∀ t∈ts,1≤t.1∧t.1≤ss.length
  good:∀ t∈ts,Good t.2
  part:∀ (j:Nat) (s:List Sk),ss[j]?=some s→(ofS ts j).flatten=s
  srt:ts.Pairwise bef
  perm:(ts.map (·.2)).flatten.Perm ss.flatten
theorem TurnsOk.sk {ss:List (List Sk)} {ts:List Tn} (h:TurnsOk ss ts) (hg:∀ x∈ss.flatten,GoodS x):∀ t∈ts,∀ x∈t.2,GoodS x:=fun t ht x hx =>
  hg x (h.perm.mem_iff.mp (List.mem_flatten.mpr ⟨t.2,List.mem_map.mpr ⟨t,ht,rfl⟩,hx⟩))
theorem TurnsOk.len1 {ss:List (List Sk)} {ts:List Tn} (h:TurnsOk ss ts):∀ t∈ts,t.2.length≤ss.flatten.length:=fun t ht=>by
  rw [← h.perm.length_eq]
  exact (List.sublist_flatten_of_mem (List.mem_map.mpr ⟨t,ht,rfl⟩)).length_le
theorem flat_ge {α:Type}:∀ (l:List (List α)),(∀ r∈l,r ≠ [])→l.length≤l.flatten.length
  | [],_=>by simp
  | a::l,h=>by
    have:=flat_ge l fun r hr=>h r (List.mem_cons_of_mem _ hr)
    have ha:0 < a.length:=List.length_pos_iff.mpr (h a List.mem_cons_self)
    rw [List.length_cons,List.flatten_cons,List.length_append]
    omega
theorem TurnsOk.len {ss:List (List Sk)} {ts:List Tn} (h:TurnsOk ss ts):ts.length≤ss.flatten.length:=by
  have:=flat_ge (ts.map (·.2)) fun r hr=>by
    obtain ⟨t,ht,rfl⟩:=List.mem_map.mp hr
    exact (h.good t ht).ne
  rw [List.length_map,h.perm.length_eq] at this
  exact this
theorem TurnsOk.pos {ss:List (List Sk)} {ts:List Tn} (h:TurnsOk ss ts) (hg:∀ x∈ss.flatten,GoodS x):∀ t∈ts,0 < hrs t.2:=fun t ht=>hrs_pos t.2 (h.sk hg t ht) (h.good t ht).ne
theorem TurnsOk.sm {ss:List (List Sk)} {ts:List Tn} (h:TurnsOk ss ts) (hg:∀ x∈ss.flatten,GoodS x) (hl:ss.flatten.length≤1000):∀ t∈ts,SmB (blk t.2):=fun t ht=>smB t.2 (h.sk hg t ht) (Nat.le_trans (h.len1 t ht) hl)
theorem TurnsOk.more {ss:List (List Sk)} {ts:List Tn} (h:TurnsOk ss ts):TurnsOk (ss++[[]]) ts∧ofS ts ss.length=[]:=by
  have e:ofS ts ss.length=[]:=by
    unfold ofS
    rw [List.filter_eq_nil_iff.mpr fun t ht=>by have:=(h.lo t ht).2; simp; omega]
    rfl
  refine ⟨⟨fun t ht=>⟨(h.lo t ht).1,by have:=(h.lo t ht).2; simp; omega⟩,h.good,fun j s hj=>?_,h.srt,by simpa using h.perm⟩,e⟩
  by_cases hlt:j < ss.length
  · rw [List.getElem?_append_left hlt] at hj
    exact h.part j s hj
  · have:j=ss.length:=by
      have:=(List.getElem?_eq_some_iff.mp hj).1
      simp at this
      omega
    subst this
    simp at hj
    subst hj
    rw [e]; rfl
theorem ins_mem {ts:List Tn} {n t:Tn}:t∈ins ts n↔t∈ts∨t=n:=by
  unfold ins
  have e:=List.takeWhile_append_dropWhile (p:=fun t=>geT t n) (l:=ts)
  have hm:t∈ts↔t∈(ts.takeWhile fun t=>geT t n)∨t∈ts.dropWhile fun t=>geT t n:=by
    conv=>lhs; rw [← e]
    exact List.mem_append
  rw [hm]
  simp only [List.mem_append,List.mem_cons]
  constructor
  · rintro (h | h | h)
    · exact .inl (.inl h)
    · exact .inr h
    · exact .inl (.inr h)
  · rintro ((h | h) | h)
    · exact .inl h
    · exact .inr (.inr h)
    · exact .inr (.inl h)
theorem TurnsOk.ins {ss:List (List Sk)} {ts:List Tn} {pre r:List Sk} {p:List (List Sk)} (h:TurnsOk (ss++[pre]) ts) (hp:ofS ts ss.length=p) (hr:Good r) (hgr:∀ x∈r,GoodS x) (hg:∀ x∈(ss++[pre]).flatten,GoodS x)
    (hd:∀ u∈p,gt (blk u) (blk r)):TurnsOk (ss++[pre++r]) (LB.ins ts (ss.length + 1,r))∧ofS (LB.ins ts (ss.length + 1,r)) ss.length=p++[r]:=by
  have e:=List.takeWhile_append_dropWhile (p:=fun t=>geT t (ss.length + 1,r)) (l:=ts)
  have hA:∀ t∈(ts.takeWhile fun t=>geT t (ss.length + 1,r)),geT t (ss.length + 1,r)=true:=fun t ht=>by
    have:=List.all_takeWhile (p:=fun t=>geT t (ss.length + 1,r)) (l:=ts)
    exact List.all_eq_true.mp this t ht
  have pr:0 < hrs r:=hrs_pos r hgr hr.ne
  have hmem:=@ins_mem ts (ss.length + 1,r)
  have hB0:∀ b0 B',ts.dropWhile (fun t=>geT t (ss.length + 1,r))=b0::B'→gt (blk r) (blk b0.2):=fun b0 B' hb=>by
    have:geT b0 (ss.length + 1,r)=false:=by
      have:=List.head?_dropWhile_not (p:=fun t=>geT t (ss.length + 1,r)) ts
      rw [hb] at this
      simpa using this
    unfold geT at this
    simpa using this
  unfold LB.ins at hmem ⊢
  have srt:=h.srt
  have pos:=h.pos hg
  have ofp:∀ t∈ts,t.1=ss.length + 1→gt (blk t.2) (blk r):=fun t ht e1=>hd t.2 (by
    rw [← hp]
    exact List.mem_map.mpr ⟨t,List.mem_filter.mpr ⟨ht,by simp [e1]⟩,rfl⟩)
  have lo:=h.lo
  have part:=h.part
  have perm:=h.perm
  rw [← e] at srt pos ofp lo part perm hp
  generalize (ts.takeWhile fun t=>geT t (ss.length + 1,r))=A at *
  generalize (ts.dropWhile fun t=>geT t (ss.length + 1,r))=B at *
  have hB:∀ b∈B,gt (blk r) (blk b.2):=fun b hb=>by
    cases B with
    | nil=>simp at hb
    | cons b0 B' =>
      have g0:=hB0 b0 B' rfl
      rcases List.mem_cons.mp hb with rfl | hb'
      · exact g0
      · have sb:=(List.pairwise_append.mp srt).2.1
        have:=(List.pairwise_cons.mp sb).1 b hb'
        have nb:¬ gt (blk b.2) (blk b0.2):=by
          rcases this with z | z
          · exact gt_asym z
          · exact z.1
        exact gt_ge pr (pos b0 (by simp)) (pos b (by simp [hb'])) g0 nb
  have fB:(B.filter fun t=>t.1==ss.length + 1)=[]:=List.filter_eq_nil_iff.mpr fun t ht=>by
    intro z
    exact gt_asym (hB t ht) (ofp t (by simp [ht]) (by simpa using z))
  have of:ofS (A++(ss.length + 1,r)::B) ss.length=p++[r]:=by
    unfold ofS at hp ⊢
    rw [List.filter_append,fB,List.append_nil] at hp
    rw [List.filter_append,List.filter_cons_of_pos (by simp),fB,List.map_append,hp]
    rfl
  have hlen:(ss++[pre]).length=ss.length + 1:=by simp
  refine ⟨⟨fun t ht=>?_,fun t ht=>?_,fun j s hj=>?_,?_,?_⟩,of⟩
  · rcases (hmem.mp ht) with z | z
    · have:=h.lo t z; simp at this ⊢; omega
    · subst z; simp
  · rcases (hmem.mp ht) with z | z
    · exact h.good t z
    · subst z; exact hr
  · by_cases hlt:j < ss.length
    · rw [List.getElem?_append_left hlt] at hj
      have:=part j s (by rw [List.getElem?_append_left hlt]; exact hj)
      rw [← this]
      unfold ofS
      rw [List.filter_append,List.filter_append,List.filter_cons_of_neg (by simp; omega)]
    · have:j=ss.length:=by
        have:=(List.getElem?_eq_some_iff.mp hj).1
        simp at this
        omega
      subst this
      have hs:pre++r=s:=by simpa using hj
      rw [of,← hs]
      have:=part ss.length pre (by simp)
      rw [show ofS (A++B) ss.length=p from hp] at this
      simp [this]
  · have sa:=List.pairwise_append.mp srt
    refine List.pairwise_append.mpr ⟨sa.1,List.pairwise_cons.mpr ⟨fun b hb=>.inl (hB b hb),sa.2.1⟩,fun a ha b hb=>?_⟩
    rcases List.mem_cons.mp hb with rfl | hb
    · have g1:=hA a ha
      by_cases e1:a.1=ss.length + 1
      · exact .inl (ofp a (by simp [ha]) e1)
      · have:=(lo a (by simp [ha])).2
        exact .inr ⟨geT_iff.mp g1,by simp at this ⊢; omega⟩
    · exact sa.2.2 a ha b hb
  · have e1:((A++(ss.length + 1,r)::B).map (·.2)).flatten=(A.map (·.2)).flatten++(r++(B.map (·.2)).flatten):=by simp
    have e2:(ss++[pre++r]).flatten=(ss++[pre]).flatten++r:=by simp
    rw [e1,e2]
    have e3:((A++B).map (·.2)).flatten=(A.map (·.2)).flatten++(B.map (·.2)).flatten:=by simp
    rw [e3] at perm
    refine List.Perm.trans ?_ (perm.append_right r)
    rw [List.append_assoc]
    exact List.Perm.append_left _ List.perm_append_comm
theorem desc_pw:∀ (rs:List (List Sk)),Desc rs→(∀ r∈rs,0 < hrs r)→rs.Pairwise (fun b u=>gt (blk u) (blk b))
  | [],_,_=>.nil
  | [b],_,_=>by simp
  | b::u::r,h,hp=>by
    have ih:=desc_pw (u::r) h.2 fun x hx=>hp x (List.mem_cons_of_mem _ hx)
    refine List.pairwise_cons.mpr ⟨fun x hx=>?_,ih⟩
    rcases List.mem_cons.mp hx with rfl | hx'
    · exact h.1
    · have:=(List.pairwise_cons.mp ih).1 x hx'
      exact gt_ge (hp x (by simp [hx'])) (hp u (by simp)) (hp b (by simp)) this (gt_asym h.1)
theorem turns_inner (S:D) (ss:List (List Sk)) (s:List Sk) (ts:List Tn) (v4 v5 v6 v7:Option Sl) (h:TurnsOk ss ts) (hg:∀ x∈(ss++[s]).flatten,GoodS x) (hl:(ss++[s]).flatten.length≤14) :
    ∃ ts' w4 w5 w6 w7,TurnsOk (ss++[s]) ts'∧b_block_turns_1 [some (.sh S),some (.ow (ts.map tnD)),some (.sh (.int ((ss.length + 1:Nat):Int))),some (.sh (.lst (s.map sD))),v4,v5,v6,v7] =
      some (.nx,[some (.sh S),some (.ow (ts'.map tnD)),some (.sh (.int ((ss.length + 1:Nat):Int))),some (.sh (.lst (s.map sD))),w4,w5,w6,w7]):=by
  have hgs:∀ x∈s,GoodS x:=fun x hx=>hg x (by simp [hx])
  have hls:s.length≤14:=by simp at hl; omega
  obtain ⟨rs,hr,hb⟩:=stack_blocks_ok s hgs hls
  have hfl:=hr.flat
  have hgood:∀ r∈rs.reverse,Good r:=fun r h=>hr.good r (List.mem_reverse.mp h)
  have hgr:∀ r∈rs.reverse,∀ x∈r,GoodS x:=fun r h x hx=>hgs x (by rw [← hfl]; exact List.mem_flatten.mpr ⟨r,h,hx⟩)
  have hpw:rs.reverse.Pairwise (fun u b=>gt (blk u) (blk b)):=by
    rw [List.pairwise_reverse]
    exact desc_pw rs hr.desc fun r h=>hrs_pos r (hgr r (List.mem_reverse.mpr h)) (hr.good r h).ne
  have m0:=h.more
  obtain ⟨e',h1,ts',w4,w5,w6,w7,ok',of',rfl⟩:=forU_map (ix:=[4,5,6]) (g:=b_block_turns_0) (fun r:List Sk=>[D.int (r.length:Int),.int (hrs r),.int (lss r)])
    (fun p e=>∃ ts' w4 w5 w6 w7,TurnsOk (ss++[p.flatten]) ts'∧ofS ts' ss.length=p∧e=[some (.sh S),some (.ow (ts'.map tnD)),some (.sh (.int ((ss.length + 1:Nat):Int))),some (.sh (.lst (s.map sD))),w4,w5,w6,w7]) rs.reverse
    [some (.sh S),some (.ow (ts.map tnD)),some (.sh (.int ((ss.length + 1:Nat):Int))),some (.sh (.lst (s.map sD))),v4,v5,v6,v7] ⟨ts,v4,v5,v6,v7,m0.1,m0.2,rfl⟩ (fun _ _=>rfl) (by
      rintro p r q e hpq ⟨ts',w4,w5,w6,w7,ok,of,rfl⟩
      have hrm:r∈rs.reverse:=by rw [hpq]; simp
      have hsub:∀ x∈(ss++[p.flatten]).flatten,GoodS x:=fun x hx=>by
        rw [List.flatten_append,List.mem_append] at hx
        rcases hx with hx | hx
        · exact hg x (by rw [List.flatten_append]; exact List.mem_append_left _ hx)
        · refine hgs x ?_
          rw [← hfl,hpq,List.flatten_append]
          exact List.mem_append_left _ (by simpa using hx)
      have hps:(ss++[p.flatten]).flatten.length≤14:=by
        have:p.flatten.length≤s.length:=by rw [← hfl,hpq,List.flatten_append,List.length_append]; omega
        rw [List.flatten_append,List.length_append] at hl ⊢
        simp only [List.flatten_cons,List.flatten_nil,List.append_nil] at hl ⊢
        omega
      have hdd:∀ u∈p,gt (blk u) (blk r):=fun u hu=>by
        rw [hpq] at hpw
        exact (List.pairwise_append.mp hpw).2.2 u hu r (by simp)
      obtain ⟨i1,i2⟩:=ok.ins of (hgood r hrm) (hgr r hrm) hsub hdd
      have hrl:r.length≤14:=by
        have:r.length≤rs.reverse.flatten.length:=(List.sublist_flatten_of_mem hrm).length_le
        rw [hfl] at this; omega
      have body:=turns_body (some (.sh S)) (some (.sh (.lst (s.map sD)))) w7 ts' (ss.length + 1) r (smB r (hgr r hrm) (by omega)) (ok.sm hsub (by omega)) (by have:=ok.len; omega)
      exact ⟨_,body,_,_,_,_,_,by simpa using i1,i2,rfl⟩)
  refine ⟨ts',w4,w5,w6,w7,by rw [← hfl]; exact ok',?_⟩
  have h1':forU [4,5,6] b_block_turns_0 (rs.reverse.map bD) [some (.sh S),some (.ow (ts.map tnD)),some (.sh (.int ((ss.length + 1:Nat):Int))),some (.sh (.lst (s.map sD))),v4,v5,v6,v7]=_:=h1
  simp only [b_block_turns_1,sForU,fiS,fCall,fCons,fVar,fNil,List.getElem?_cons_zero,List.getElem?_cons_succ,Option.bind_some,Option.map_some,hb,h1']
def ssL (ss:List (List Sk)):D:=.lst (ss.map fun s=>D.lst (s.map sD))
theorem ssD_L (ss:List (List Sk)):D.lst ((ssD ss).map D.lst)=ssL ss:=by unfold ssL ssD; rw [List.map_map]; rfl
theorem block_turns_ok (ss:List (List Sk)) (hg:∀ x∈ss.flatten,GoodS x) (hl:ss.flatten.length≤14):∃ ts,TurnsOk ss ts∧m_block_turns [ssL ss]=some (.lst (ts.map tnD)):=by
  obtain ⟨e',h1,ts,v2,v3,v4,v5,v6,v7,ok,rfl⟩:=forU_map (ix:=[2,3]) (g:=b_block_turns_1) (fun p:List Sk × Nat=>[D.int (p.2:Int),D.lst (p.1.map sD)])
    (fun p e=>∃ ts v2 v3 v4 v5 v6 v7,TurnsOk (p.map (·.1)) ts∧e=[some (.sh (ssL ss)),some (.ow (ts.map tnD)),v2,v3,v4,v5,v6,v7]) (ss.zipIdx 1)
    [some (.sh (ssL ss)),some (.ow []),none,none,none,none,none,none] ⟨[],none,none,none,none,none,none,⟨by simp,by simp,by simp,.nil,by simp⟩,rfl⟩ (fun _ _=>rfl) (by
      rintro p x q e hpq ⟨ts,v2,v3,v4,v5,v6,v7,ok,rfl⟩
      have hss:ss=p.map (·.1)++x.1::q.map (·.1):=by
        have:=congrArg (List.map (·.1)) hpq
        simpa using this
      have hx2:x.2=(p.map (·.1)).length + 1:=by
        have:(ss.zipIdx 1)[p.length]?=some x:=by rw [hpq]; simp
        rw [List.getElem?_zipIdx] at this
        cases hs:ss[p.length]? with
        | none=>rw [hs] at this; cases this
        | some s =>
          rw [hs] at this
          cases this
          simp; omega
      have hfl:ss.flatten=(p.map (·.1)++[x.1]).flatten++(q.map (·.1)).flatten:=by rw [hss]; simp
      obtain ⟨ts',w4,w5,w6,w7,ok',he⟩:=turns_inner (ssL ss) (p.map (·.1)) x.1 ts v4 v5 v6 v7 ok (fun y hy=>hg y (by rw [hfl]; exact List.mem_append_left _ hy)) (by rw [hfl,List.length_append] at hl; omega)
      rw [← hx2] at he
      exact ⟨_,he,ts',_,_,_,_,_,_,by simpa using ok',rfl⟩)
  refine ⟨ts,by simpa using ok,?_⟩
  refine runD_rt (e':=[some (.sh (ssL ss)),some (.sh (.lst (ts.map tnD))),v2,v3,v4,v5,v6,v7]) rfl ?_
  show s_block_turns [some (.sh (ssL ss)),none,none,none,none,none,none,none]=_
  have he:iEn 1 [ssL ss]=some ((ss.zipIdx 1).map fun p=>D.tup [D.int (p.2:Int),D.lst (p.1.map sD)]):=by
    show some (enumD 1 (ss.map fun s=>D.lst (s.map sD)))=_
    rw [enumD_map]
  simp only [s_block_turns,sSeq,sOwn,fDisp,fNil,Option.bind_some,Option.map_some,List.length_nil,Nat.zero_le,if_true,List.set_cons_zero,List.set_cons_succ,sForU,fCallF,fCons,fVar,List.getElem?_cons_zero,List.getElem?_cons_succ,he,h1,sRet]
end LB
set_option Elab.async false
set_option linter.all false
set_option maxRecDepth 100000
set_option maxHeartbeats 8000000
namespace LB
open PySem L2
def leftOf (n:Nat) (ts:List Tn):List (List Sk):=(List.range n).map fun j=>(ofS ts j).flatten
theorem leftOf_len (n:Nat) (ts:List Tn):(leftOf n ts).length=n:=by simp [leftOf]
theorem leftOf_get {n j:Nat} {ts:List Tn} (h:j < n):(leftOf n ts)[j]?=some ((ofS ts j).flatten):=by simp [leftOf,h]
theorem TurnsOk.left {ss:List (List Sk)} {ts:List Tn} (h:TurnsOk ss ts):leftOf ss.length ts=ss:=by
  apply List.ext_getElem?
  intro j
  by_cases hj:j < ss.length
  · rw [leftOf_get hj,h.part j ss[j] (by simp [hj])]
    simp [hj]
  · rw [List.getElem?_eq_none (by rw [leftOf_len]; omega),List.getElem?_eq_none (by omega)]
theorem ofS_cons_eq (t:Tn) (ts:List Tn) (j:Nat) (h:t.1=j + 1):ofS (t::ts) j=t.2::ofS ts j:=by
  unfold ofS
  rw [List.filter_cons_of_pos (by simp [h])]
  rfl
theorem ofS_cons_ne (t:Tn) (ts:List Tn) (j:Nat) (h:t.1 ≠ j + 1):ofS (t::ts) j=ofS ts j:=by
  unfold ofS
  rw [List.filter_cons_of_neg (by simp [h])]
theorem leftOf_top {n:Nat} {t:Tn} {ts:List Tn} (h1:1≤t.1) (h2:t.1≤n):(leftOf n (t::ts))[t.1 - 1]?=some (t.2++(ofS ts (t.1 - 1)).flatten):=by
  rw [leftOf_get (by omega),ofS_cons_eq t ts (t.1 - 1) (by omega)]
  simp
theorem leftOf_cons {n:Nat} {t:Tn} {ts:List Tn} (h1:1≤t.1) (h2:t.1≤n):leftOf n ts=(leftOf n (t::ts)).set (t.1 - 1) ((ofS ts (t.1 - 1)).flatten):=by
  apply List.ext_getElem?
  intro j
  by_cases hj:j < n
  · rw [List.getElem?_set,leftOf_get hj,leftOf_get hj,leftOf_len]
    by_cases e:t.1 - 1=j
    · subst e
      simp [hj]
    · rw [if_neg e,ofS_cons_ne t ts j (by omega)]
  · rw [List.getElem?_eq_none (by rw [leftOf_len]; omega),List.getElem?_eq_none (by rw [List.length_set,leftOf_len]; omega)]
theorem leftOf_up {n:Nat} {t:Tn} {ts:List Tn} (h1:1≤t.1) (h2:t.1≤n):leftOf n (t::ts)=(leftOf n ts).set (t.1 - 1) (t.2++(ofS ts (t.1 - 1)).flatten):=by
  apply List.ext_getElem?
  intro j
  by_cases hj:j < n
  · rw [List.getElem?_set,leftOf_get hj,leftOf_get hj,leftOf_len]
    by_cases e:t.1 - 1=j
    · subst e
      rw [ofS_cons_eq t ts (t.1 - 1) (by omega)]
      simp [hj]
    · rw [if_neg e,ofS_cons_ne t ts j (by omega)]
  · rw [List.getElem?_eq_none (by rw [leftOf_len]; omega),List.getElem?_eq_none (by rw [List.length_set,leftOf_len]; omega)]
theorem perm_setL {α:Type}:∀ {l:List (List α)} {j:Nat} {s x:List α},l[j]?=some s→(l.set j (x++s)).flatten.Perm (x++l.flatten)
  | [],_,_,_,h=>by simp at h
  | a::l,0,s,x,h=>by
    simp at h; subst h
    simp
  | a::l,j + 1,s,x,h=>by
    have ih:=perm_setL (l:=l) (j:=j) (s:=s) (x:=x) (by simpa using h)
    simp only [List.set_cons_succ,List.flatten_cons]
    refine (ih.append_left a).trans ?_
    rw [← List.append_assoc,← List.append_assoc]
    exact List.perm_append_comm.append_right _
theorem leftOf_perm {n:Nat}:∀ {ts:List Tn},(∀ t∈ts,1≤t.1∧t.1≤n)→(ts.map (·.2)).flatten.Perm (leftOf n ts).flatten
  | [],_=>by
    have:(leftOf n []).flatten=[]:=by simp [leftOf,ofS]
    rw [this]; exact .nil
  | t::ts,h=>by
    have ih:=leftOf_perm (n:=n) (ts:=ts) fun t' ht=>h t' (List.mem_cons_of_mem _ ht)
    obtain ⟨h1,h2⟩:=h t List.mem_cons_self
    rw [leftOf_up h1 h2,List.map_cons,List.flatten_cons]
    exact (ih.append_left t.2).trans (perm_setL (leftOf_get (by omega))).symm
theorem TurnsOk.tail {n:Nat} {t:Tn} {ts:List Tn} (h:TurnsOk (leftOf n (t::ts)) (t::ts)):TurnsOk (leftOf n ts) ts:=by
  have lo:∀ t'∈ts,1≤t'.1∧t'.1≤n:=fun t' ht=>by
    have:=h.lo t' (List.mem_cons_of_mem _ ht)
    rw [leftOf_len] at this
    exact this
  refine ⟨fun t' ht=>by rw [leftOf_len]; exact lo t' ht,fun t' ht=>h.good t' (List.mem_cons_of_mem _ ht),fun j s hj=>?_,(List.pairwise_cons.mp h.srt).2,leftOf_perm lo⟩
  have hl:=(List.getElem?_eq_some_iff.mp hj).1
  rw [leftOf_len] at hl
  rw [leftOf_get hl] at hj
  exact Option.some.inj hj
theorem TurnsOk.drop {n:Nat} {ts:List Tn} (h:TurnsOk (leftOf n ts) ts):∀ k,TurnsOk (leftOf n (ts.drop k)) (ts.drop k)
  | 0=>h
  | k + 1=>by
    have ih:=h.drop k
    by_cases hk:k < ts.length
    · rw [List.drop_eq_getElem_cons hk] at ih
      exact ih.tail
    · rw [List.drop_eq_nil_of_le (by omega)] at ih ⊢
      exact ih
theorem cut_fst (a b:List D):cutD (a++b) none (some (a.length:Int))=a:=by
  unfold cutD
  rw [HT.sIx_none,HT.sIx_nat]
  simp
theorem cut_snd (a b:List D):cutD (a++b) (some (a.length:Int)) none=b:=by
  unfold cutD
  rw [HT.sIx_none,HT.sIx_nat]
  simp
theorem runF_rf {n ar:Nat} {g:FS} {ds rs:List D} {e':DE0} (h:ds.length=ar) (hg:g (dStart n ds)=some (.rf rs,e')):runF n ar g ds=some rs:=by
  unfold runF
  rw [if_pos h,hg]
theorem copy_ok (ss:List (List Sk)) (hl:ss.length≤1000):m__law_copy [ssL ss]=some (ss.map fun s=>D.lst (s.map sD)):=by
  have c:=compL_map (te:=fLst (fCallF bList (fCons (fVar 0) (fNil)))) (base:=[]) (fun s:List Sk=>D.lst (s.map sD)) (fun s:List Sk=>D.lst (s.map sD)) ss fun s _=>⟨_,by simp; rfl⟩
  have hf:Few ss.length:=few (by omega)
  refine runF_rf (e':=[some (.sh (ssL ss))]) rfl ?_
  show s__law_copy [some (.sh (.lst (ss.map fun s:List Sk=>D.lst (s.map sD))))]=_
  simp only [s__law_copy,sRetF,fComp,fiS,fVar,List.getElem?_cons_zero,Option.bind_some,List.length_map,hf,if_true,List.map_nil,c,Option.map_some]
  rfl
theorem same_stacks_ok (ss:List (List Sk)) (hl:ss.length≤1000) (hr:∀ s∈ss,s.length≤1000):m__law_same_stacks [ssL ss,ssL ss]=some (.bl true):=by
  obtain ⟨e',h1,v2,rfl⟩:=forL_inv0 (i:=2) (g:=b__law_same_stacks_0) (fun k e=>∃ v2,e=[some (.sh (ssL ss)),some (.sh (ssL ss)),v2]) (rngD 0 ss.length) [some (.sh (ssL ss)),some (.sh (ssL ss)),none] ⟨none,rfl⟩ (by
    rintro k d e hd ⟨v2,rfl⟩
    obtain ⟨rfl,hk⟩:=rngD_get hd
    have ha:atI (ss.map fun s=>D.lst (s.map sD)) (k:Int)=some (.lst (ss[k].map sD)):=at_map (fun s:List Sk=>D.lst (s.map sD)) (by simp [hk])
    have hs:=same_rows_ok (fun s:Sk=>[s.1,s.2.1,s.2.2]) ss[k] (hr _ (List.getElem_mem hk)) (fun _ _=>by simp)
    have hs':m__law_same_rows [.lst (ss[k].map sD),.lst (ss[k].map sD)]=some (.bl true):=hs
    exact ⟨[some (.sh (ssL ss)),some (.sh (ssL ss)),some (.sh (.int (0 + k)))],by simp [b__law_same_stacks_0,ssL,ha,hs'],_,rfl⟩)
  have hi:=iR1_ok ss.length (by omega)
  refine runD_rt (e':=[some (.sh (ssL ss)),some (.sh (ssL ss)),v2]) rfl ?_
  show s__law_same_stacks [some (.sh (ssL ss)),some (.sh (ssL ss)),none]=_
  unfold ssL at h1 ⊢
  simp [s__law_same_stacks,hi,h1]
end LB
set_option Elab.async false
set_option linter.all false
set_option maxRecDepth 100000
set_option maxHeartbeats 8000000
namespace LB
open PySem L2
def hT:List (List Sk)→Bk
  | []=>(0,1,-1)
  | r::_=>blk r
def kD (b:Bk):D:=.lst [.int b.1,.int b.2.1,.int b.2.2]
theorem gt_add {r b q:List Sk} (h1:gt (blk r) (blk b)) (h2:gt (blk r) (blk q)):gt (blk r) (blk (b++q)):=by
  have h1:lss b * hrs r < lss r * hrs b:=h1
  have h2:lss q * hrs r < lss r * hrs q:=h2
  show lss (b++q) * hrs r < lss r * hrs (b++q)
  rw [lss_app,hrs_app,Int.add_mul,Int.mul_add]
  omega
theorem pre_lt {r:List Sk} (pr:0 < hrs r):∀ (rest:List (List Sk)) (q:List Sk),(∀ b∈rest,gt (blk r) (blk b))→(∀ b∈rest,Good b)→(∀ b∈rest,∀ x∈b,GoodS x)→q <+: rest.flatten→q ≠ []→gt (blk r) (blk q)
  | [],q,_,_,_,hq,ne=>by simp at hq; exact absurd hq ne
  | b::rest,q,hd,hg,hs,hq,ne=>by
    have gb:=hg b (by simp)
    have sb:=hs b (by simp)
    rw [List.flatten_cons] at hq
    rcases pre_app hq with hq | ⟨q',rfl,hq'⟩
    · have sq:∀ x∈q,GoodS x:=fun x hx=>sb x (hq.subset hx)
      refine gt_ge pr (hrs_pos b sb gb.ne) (hrs_pos q sq ne) (hd b (by simp)) ?_
      have:=gb.beg q hq
      show ¬ (lss b * hrs q < lss q * hrs b)
      omega
    · by_cases hn:q'=[]
      · subst hn
        rw [List.append_nil]
        exact hd b (by simp)
      · exact gt_add (hd b (by simp)) (pre_lt pr rest q' (fun c hc=>hd c (by simp [hc])) (fun c hc=>hg c (by simp [hc])) (fun c hc=>hs c (by simp [hc])) hq' hn)
theorem take_succ_hrs {s:List Sk} {k:Nat} (hk:k < s.length):hrs (s.take (k + 1))=hrs (s.take k) + s[k].2.1∧lss (s.take (k + 1))=lss (s.take k) + s[k].2.2:=by
  rw [List.take_succ_eq_append_getElem hk,hrs_app,lss_app]
  simp [hrs,lss]
theorem take_bd {s:List Sk} (hs:∀ x∈s,GoodS x) (hl:s.length≤14) (k:Nat):0≤hrs (s.take k)∧hrs (s.take k)≤840∧0≤lss (s.take k)∧lss (s.take k)≤1400:=by
  have:=sum_bd (s.take k) fun x hx=>hs x (List.mem_of_mem_take hx)
  have h2:(s.take k).length≤14:=by rw [List.length_take]; omega
  omega
theorem best_ok (rs:List (List Sk)) (hd:rs.Pairwise fun u b=>gt (blk u) (blk b)) (hg:∀ r∈rs,Good r) (hs:∀ x∈rs.flatten,GoodS x) (hl:rs.flatten.length≤14):m__law_best [.lst (rs.flatten.map sD)]=some (kD (hT rs)):=by
  cases rs with
  | nil=>simp [m__law_best,runD,s__law_best,dStart,hT,kD,iR1_ok 0 (by omega),rngD,forL,show iR1 [.int 0]=some (rngD 0 0) from iR1_ok 0 (by omega)]
  | cons r rest =>
    have hfl:(r::rest).flatten=r++rest.flatten:=List.flatten_cons ..
    rw [hfl] at hs hl ⊢
    have gr:=hg r (by simp)
    have sr:∀ x∈r,GoodS x:=fun x hx=>hs x (by simp [hx])
    have pr:=hrs_pos r sr gr.ne
    have br:=sum_bd r sr
    have hdr:=(List.pairwise_cons.mp hd).1
    generalize hS:r++rest.flatten=s at *
    have hrl:r.length≤s.length:=by rw [← hS]; simp
    have tk:∀ k,k≤r.length→s.take k <+: r:=fun k hk=>by
      rw [← hS,List.take_append_of_le_length hk]
      exact List.take_prefix _ _
    obtain ⟨e',h1,bb,v4,rfl,hb1,hb2⟩:=forL_inv0 (i:=4) (g:=b__law_best_0) (fun k e=>∃ (b:Bk) (v4:Option Sl),e=[some (.sh (.lst (s.map sD))),some (.sh (kD b)),some (.sh (.int (hrs (s.take k)))),some (.sh (.int (lss (s.take k)))),v4] ∧
        (k < r.length→b=(0,1,-1)∨∃ q,q <+: r∧b=blk q)∧(r.length≤k→b=blk r)) (rngD 0 s.length)
      [some (.sh (.lst (s.map sD))),some (.sh (kD (0,1,-1))),some (.sh (.int 0)),some (.sh (.int 0)),none] ⟨(0,1,-1),none,by simp [hrs,lss],fun _=>.inl rfl,fun h=>absurd (List.length_eq_zero_iff.mp (Nat.le_zero.mp h)) gr.ne⟩ (by
        rintro k d e hd' ⟨b,v4,rfl,hb1,hb2⟩
        obtain ⟨rfl,hk⟩:=rngD_get hd'
        obtain ⟨t1,t2⟩:=take_succ_hrs hk
        have bd:=take_bd hs hl (k + 1)
        have ha:atI (s.map sD) (0 + (k:Int))=some (sD s[k]):=by rw [Int.zero_add]; exact at_map sD (by simp [hk])
        have sm2:Small (hrs (s.take (k + 1))):=small_of (by omega)
        have sm1:Small (lss (s.take (k + 1))):=small_of (by omega)
        have i1:dIx (sD s[k]) (.int 1)=some (.int s[k].2.1):=rfl
        have i2:dIx (sD s[k]) (.int 2)=some (.int s[k].2.2):=rfl
        have bdy:b__law_best_0 [some (.sh (.lst (s.map sD))),some (.sh (kD b)),some (.sh (.int (hrs (s.take k)))),some (.sh (.int (lss (s.take k)))),some (.sh (.int (0 + (k:Int))))] =
            some (.nx,[some (.sh (.lst (s.map sD))),some (.sh (kD (if b.2.2 * hrs (s.take (k + 1))≤lss (s.take (k + 1)) * b.2.1 then blk (s.take (k + 1)) else b))),some (.sh (.int (hrs (s.take (k + 1))))),some (.sh (.int (lss (s.take (k + 1))))),some (.sh (.int (0 + (k:Int))))]):=by
          have hlen:((s.take (k + 1)).length:Int)=0 + (k:Int) + 1:=by rw [List.length_take]; omega
          by_cases hc:b.2.2 * hrs (s.take (k + 1))≤lss (s.take (k + 1)) * b.2.1
          · rw [if_pos hc,show blk (s.take (k + 1))=(0 + (k:Int) + 1,hrs (s.take (k + 1)),lss (s.take (k + 1))) by unfold blk; rw [hlen]]
            rw [t1] at sm2; rw [t2] at sm1; rw [t1,t2] at hc ⊢
            generalize s.map sD=S at *
            simp only [b__law_best_0,kD,sSeq,sSet,sIf,sNil,fBin,fVar,fIxV,ixSl,fC,fTst,fLst,fDisp,fCons,fNil,List.getElem?_cons_zero,List.getElem?_cons_succ,Option.bind_some,Option.map_some,List.set_cons_zero,List.set_cons_succ,ha,i1,i2,dAddI,at3_1,at3_2,dMul_l sm1,dMul_r sm2,dGe,decide_eq_true hc,if_true,List.length_cons,List.length_nil,show (0 + 1 + 1 + 1≤64)=True by simp]
          · rw [if_neg hc]
            rw [t1] at sm2; rw [t2] at sm1; rw [t1,t2] at hc ⊢
            generalize s.map sD=S at *
            simp only [b__law_best_0,kD,sSeq,sSet,sIf,sNil,fBin,fVar,fIxV,ixSl,fC,fTst,fLst,fDisp,fCons,fNil,List.getElem?_cons_zero,List.getElem?_cons_succ,Option.bind_some,Option.map_some,List.set_cons_zero,List.set_cons_succ,ha,i1,i2,dAddI,at3_1,at3_2,dMul_l sm1,dMul_r sm2,dGe,decide_eq_false hc,Bool.false_eq_true,if_false]
        refine ⟨_,bdy,_,_,rfl,fun hlt=>?_,fun hge=>?_⟩
        · split
          · exact .inr ⟨_,tk (k + 1) (by omega),rfl⟩
          · exact hb1 (by omega)
        · by_cases hk2:r.length≤k
          · have hb:=hb2 hk2
            subst hb
            rw [if_neg]
            have hp:s.take (k + 1)=r++rest.flatten.take (k + 1 - r.length):=by
              rw [← hS,List.take_append,List.take_of_length_le (by omega)]
            have hq:(rest.flatten.take (k + 1 - r.length)) ≠ []:=by
              intro z
              have:=congrArg List.length z
              rw [List.length_take] at this
              have hsl:s.length=r.length + rest.flatten.length:=by rw [← hS,List.length_append]
              simp only [List.length_nil] at this
              omega
            have hlt:=pre_lt pr rest _ hdr (fun b hb=>hg b (by simp [hb])) (fun b hb x hx=>hs x (by rw [← hS]; exact List.mem_append_right _ (List.mem_flatten.mpr ⟨b,hb,hx⟩))) (List.take_prefix (k + 1 - r.length) rest.flatten) hq
            rw [hp,hrs_app,lss_app]
            have hlt:lss (rest.flatten.take (k + 1 - r.length)) * hrs r < lss r * hrs (rest.flatten.take (k + 1 - r.length)):=hlt
            show ¬ (lss r * (hrs r + hrs _)≤(lss r + lss _) * hrs r)
            rw [Int.mul_add,Int.add_mul]
            omega
          · have hkr:k + 1=r.length:=by omega
            have hp:s.take (k + 1)=r:=by rw [hkr,← hS]; exact List.take_left
            rw [hp,if_pos]
            rcases hb1 (by omega) with rfl | ⟨q,hq,rfl⟩
            · show -1 * hrs r≤lss r * 1
              omega
            · exact gr.beg q hq)
    rw [rngD_length,List.take_length] at h1
    have hb:=hb2 (by rw [rngD_length]; exact hrl)
    subst hb
    have hi:iR1 [.int (s.length:Int)]=some (rngD 0 s.length):=iR1_ok s.length (by omega)
    refine runD_rt (e':=[some (.sh (.lst (s.map sD))),some (.sh (kD (blk r))),some (.sh (.int (hrs s))),some (.sh (.int (lss s))),v4]) rfl ?_
    show s__law_best [some (.sh (.lst (s.map sD))),none,none,none,none]=_
    have hk0:kD (0,1,-1)=.lst [.int 0,.int 1,.int (-1)]:=rfl
    rw [hk0] at h1
    simp only [s__law_best,sSeq,sSet,sFor,sRet,fLst,fDisp,fCons,fNil,fC,fUn,dNeg,fVar,fLenV,fCallF,List.getElem?_cons_zero,List.getElem?_cons_succ,Option.bind_some,Option.map_some,List.set_cons_zero,List.set_cons_succ,List.length_cons,List.length_nil,List.length_map,show (0 + 1 + 1 + 1≤64)=True by simp,if_true,hi,h1]
    rfl
end LB
set_option Elab.async false
set_option linter.all false
set_option maxRecDepth 100000
set_option maxHeartbeats 8000000
namespace LB
open PySem L2
theorem ofS_mem {ts:List Tn} {j:Nat} {r:List Sk} (h:r∈ofS ts j):(j + 1,r)∈ts:=by
  obtain ⟨t,ht,rfl⟩:=List.mem_map.mp h
  obtain ⟨h1,h2⟩:=List.mem_filter.mp ht
  have:t.1=j + 1:=by simpa using h2
  rw [← this]
  exact h1
theorem ofS_pw {ts:List Tn} {j:Nat} (h:ts.Pairwise bef):(ofS ts j).Pairwise fun u b=>gt (blk u) (blk b):=by
  unfold ofS
  rw [List.pairwise_map,List.pairwise_filter]
  refine h.imp fun {a b} hab ha hb=>?_
  rcases hab with z | z
  · exact z
  · have h1:a.1=j + 1:=by simpa using ha
    have h2:b.1=j + 1:=by simpa using hb
    omega
def headsOf (n:Nat) (ts:List Tn):List Bk:=(List.range n).map fun j=>hT (ofS ts j)
theorem heads_get {n j:Nat} {ts:List Tn} (h:j < n):(headsOf n ts)[j]?=some (hT (ofS ts j)):=by simp [headsOf,h]
theorem hT_first {n:Nat} {t:Tn} {ts:List Tn} (ok:TurnsOk (leftOf n (t::ts)) (t::ts)):hT (ofS (t::ts) (t.1 - 1))=blk t.2:=by
  have h1:=(ok.lo t (by simp)).1
  rw [ofS_cons_eq t ts (t.1 - 1) (by omega)]
  rfl
theorem hT_max {n:Nat} {t:Tn} {ts:List Tn} (ok:TurnsOk (leftOf n (t::ts)) (t::ts)) (hg:∀ x∈(leftOf n (t::ts)).flatten,GoodS x) (j:Nat) :
    ¬ gt (hT (ofS (t::ts) j)) (blk t.2)∧(j < t.1 - 1→gt (blk t.2) (hT (ofS (t::ts) j))):=by
  have pt:=ok.pos hg t (by simp)
  have st:=sum_bd t.2 (ok.sk hg t (by simp))
  cases h:ofS (t::ts) j with
  | nil =>
    have g:gt (blk t.2) (0,1,-1):=by
      show -1 * hrs t.2 < lss t.2 * 1
      omega
    exact ⟨gt_asym g,fun _=>g⟩
  | cons r rest =>
    have hm:(j + 1,r)∈t::ts:=ofS_mem (by rw [h]; simp)
    rcases List.mem_cons.mp hm with e | hm
    · subst e
      exact ⟨fun z=>gt_asym z z,fun z=>by simp at z⟩
    · have hb:=(List.pairwise_cons.mp ok.srt).1 _ hm
      rcases hb with z | ⟨z,z'⟩
      · exact ⟨gt_asym z,fun _=>z⟩
      · exact ⟨z,fun w=>by simp at z'; omega⟩
theorem leftOf_map (n:Nat) (ts:List Tn):(leftOf n ts).map (fun s=>D.lst (s.map sD))=(List.range n).map fun j=>D.lst ((ofS ts j).flatten.map sD):=by
  unfold leftOf; rw [List.map_map]; rfl
theorem leftOf_mem {n:Nat} {ts:List Tn} {j:Nat} (h:j < n):∀ x∈(ofS ts j).flatten,x∈(leftOf n ts).flatten:=fun x hx =>
  List.mem_flatten.mpr ⟨_,List.mem_of_getElem? (leftOf_get (ts:=ts) h),hx⟩
theorem leftOf_le {n:Nat} {ts:List Tn} {j:Nat} (h:j < n):(ofS ts j).flatten.length≤(leftOf n ts).flatten.length :=
  (List.sublist_flatten_of_mem (List.mem_of_getElem? (leftOf_get (ts:=ts) h))).length_le
theorem hT_sm {n:Nat} {ts:List Tn} (ok:TurnsOk (leftOf n ts) ts) (hg:∀ x∈(leftOf n ts).flatten,GoodS x) (hl:(leftOf n ts).flatten.length≤14) (j:Nat):SmB (hT (ofS ts j)):=by
  cases h:ofS ts j with
  | nil=>exact ⟨small_of (by decide),small_of (by decide)⟩
  | cons r rest=>exact ok.sm hg (by omega) (j + 1,r) (ofS_mem (by rw [h]; simp))
theorem pick_body (H:List Bk) (v0 v1 v2:Option Sl) (k p:Nat) (bk bp:Bk) (hk:H[k]?=some bk) (hp:H[p]?=some bp) (sk:SmB bk) (sp:SmB bp) :
    b__law_turns_0 [v0,v1,v2,some (.sh (.lst (H.map kD))),some (.sh (.int (p:Int))),some (.sh (.int (0 + (k:Int))))] =
      some (.nx,[v0,v1,v2,some (.sh (.lst (H.map kD))),some (.sh (.int ((if gt bk bp then k else p:Nat):Int))),some (.sh (.int (0 + (k:Int))))]):=by
  rw [Int.zero_add]
  have a1:atI (H.map kD) (k:Int)=some (kD bk):=at_map kD hk
  have a2:atI (H.map kD) (p:Int)=some (kD bp):=at_map kD hp
  have i1:∀ b:Bk,dIx (kD b) (.int 1)=some (.int b.2.1):=fun _=>rfl
  have i2:∀ b:Bk,dIx (kD b) (.int 2)=some (.int b.2.2):=fun _=>rfl
  generalize H.map kD=L at *
  by_cases hg:gt bk bp
  · have hg':bp.2.2 * bk.2.1 < bk.2.2 * bp.2.1:=hg
    rw [if_pos hg]
    simp only [b__law_turns_0,sIf,sSet,sNil,fTst,fBin,fIxV,ixSl,fVar,fC,List.getElem?_cons_zero,List.getElem?_cons_succ,Option.bind_some,Option.map_some,List.set_cons_zero,List.set_cons_succ,a1,a2,i1,i2,dMul_l sk.2,dMul_l sp.2,dGt,decide_eq_true hg',if_true]
  · have hg':¬ bp.2.2 * bk.2.1 < bk.2.2 * bp.2.1:=hg
    rw [if_neg hg]
    simp only [b__law_turns_0,sIf,sSet,sNil,fTst,fBin,fIxV,ixSl,fVar,fC,List.getElem?_cons_zero,List.getElem?_cons_succ,Option.bind_some,Option.map_some,List.set_cons_zero,List.set_cons_succ,a1,a2,i1,i2,dMul_l sk.2,dMul_l sp.2,dGt,decide_eq_false hg',Bool.false_eq_true,if_false]
theorem pick_ok {n:Nat} {t:Tn} {ts:List Tn} (ok:TurnsOk (leftOf n (t::ts)) (t::ts)) (hg:∀ x∈(leftOf n (t::ts)).flatten,GoodS x) (hl:(leftOf n (t::ts)).flatten.length≤14) (v0 v1 v2 v5:Option Sl) :
    ∃ v5',forL 5 b__law_turns_0 (rngD 0 n) [v0,v1,v2,some (.sh (.lst ((headsOf n (t::ts)).map kD))),some (.sh (.int 0)),v5] =
      some (.nx,[v0,v1,v2,some (.sh (.lst ((headsOf n (t::ts)).map kD))),some (.sh (.int ((t.1 - 1:Nat):Int))),v5']):=by
  have lo:=ok.lo t (by simp)
  rw [leftOf_len] at lo
  have hj0:t.1 - 1 < n:=by omega
  obtain ⟨e',h1,p,v5',rfl,_,hp1,hp2⟩:=forL_inv0 (i:=5) (g:=b__law_turns_0) (fun k e=>∃ (p:Nat) (v5:Option Sl),e=[v0,v1,v2,some (.sh (.lst ((headsOf n (t::ts)).map kD))),some (.sh (.int (p:Int))),v5]∧p < n∧(k≤t.1 - 1→p≤t.1 - 1∧(p < k∨p=0))∧(t.1 - 1 < k→p=t.1 - 1))
    (rngD 0 n) [v0,v1,v2,some (.sh (.lst ((headsOf n (t::ts)).map kD))),some (.sh (.int 0)),v5] ⟨0,v5,rfl,by omega,fun _=>⟨Nat.zero_le _,.inr rfl⟩,fun h=>absurd h (Nat.not_lt_zero _)⟩ (by
      rintro k d e hd' ⟨p,v5,rfl,hpn,hp1,hp2⟩
      obtain ⟨rfl,hk⟩:=rngD_get hd'
      have body:=pick_body (headsOf n (t::ts)) v0 v1 v2 k p _ _ (heads_get hk) (heads_get hpn) (hT_sm ok hg hl k) (hT_sm ok hg hl p)
      refine ⟨_,body,_,_,rfl,?_,fun hle=>?_,fun hlt=>?_⟩
      · split <;> omega
      · have:=hp1 (by omega)
        split
        · exact ⟨by omega,.inl (by omega)⟩
        · exact ⟨this.1,by omega⟩
      · rcases Nat.lt_or_eq_of_le (Nat.le_of_lt_succ hlt) with hlt' | heq
        · have hp:=hp2 hlt'
          subst hp
          rw [hT_first ok,if_neg (hT_max ok hg k).1]
        · have:=hp1 (by omega)
          subst heq
          rw [hT_first ok]
          by_cases hpe:p=t.1 - 1
          · subst hpe
            rw [hT_first ok,if_neg (fun z=>gt_asym z z)]
          · rw [if_pos ((hT_max ok hg p).2 (by omega))])
  rw [rngD_length] at hp2
  have hp:=hp2 hj0
  subst hp
  exact ⟨v5',h1⟩
noncomputable def cTurns:FT:=fTst (fBin dGt (fCall bSum (fCons (fLst (fComp (fiV 1) [] fYes (fLenV 0))) (fNil))) (fC (.int 0)))
theorem turns_step {n:Nat} {t:Tn} {ts:List Tn} (ok:TurnsOk (leftOf n (t::ts)) (t::ts)) (hg:∀ x∈(leftOf n (t::ts)).flatten,GoodS x) (hl:(leftOf n (t::ts)).flatten.length≤14) (hn:n≤1000) (v0 v3 v4 v5:Option Sl) (M:List D) (hM:M.length≤1000) :
    ∃ w3 w4 w5,b__law_turns_1 [v0,some (.ow ((leftOf n (t::ts)).map fun s=>D.lst (s.map sD))),some (.ow M),v3,v4,v5]=some (.nx,[v0,some (.ow ((leftOf n ts).map fun s=>D.lst (s.map sD))),some (.ow (M++[tnD t])),w3,w4,w5]):=by
  have lo:=ok.lo t (by simp)
  rw [leftOf_len] at lo
  have c:=compL_map (te:=fCall m__law_best (fCons (fVar 0) (fNil))) (base:=[]) (fun j:Nat=>D.lst ((ofS (t::ts) j).flatten.map sD)) (fun j:Nat=>kD (hT (ofS (t::ts) j))) (List.range n) (fun j hj=>by
    have hj:j < n:=List.mem_range.mp hj
    have hb:=best_ok (ofS (t::ts) j) (ofS_pw ok.srt) (fun r hr=>ok.good _ (ofS_mem hr)) (fun x hx=>hg x (leftOf_mem hj x hx)) (Nat.le_trans (leftOf_le hj) hl)
    refine ⟨[some (.sh (.lst ((ofS (t::ts) j).flatten.map sD)))],?_⟩
    simp only [fCall,fCons,fVar,fNil,List.getElem?_cons_zero,Option.bind_some,hb,Option.map_some])
  have hH:(List.range n).map (fun j:Nat=>kD (hT (ofS (t::ts) j)))=(headsOf n (t::ts)).map kD:=by unfold headsOf; rw [List.map_map]; rfl
  rw [hH,← leftOf_map] at c
  obtain ⟨w5,hp⟩:=pick_ok ok hg hl v0 (some (.ow ((leftOf n (t::ts)).map fun s=>D.lst (s.map sD)))) (some (.ow M)) v5
  have hat:atI ((headsOf n (t::ts)).map kD) ((t.1 - 1:Nat):Int)=some (kD (blk t.2)):=by
    rw [← hT_first ok]
    exact at_map kD (heads_get (by omega))
  have htop:=leftOf_top (ts:=ts) lo.1 lo.2
  have hset:=leftOf_cons (ts:=ts) lo.1 lo.2
  have ht1:atI ((leftOf n (t::ts)).map fun s=>D.lst (s.map sD)) ((t.1 - 1:Nat):Int)=some (.lst ((t.2++(ofS ts (t.1 - 1)).flatten).map sD)):=at_map (fun s:List Sk=>D.lst (s.map sD)) htop
  have hcut2:=cut_snd (t.2.map sD) ((ofS ts (t.1 - 1)).flatten.map sD)
  rw [← List.map_append,List.length_map] at hcut2
  have hix:ixN ((leftOf n (t::ts)).map fun s=>D.lst (s.map sD)).length ((t.1 - 1:Nat):Int)=some (t.1 - 1):=by
    rw [ixN_pos (by omega) (by rw [List.length_map,leftOf_len]; omega)]
    congr 1
  have hset':((leftOf n (t::ts)).map fun s=>D.lst (s.map sD)).set (t.1 - 1) (.lst ((ofS ts (t.1 - 1)).flatten.map sD))=(leftOf n ts).map fun s=>D.lst (s.map sD):=by
    rw [hset,List.map_set]
  have hf:Few ((leftOf n (t::ts)).map fun s=>D.lst (s.map sD)).length:=few (by rw [List.length_map,leftOf_len]; omega)
  have hfM:Few (M.length + 1):=few (by omega)
  have hi:iR1 [.int (((headsOf n (t::ts)).map kD).length:Int)]=some (rngD 0 n):=by
    rw [List.length_map,show (headsOf n (t::ts)).length=n by simp [headsOf]]
    exact iR1_ok n (by omega)
  have hz:((t.1 - 1:Nat):Int) + 1=(t.1:Int):=by omega
  generalize ((leftOf n (t::ts)).map fun s=>D.lst (s.map sD))=L at *
  generalize ((headsOf n (t::ts)).map kD)=HL at *
  generalize ((t.2++(ofS ts (t.1 - 1)).flatten).map sD)=S7 at *
  generalize hpp:((t.1 - 1:Nat):Int)=pp at *
  have i0:dIx (kD (blk t.2)) (.int 0)=some (.int (t.2.length:Int)):=rfl
  have i1:dIx (kD (blk t.2)) (.int 1)=some (.int (hrs t.2)):=rfl
  have i2:dIx (kD (blk t.2)) (.int 2)=some (.int (lss t.2)):=rfl
  have htt:D.tup [.int (t.1:Int),.int (t.2.length:Int),.int (hrs t.2),.int (lss t.2)]=tnD t:=rfl
  refine ⟨some (.sh (.lst HL)),some (.sh (.int pp)),w5,?_⟩
  simp only [b__law_turns_1,sSeq,sSet,sFor,sDrop,sSetIt,setSl,fLst,fComp,fiV,fCallF,fCons,fNil,fLenV,fC,fAppend,appSl,fTup,fBin,dAddI,fIxV,ixSl,fVar,fSl,fO0,fO1,List.getElem?_cons_zero,List.getElem?_cons_succ,Option.bind_some,Option.map_some,List.set_cons_zero,List.set_cons_succ,List.map_nil,hf,hfM,if_true,c,hi,hp,hat,i0,i1,i2,hz,htt,ht1,hcut2,hix,hset',List.length_cons,List.length_nil,show (0 + 1 + 1 + 1 + 1≤64)=True by simp]
theorem turns_while {n:Nat} (hn:n≤1000) (v0:Option Sl):∀ (ts:List Tn) (fuel:Nat) (v3 v4 v5:Option Sl) (M:List D),ts.length < fuel→M.length + ts.length≤1000→TurnsOk (leftOf n ts) ts→(∀ x∈(leftOf n ts).flatten,GoodS x)→(leftOf n ts).flatten.length≤14 →
    ∃ w1 w3 w4 w5,whileF cTurns b__law_turns_1 fuel [v0,some (.ow ((leftOf n ts).map fun s=>D.lst (s.map sD))),some (.ow M),v3,v4,v5]=some (.nx,[v0,w1,some (.ow (M++ts.map tnD)),w3,w4,w5])
  | _,0,_,_,_,_,h,_,_,_,_=>by omega
  | ts,f + 1,v3,v4,v5,M,h,hM,ok,hg,hl=>by
    have c:=compL_map (te:=fLenV 0) (base:=[]) (fun s:List Sk=>D.lst (s.map sD)) (fun s:List Sk=>D.int (s.length:Int)) (leftOf n ts) fun s _=>⟨_,by simp; rfl⟩
    have hb:=bSum_h (fun s:List Sk=>(s.length:Int)) (leftOf n ts)
    have hf:Few ((leftOf n ts).map fun s=>D.lst (s.map sD)).length:=few (by rw [List.length_map,leftOf_len]; omega)
    have hsum:((leftOf n ts).map fun s:List Sk=>(s.length:Int)).sum=((ts.map (·.2)).flatten.length:Int):=by
      have e:∀ l:List (List Sk),(l.map fun s:List Sk=>(s.length:Int)).sum=(l.flatten.length:Int):=fun l=>by
        induction l with
        | nil=>rfl
        | cons a l ih=>rw [List.map_cons,List.sum_cons,ih,List.flatten_cons,List.length_append]; omega
      rw [e,ok.perm.length_eq]
    rw [hsum] at hb
    have hc:cTurns [v0,some (.ow ((leftOf n ts).map fun s=>D.lst (s.map sD))),some (.ow M),v3,v4,v5]=some (decide (0 < ((ts.map (·.2)).flatten.length:Int)),[v0,some (.ow ((leftOf n ts).map fun s=>D.lst (s.map sD))),some (.ow M),v3,v4,v5]):=by
      unfold cTurns
      generalize ((leftOf n ts).map fun s=>D.lst (s.map sD))=L at *
      simp only [fTst,fBin,fCall,fCons,fLst,fComp,fiV,fNil,fC,List.getElem?_cons_zero,List.getElem?_cons_succ,Option.bind_some,Option.map_some,hf,if_true,List.map_nil,c,hb,dGt]
    unfold whileF
    rw [hc,Option.bind_some]
    dsimp only
    cases ts with
    | nil =>
      rw [if_neg (by simp)]
      exact ⟨some (.ow ((leftOf n []).map fun s=>D.lst (s.map sD))),v3,v4,v5,by rw [List.map_nil,List.append_nil]⟩
    | cons t ts =>
      have hpos:0 < t.2.length:=List.length_pos_iff.mpr (ok.good t (by simp)).ne
      rw [if_pos (by simp only [List.map_cons,List.flatten_cons,List.length_append,decide_eq_true_eq]; omega)]
      obtain ⟨w3,w4,w5,hstep⟩:=turns_step ok hg hl hn v0 v3 v4 v5 M (by simp at hM; omega)
      rw [hstep,Option.bind_some]
      dsimp only
      have okt:=ok.tail
      have lo:=ok.lo t (by simp)
      rw [leftOf_len] at lo
      have hsub:(t.2++(leftOf n ts).flatten).Perm (leftOf n (t::ts)).flatten:=by
        rw [leftOf_up lo.1 lo.2]
        exact (perm_setL (leftOf_get (by omega))).symm
      have hll:=hsub.length_eq
      rw [List.length_append] at hll
      obtain ⟨w1,w3',w4',w5',ih⟩:=turns_while hn v0 ts f w3 w4 w5 (M++[tnD t]) (by simp at h; omega) (by simp at hM ⊢; omega) okt (fun x hx=>hg x (hsub.mem_iff.mp (List.mem_append_right _ hx))) (by omega)
      exact ⟨w1,w3',w4',w5',by rw [ih]; simp⟩
theorem turns_ok {ss:List (List Sk)} {ts:List Tn} (ok:TurnsOk ss ts) (hg:∀ x∈ss.flatten,GoodS x) (hl:ss.flatten.length≤14) (hn:ss.length≤900):m__law_turns [ssL ss]=some (.lst (ts.map tnD)):=by
  have htl:=ok.len
  have hleft:=ok.left
  have c:=compL_map (te:=fLst (fCallF bList (fCons (fVar 0) (fNil)))) (base:=[]) (fun s:List Sk=>D.lst (s.map sD)) (fun s:List Sk=>D.lst (s.map sD)) ss fun s _=>⟨_,by simp; rfl⟩
  have hf:Few (ss.map fun s=>D.lst (s.map sD)).length:=few (by rw [List.length_map]; omega)
  obtain ⟨w1,w3,w4,w5,h⟩:=turns_while (n:=ss.length) (by omega) (some (.sh (ssL ss))) ts 10000 none none none [] (by omega) (by simp; omega) (by rw [hleft]; exact ok) (by rw [hleft]; exact hg) (by rw [hleft]; exact hl)
  rw [hleft,List.nil_append] at h
  refine runD_rt (e':=[some (.sh (ssL ss)),w1,some (.sh (.lst (ts.map tnD))),w3,w4,w5]) rfl ?_
  show s__law_turns [some (.sh (.lst (ss.map fun s=>D.lst (s.map sD)))),none,none,none,none,none]=_
  unfold cTurns ssL at h
  unfold ssL
  generalize (ss.map fun s=>D.lst (s.map sD))=L at *
  simp only [s__law_turns,sSeq,sOwn,sRet,fComp,fiS,fVar,fDisp,fNil,List.getElem?_cons_zero,List.getElem?_cons_succ,Option.bind_some,Option.map_some,List.set_cons_zero,List.set_cons_succ,List.map_nil,hf,if_true,c,List.length_nil,Nat.zero_le,h]
end LB
set_option Elab.async false
set_option linter.all false
set_option maxRecDepth 100000
set_option maxHeartbeats 8000000
namespace LB
open PySem L2
def toldN (ts:List Tn):List Nat:=(ts.map fun t=>List.replicate t.2.length t.1).flatten
def iD (ns:List Nat):List D:=ns.map fun n:Nat=>D.int (n:Int)
theorem toldN_app (a b:List Tn):toldN (a++b)=toldN a++toldN b:=by simp [toldN]
theorem toldN_one (t:Tn):toldN [t]=List.replicate t.2.length t.1:=by simp [toldN]
theorem toldN_len (ts:List Tn):(toldN ts).length=(ts.map (·.2)).flatten.length:=by
  induction ts with
  | nil=>rfl
  | cons t ts ih =>
    rw [show t::ts=[t]++ts from rfl,toldN_app,toldN_one,List.length_append,List.length_replicate,ih]
    simp
theorem rep_one (d:D) (k:Nat):(List.replicate k [d]).flatten=List.replicate k d:=List.flatten_replicate_singleton
theorem iD_app (a b:List Nat):iD (a++b)=iD a++iD b:=by simp [iD]
theorem iD_rep (k a:Nat):iD (List.replicate k a)=List.replicate k (.int (a:Int)):=by simp [iD]
theorem iD_len (a:List Nat):(iD a).length=a.length:=by simp [iD]
theorem bndN (k:Nat) (h:k≤1000000):Bnd (-(2 ^ 62)) (2 ^ 62) (k:Int):=⟨by omega,by omega⟩
theorem told_order_ok {ss:List (List Sk)} {ts:List Tn} (ok:TurnsOk ss ts) (hbt:m_block_turns [ssL ss]=some (.lst (ts.map tnD))) (hl:ss.flatten.length≤14):m_told_order [ssL ss]=some (iD (toldN ts)):=by
  have hlen:(toldN ts).length≤14:=by rw [toldN_len,ok.perm.length_eq]; exact hl
  obtain ⟨e',h1,v2,v3,v4,v5,rfl⟩:=forU_map (ix:=[2,3,4,5]) (g:=b_told_order_0) (fun t:Tn=>[D.int (t.1:Int),.int (t.2.length:Int),.int (hrs t.2),.int (lss t.2)]) (fun p e=>∃ v2 v3 v4 v5,e=[some (.sh (ssL ss)),some (.ow (iD (toldN p))),v2,v3,v4,v5]) ts
    [some (.sh (ssL ss)),some (.ow []),none,none,none,none] ⟨none,none,none,none,rfl⟩ (fun _ _=>rfl) (by
      rintro p t q e hpq ⟨v2,v3,v4,v5,rfl⟩
      have hlt:(toldN p).length + t.2.length≤14:=by
        rw [hpq,toldN_app,show t::q=[t]++q from rfl,toldN_app,toldN_one] at hlen
        simp at hlen
        omega
      have f1:Few (1 * t.2.length):=few (by omega)
      have f2:Few ((iD (toldN p)).length + (List.replicate t.2.length (D.int (t.1:Int))).length):=few (by rw [iD_len,List.length_replicate]; omega)
      have hb:=bndN t.2.length (by omega)
      have e1:iD (toldN p)++List.replicate t.2.length (D.int (t.1:Int))=iD (toldN (p++[t])):=by rw [toldN_app,toldN_one,iD_app,iD_rep]
      refine ⟨[some (.sh (ssL ss)),some (.ow (iD (toldN (p++[t])))),some (.sh (.int (t.1:Int))),some (.sh (.int (t.2.length:Int))),some (.sh (.int (hrs t.2))),some (.sh (.int (lss t.2)))],?_,_,_,_,_,rfl⟩
      rw [← e1]
      generalize iD (toldN p)=M at *
      simp only [setAll,b_told_order_0,sDrop,fExtend,extSl,fRep,fDisp,fCons,fVar,fNil,List.getElem?_cons_zero,List.getElem?_cons_succ,Option.bind_some,Option.map_some,List.set_cons_zero,List.set_cons_succ,List.length_cons,List.length_nil,show (0 + 1≤64)=True by simp,if_true,Int.toNat_natCast,Nat.zero_add,f1,hb,and_self,rep_one,f2])
  refine runF_rf (e':=[some (.sh (ssL ss)),some (.ow (iD (toldN ts))),v2,v3,v4,v5]) rfl ?_
  show s_told_order [some (.sh (ssL ss)),none,none,none,none,none]=_
  have h1':forU [2,3,4,5] b_told_order_0 (ts.map tnD) [some (.sh (ssL ss)),some (.ow []),none,none,none,none]=_:=h1
  simp only [s_told_order,sSeq,sOwn,sForU,sRetO,fDisp,fNil,fiS,fCall,fCons,fVar,List.getElem?_cons_zero,List.getElem?_cons_succ,Option.bind_some,Option.map_some,List.set_cons_zero,List.set_cons_succ,List.length_nil,Nat.zero_le,if_true,hbt,h1']
end LB
set_option Elab.async false
set_option linter.all false
set_option maxRecDepth 100000
set_option maxHeartbeats 8000000
namespace LB
open PySem L2
structure Whole (ss:List (List Sk)) (os:List Nat):Prop where
  lo:∀ a∈os,1≤a∧a≤ss.length
  cnt:∀ (j:Nat) (s:List Sk),ss[j]?=some s→os.count (j + 1)=s.length
theorem Whole.perm {ss:List (List Sk)} {os os':List Nat} (h:Whole ss os) (p:os.Perm os'):Whole ss os' :=
  ⟨fun a ha=>h.lo a (p.mem_iff.mpr ha),fun j s hj=>by rw [← p.count_eq]; exact h.cnt j s hj⟩
theorem sum_ind (m:Nat):∀ n:Nat,((List.range n).map fun j=>if j=m then 1 else 0).sum=if m < n then 1 else 0
  | 0=>by simp
  | n + 1=>by
    rw [List.range_succ,List.map_append,List.sum_append,sum_ind m n]
    simp only [List.map_cons,List.map_nil,List.sum_cons,List.sum_nil]
    by_cases h1:m < n
    · rw [if_pos h1,if_neg (by omega),if_pos (by omega)]; rfl
    · rw [if_neg h1]
      by_cases h2:n=m
      · rw [if_pos h2,if_pos (by omega)]; rfl
      · rw [if_neg h2,if_neg (by omega)]; rfl
theorem sum_add {α:Type} (f g:α→Nat):∀ l:List α,(l.map fun x=>f x + g x).sum=(l.map f).sum + (l.map g).sum
  | []=>rfl
  | x::l=>by
    simp only [List.map_cons,List.sum_cons,sum_add f g l]
    omega
theorem cnt_sum (n:Nat):∀ (p:List Nat),(∀ a∈p,1≤a∧a≤n)→((List.range n).map fun j=>p.count (j + 1)).sum=p.length
  | [],_=>by
    have:∀ l:List Nat,(l.map fun j=>([]:List Nat).count (j + 1)).sum=0:=fun l=>by
      induction l with
      | nil=>rfl
      | cons a l ih=>rw [List.map_cons,List.sum_cons,ih]; rfl
    rw [this]; rfl
  | a::p,h=>by
    have ih:=cnt_sum n p fun b hb=>h b (List.mem_cons_of_mem _ hb)
    have ha:=h a List.mem_cons_self
    have e:(fun j=>(a::p).count (j + 1))=fun j=>p.count (j + 1) + if j=a - 1 then 1 else 0:=by
      funext j
      rw [List.count_cons]
      congr 1
      by_cases hj:j=a - 1
      · rw [if_pos hj,if_pos (by simp; omega)]
      · rw [if_neg hj,if_neg (by simp; omega)]
    rw [e,sum_add,ih,sum_ind,if_pos (by omega),List.length_cons]
theorem flat_sum (ss:List (List Sk)):((List.range ss.length).map fun j=>(ss.getD j []).length).sum=ss.flatten.length:=by
  have:(List.range ss.length).map (fun j=>(ss.getD j []).length)=ss.map List.length:=by
    apply List.ext_getElem?
    intro i
    by_cases h:i < ss.length
    · simp [h]
    · simp [h]
  rw [this,List.length_flatten]
theorem Whole.len {ss:List (List Sk)} {os:List Nat} (h:Whole ss os):os.length=ss.flatten.length:=by
  rw [← cnt_sum ss.length os h.lo,← flat_sum]
  congr 1
  apply List.map_congr_left
  intro j hj
  have hj:j < ss.length:=List.mem_range.mp hj
  rw [h.cnt j ss[j] (by simp [hj])]
  simp [hj]
theorem rev_ind {α:Type} {P:List α→Prop} (h0:P []) (hs:∀ p a,P p→P (p++[a])) (p:List α):P p:=by
  have:∀ l:List α,P l.reverse:=fun l=>by
    induction l with
    | nil=>exact h0
    | cons a l ih=>rw [List.reverse_cons]; exact hs _ _ ih
  rw [← List.reverse_reverse p]
  exact this _
def sackAt (ss:List (List Sk)) (a c:Nat):Sk:=(ss.getD (a - 1) []).getD c (0,0,0)
def tk (ss:List (List Sk)) (os:List Nat):List Sk:=(List.range os.length).map fun i=>sackAt ss (os.getD i 0) ((os.take i).count (os.getD i 0))
theorem tk_snoc (ss:List (List Sk)) (p:List Nat) (a:Nat):tk ss (p++[a])=tk ss p++[sackAt ss a (p.count a)]:=by
  unfold tk
  rw [List.length_append,List.length_singleton,List.range_succ,List.map_append]
  congr 1
  · apply List.map_congr_left
    intro i hi
    have hi:i < p.length:=List.mem_range.mp hi
    have e1:(p++[a]).getD i 0=p.getD i 0:=by
      rw [List.getD_eq_getElem?_getD,List.getD_eq_getElem?_getD,List.getElem?_append_left hi]
    rw [e1,List.take_append_of_le_length (by omega)]
  · have e1:(p++[a]).getD p.length 0=a:=by simp
    simp only [List.map_cons,List.map_nil]
    rw [e1,List.take_left]
theorem tk_len (ss:List (List Sk)) (os:List Nat):(tk ss os).length=os.length:=by simp [tk]
theorem Whole.at {ss:List (List Sk)} {p q:List Nat} {a:Nat} (h:Whole ss (p++a::q)):∃ s,ss[a - 1]?=some s∧p.count a < s.length∧s[p.count a]?=some (sackAt ss a (p.count a))∧1≤a∧a≤ss.length:=by
  obtain ⟨h1,h2⟩:=h.lo a (by simp)
  have hlt:a - 1 < ss.length:=by omega
  have hc:=h.cnt (a - 1) ss[a - 1] (by simp [hlt])
  rw [show a - 1 + 1=a by omega,List.count_append,List.count_cons_self] at hc
  have hcl:p.count a < ss[a - 1].length:=by omega
  refine ⟨ss[a - 1],by simp [hlt],hcl,?_,h1,h2⟩
  unfold sackAt
  simp [hlt,hcl]
theorem Whole.mem {ss:List (List Sk)} {os:List Nat} (h:Whole ss os):∀ (p:List Nat),∀ (q:List Nat),os=p++q→∀ x∈tk ss p,x∈ss.flatten:=by
  apply rev_ind
  · intro q _ x hx
    simp [tk] at hx
  · intro p a ih q hq x hx
    rw [tk_snoc] at hx
    rcases List.mem_append.mp hx with hx | hx
    · exact ih (a::q) (by rw [hq]; simp) x hx
    · rw [hq,List.append_assoc,List.singleton_append] at h
      obtain ⟨s,hs,hc,hx',_⟩:=h.at
      have e:x=sackAt ss a (p.count a):=by simpa using hx
      subst e
      exact List.mem_flatten.mpr ⟨s,List.mem_of_getElem? hs,List.mem_of_getElem? hx'⟩
theorem Whole.sk {ss:List (List Sk)} {os:List Nat} (h:Whole ss os):∀ x∈tk ss os,x∈ss.flatten:=h.mem os [] (by simp)
theorem told_cnt (ts:List Tn) (j:Nat):(toldN ts).count (j + 1)=(ofS ts j).flatten.length:=by
  induction ts with
  | nil=>simp [toldN,ofS]
  | cons t ts ih =>
    rw [show t::ts=[t]++ts from rfl,toldN_app,toldN_one,List.count_append,ih]
    by_cases e:t.1=j + 1
    · rw [List.singleton_append,ofS_cons_eq t ts j e,List.flatten_cons,List.length_append,e,List.count_replicate_self]
    · rw [List.singleton_append,ofS_cons_ne t ts j e,List.count_replicate,if_neg (by simpa using e)]
      omega
theorem TurnsOk.whole {ss:List (List Sk)} {ts:List Tn} (ok:TurnsOk ss ts):Whole ss (toldN ts):=by
  refine ⟨fun a ha=>?_,fun j s hj=>?_⟩
  · obtain ⟨l,hl,hal⟩:=List.mem_flatten.mp ha
    obtain ⟨t,ht,rfl⟩:=List.mem_map.mp hl
    rw [List.eq_of_mem_replicate hal]
    exact ok.lo t ht
  · rw [told_cnt,ok.part j s hj]
def cntD (n:Nat) (f:Nat→Int):List D:=(List.range n).map fun j=>D.int (f j)
theorem cntD_len (n:Nat) (f:Nat→Int):(cntD n f).length=n:=by simp [cntD]
theorem cntD_at (n:Nat) (f:Nat→Int) (j:Nat) (h:j < n):atI (cntD n f) (j:Int)=some (.int (f j)):=at_map (fun j:Nat=>D.int (f j)) (by simp [h])
theorem cntD_set (n:Nat) (f g:Nat→Int) (j:Nat) (h:∀ i,i < n→i ≠ j→g i=f i):(cntD n f).set j (.int (g j))=cntD n g:=by
  apply List.ext_getElem?
  intro i
  unfold cntD
  rw [List.getElem?_set]
  by_cases hi:i < n
  · by_cases e:j=i
    · subst e; simp [hi]
    · rw [if_neg e]
      simp [hi,h i hi (Ne.symm e)]
  · by_cases e:j=i
    · subst e; simp [hi]
    · rw [if_neg e]; simp [hi]
theorem cntD_get (n:Nat) (f:Nat→Int) (j:Nat) (h:j < n):(cntD n f)[j]?=some (.int (f j)):=by simp [cntD,h]
end LB
set_option Elab.async false
set_option linter.all false
set_option maxRecDepth 100000
set_option maxHeartbeats 8000000
namespace LB
open PySem L2
theorem runD_nx {n ar:Nat} {g:FS} {ds:List D} {e':DE0} (h:ds.length=ar) (hg:g (dStart n ds)=some (.nx,e')):runD n ar g ds=some .non:=by
  unfold runD
  rw [if_pos h,hg]
theorem check_known_ok {ss:List (List Sk)} {a:Nat} (l1:1≤a) (l2:a≤ss.length):m_check_known [ssL ss,.int (a:Int)]=some .non:=by
  have n1:decide ((a:Int) < 1)=false:=by simp; omega
  have n2:decide (((ss.map fun s=>D.lst (s.map sD)).length:Int) < (a:Int))=false:=by rw [List.length_map]; simp; omega
  refine runD_nx (e':=[some (.sh (ssL ss)),some (.sh (.int (a:Int)))]) rfl ?_
  show s_check_known [some (.sh (ssL ss)),some (.sh (.int (a:Int)))]=_
  unfold ssL
  generalize (ss.map fun s=>D.lst (s.map sD))=L at *
  simp only [s_check_known,sIf,sNil,fOr,fTst,fBin,fVar,fC,fLenV,dLt,dGt,List.getElem?_cons_zero,List.getElem?_cons_succ,Option.bind_some,Option.map_some,List.set_cons_zero,List.set_cons_succ,n1,n2,Bool.false_eq_true,if_false]
def lenF (ss:List (List Sk)) (p:List Nat) (j:Nat):Int:=((ss.getD j []).length:Int) - (p.count (j + 1):Int)
theorem lenF_nil (ss:List (List Sk)):(ss.map fun s=>D.int (s.length:Int))=cntD ss.length (lenF ss []):=by
  apply List.ext_getElem?
  intro i
  unfold cntD lenF
  by_cases h:i < ss.length
  · simp [h]
  · simp [h]
theorem lens_comp (ss:List (List Sk)):compL fYes (fLenV 0) [] (ss.map fun s=>D.lst (s.map sD))=some (cntD ss.length (lenF ss [])):=by
  rw [← lenF_nil]
  exact compL_map (te:=fLenV 0) (base:=[]) (fun s:List Sk=>D.lst (s.map sD)) (fun s:List Sk=>D.int (s.length:Int)) ss fun s _=>⟨_,by simp; rfl⟩
theorem count_snoc (p:List Nat) (a b:Nat):(p++[a]).count b=p.count b + if a=b then 1 else 0:=by
  rw [List.count_append,List.count_singleton]
  by_cases h:a=b
  · simp [h]
  · simp [h]
theorem lenF_snoc (ss:List (List Sk)) (p:List Nat) (a:Nat) (h1:1≤a):lenF ss (p++[a]) (a - 1)=lenF ss p (a - 1) - 1∧∀ i,i ≠ a - 1→lenF ss (p++[a]) i=lenF ss p i:=by
  unfold lenF
  refine ⟨?_,fun i hi=>?_⟩
  · rw [count_snoc,if_pos (by omega)]; omega
  · rw [count_snoc,if_neg (by omega)]; omega
theorem lenF_whole {ss:List (List Sk)} {os:List Nat} (h:Whole ss os) (j:Nat) (hj:j < ss.length):lenF ss os j=0:=by
  unfold lenF
  rw [h.cnt j ss[j] (by simp [hj])]
  simp [hj]
theorem lenF_pos {ss:List (List Sk)} {p q:List Nat} {a:Nat} (h:Whole ss (p++a::q)):0 < lenF ss p (a - 1):=by
  obtain ⟨s,hs,hc,_,h1,h2⟩:=h.at
  unfold lenF
  rw [show a - 1 + 1=a by omega,List.getD_eq_getElem?_getD,hs]
  simp
  omega
theorem ints_cntD (n:Nat) (f:Nat→Int):ints? (cntD n f)=some ((List.range n).map f):=by
  have:cntD n f=((List.range n).map f).map D.int:=by unfold cntD; rw [List.map_map]; rfl
  rw [this,ints_of]
theorem sum_zero (f:Nat→Int):∀ n:Nat,(∀ j,j < n→f j=0)→((List.range n).map f).sum=0
  | 0,_=>rfl
  | n + 1,h=>by
    rw [List.range_succ,List.map_append,List.sum_append,sum_zero f n fun j hj=>h j (by omega)]
    simp [h n (by omega)]
theorem check_whole_ok {ss:List (List Sk)} {os:List Nat} (h:Whole ss os) (hn:ss.length≤1000):m_check_whole [ssL ss,.lst (iD os)]=some .non:=by
  obtain ⟨e',h1,v3,rfl⟩:=forL_map (i:=3) (g:=b_check_whole_0) (fun a:Nat=>D.int (a:Int)) (fun p e=>∃ v3,e=[some (.sh (ssL ss)),some (.sh (.lst (iD os))),some (.ow (cntD ss.length (lenF ss p))),v3]) os
    [some (.sh (ssL ss)),some (.sh (.lst (iD os))),some (.ow (cntD ss.length (lenF ss []))),none] ⟨none,rfl⟩ (by
      rintro p a q e hpq ⟨v3,rfl⟩
      have hw:Whole ss (p++a::q):=by rw [← hpq]; exact h
      obtain ⟨s,hs,hc,_,l1,l2⟩:=hw.at
      have hp:=lenF_pos hw
      obtain ⟨e1,e2⟩:=lenF_snoc ss p a l1
      have hz:(a:Int) - 1=((a - 1:Nat):Int):=by omega
      have hat:=cntD_at ss.length (lenF ss p) (a - 1) (by omega)
      have hget:=cntD_get ss.length (lenF ss p) (a - 1) (by omega)
      have hset:=cntD_set ss.length (lenF ss p) (lenF ss (p++[a])) (a - 1) (fun i _ hi=>e2 i hi)
      rw [e1] at hset
      have n0:decide (lenF ss p (a - 1)=0)=false:=by simp; omega
      have hlt:a - 1 < (cntD ss.length (lenF ss p)).length:=by rw [cntD_len]; omega
      have h0:(0:Int)≤((a - 1:Nat):Int):=by omega
      refine ⟨[some (.sh (ssL ss)),some (.sh (.lst (iD os))),some (.ow (cntD ss.length (lenF ss (p++[a])))),some (.sh (.int (a:Int)))],?_,_,rfl⟩
      rw [← hset]
      generalize cntD ss.length (lenF ss p)=L at *
      simp only [b_check_whole_0,sSeq,sIf,sNil,sAugIt,augSl,fTst,fBin,fIxV,ixSl,fVar,fC,dSub,dEq,List.getElem?_cons_zero,List.getElem?_cons_succ,Option.bind_some,Option.map_some,List.set_cons_zero,List.set_cons_succ,hz,hat,n0,Bool.false_eq_true,if_false,h0,if_true,Int.toNat_natCast,hget,hlt])
  have hz:((List.range ss.length).map (lenF ss os)).sum=0:=sum_zero _ _ fun j hj=>lenF_whole h j hj
  have hints:=ints_cntD ss.length (lenF ss os)
  have hc:=lens_comp ss
  have hf:Few (ss.map fun s=>D.lst (s.map sD)).length:=few (by rw [List.length_map]; omega)
  refine runD_nx (e':=[some (.sh (ssL ss)),some (.sh (.lst (iD os))),some (.ow (cntD ss.length (lenF ss os))),v3]) rfl ?_
  show s_check_whole [some (.sh (ssL ss)),some (.sh (.lst (iD os))),none,none]=_
  have h1':forL 3 b_check_whole_0 (iD os) [some (.sh (ssL ss)),some (.sh (.lst (iD os))),some (.ow (cntD ss.length (lenF ss []))),none]=_:=h1
  unfold ssL at h1' ⊢
  generalize iD os=O at *
  generalize (ss.map fun s=>D.lst (s.map sD))=L at *
  simp only [s_check_whole,sSeq,sOwn,sFor,sIf,sNil,fComp,fiS,fVar,fTst,fBin,fSumV,fC,dGt,List.map_nil,List.getElem?_cons_zero,List.getElem?_cons_succ,Option.bind_some,Option.map_some,List.set_cons_zero,List.set_cons_succ,hf,if_true,hc,h1',hints,hz,Int.lt_irrefl,decide_false,Bool.false_eq_true,if_false]
theorem check_order_ok {ss:List (List Sk)} {os:List Nat} (h:Whole ss os) (hn:ss.length≤1000):m_check_order [ssL ss,.lst (iD os)]=some .non:=by
  obtain ⟨e',h1,v2,rfl⟩:=forL_map (i:=2) (g:=b_check_order_0) (fun a:Nat=>D.int (a:Int)) (fun p e=>∃ v2,e=[some (.sh (ssL ss)),some (.sh (.lst (iD os))),v2]) os
    [some (.sh (ssL ss)),some (.sh (.lst (iD os))),none] ⟨none,rfl⟩ (by
      rintro p a q e hpq ⟨v2,rfl⟩
      obtain ⟨l1,l2⟩:=h.lo a (by rw [hpq]; simp)
      have hk:=check_known_ok (ss:=ss) l1 l2
      refine ⟨[some (.sh (ssL ss)),some (.sh (.lst (iD os))),some (.sh (.int (a:Int)))],?_,_,rfl⟩
      simp only [b_check_order_0,sDrop,fCall,fCons,fNil,fVar,List.getElem?_cons_zero,List.getElem?_cons_succ,Option.bind_some,Option.map_some,List.set_cons_zero,List.set_cons_succ,hk])
  have h2:=check_whole_ok h hn
  refine runD_nx (e':=[some (.sh (ssL ss)),some (.sh (.lst (iD os))),v2]) rfl ?_
  show s_check_order [some (.sh (ssL ss)),some (.sh (.lst (iD os))),none]=_
  have h1':forL 2 b_check_order_0 (iD os) [some (.sh (ssL ss)),some (.sh (.lst (iD os))),none]=_:=h1
  generalize iD os=O at *
  simp only [s_check_order,sSeq,sDrop,sFor,fiS,fCall,fCons,fNil,fVar,List.getElem?_cons_zero,List.getElem?_cons_succ,Option.bind_some,Option.map_some,h1',h2]
def cntF (p:List Nat) (j:Nat):Int:=(p.count (j + 1):Int)
theorem cntF_snoc (p:List Nat) (a:Nat) (h1:1≤a):cntF (p++[a]) (a - 1)=cntF p (a - 1) + 1∧∀ i,i ≠ a - 1→cntF (p++[a]) i=cntF p i:=by
  unfold cntF
  refine ⟨?_,fun i hi=>?_⟩
  · rw [count_snoc,if_pos (by omega)]; omega
  · rw [count_snoc,if_neg (by omega)]; omega
theorem zeros_comp (ss:List (List Sk)):compL fYes (fC (.int 0)) [] (ss.map fun s=>D.lst (s.map sD))=some (cntD ss.length (cntF [])):=by
  rw [compL_map (te:=fC (.int 0)) (base:=[]) (fun s:List Sk=>D.lst (s.map sD)) (fun s:List Sk=>D.int 0) ss fun s _=>⟨_,by simp; rfl⟩]
  congr 1
  apply List.ext_getElem?
  intro i
  unfold cntD cntF
  by_cases h:i < ss.length
  · simp [h]
  · simp [h]
theorem taking {ss:List (List Sk)} {p q:List Nat} {a:Nat} (hw:Whole ss (p++a::q)) :
    (a:Int) - 1=((a - 1:Nat):Int)∧atI (cntD ss.length (cntF p)) ((a - 1:Nat):Int)=some (.int (p.count a:Int))∧(cntD ss.length (cntF p))[a - 1]?=some (.int (p.count a:Int)) ∧
      (cntD ss.length (cntF p)).set (a - 1) (.int ((p.count a:Int) + 1))=cntD ss.length (cntF (p++[a]))∧a - 1 < (cntD ss.length (cntF p)).length∧ixN (cntD ss.length (cntF p)).length ((a - 1:Nat):Int)=some (a - 1) ∧
      ∃ s:List Sk,atI (ss.map fun s=>D.lst (s.map sD)) ((a - 1:Nat):Int)=some (.lst (s.map sD))∧atI (s.map sD) (p.count a:Int)=some (sD (sackAt ss a (p.count a))):=by
  obtain ⟨s,hs,hc,hx,l1,l2⟩:=hw.at
  obtain ⟨e1,e2⟩:=cntF_snoc p a l1
  have ec:cntF p (a - 1)=(p.count a:Int):=by unfold cntF; rw [show a - 1 + 1=a by omega]
  have hset:=cntD_set ss.length (cntF p) (cntF (p++[a])) (a - 1) (fun i _ hi=>e2 i hi)
  rw [e1,ec] at hset
  refine ⟨by omega,?_,?_,hset,by rw [cntD_len]; omega,?_,s,at_map (fun s:List Sk=>D.lst (s.map sD)) hs,at_map sD hx⟩
  · rw [cntD_at _ _ _ (by omega),ec]
  · rw [cntD_get _ _ _ (by omega),ec]
  · rw [ixN_pos (by omega) (by rw [cntD_len]; omega)]
    congr 1
theorem taken_sacks_ok {ss:List (List Sk)} {os:List Nat} (h:Whole ss os) (hn:ss.length≤1000) (hl:os.length≤1000):m_taken_sacks [ssL ss,.lst (iD os)]=some (.lst ((tk ss os).map sD)):=by
  obtain ⟨e',h1,v4,rfl⟩:=forL_map (i:=4) (g:=b_taken_sacks_0) (fun a:Nat=>D.int (a:Int)) (fun p e=>∃ v4,e=[some (.sh (ssL ss)),some (.sh (.lst (iD os))),some (.ow (cntD ss.length (cntF p))),some (.ow ((tk ss p).map sD)),v4]) os
    [some (.sh (ssL ss)),some (.sh (.lst (iD os))),some (.ow (cntD ss.length (cntF []))),some (.ow []),none] ⟨none,rfl⟩ (by
      rintro p a q e hpq ⟨v4,rfl⟩
      have hw:Whole ss (p++a::q):=by rw [← hpq]; exact h
      obtain ⟨hz,hat,hget,hset,hlt,hix,s,hs1,hs2⟩:=taking hw
      have hf:Few (((tk ss p).map sD).length + 1):=few (by rw [List.length_map,tk_len]; rw [hpq] at hl; simp at hl; omega)
      have h0:(0:Int)≤((a - 1:Nat):Int):=by omega
      have ei:dIx (.lst (s.map sD)) (.int (p.count a:Int))=some (sD (sackAt ss a (p.count a))):=hs2
      refine ⟨[some (.sh (ssL ss)),some (.sh (.lst (iD os))),some (.ow (cntD ss.length (cntF (p++[a])))),some (.ow ((tk ss (p++[a])).map sD)),some (.sh (.int (a:Int)))],?_,_,rfl⟩
      rw [← hset,tk_snoc,List.map_append,List.map_cons,List.map_nil]
      unfold ssL
      generalize cntD ss.length (cntF p)=C at *
      generalize (ss.map fun s=>D.lst (s.map sD))=L at *
      generalize (tk ss p).map sD=M at *
      generalize s.map sD=S at *
      simp only [b_taken_sacks_0,sSeq,sDrop,sAugIt,augSl,fAppend,appSl,fBin,fIxV,ixSl,fVar,fC,dSub,dAddI,List.getElem?_cons_zero,List.getElem?_cons_succ,Option.bind_some,Option.map_some,List.set_cons_zero,List.set_cons_succ,hz,hat,hs1,ei,hf,h0,if_true,Int.toNat_natCast,hget,hlt])
  have hck:=check_order_ok h hn
  have hc:=zeros_comp ss
  have hf:Few (ss.map fun s=>D.lst (s.map sD)).length:=few (by rw [List.length_map]; omega)
  refine runD_rt (e':=[some (.sh (ssL ss)),some (.sh (.lst (iD os))),some (.ow (cntD ss.length (cntF os))),some (.sh (.lst ((tk ss os).map sD))),v4]) rfl ?_
  show s_taken_sacks [some (.sh (ssL ss)),some (.sh (.lst (iD os))),none,none,none]=_
  have h1':forL 4 b_taken_sacks_0 (iD os) [some (.sh (ssL ss)),some (.sh (.lst (iD os))),some (.ow (cntD ss.length (cntF []))),some (.ow []),none]=_:=h1
  unfold ssL at h1' hck ⊢
  generalize iD os=O at *
  generalize (ss.map fun s=>D.lst (s.map sD))=L at *
  simp only [s_taken_sacks,sSeq,sOwn,sDrop,sFor,sRet,fCall,fCons,fNil,fDisp,fComp,fiS,fVar,List.map_nil,List.length_nil,Nat.zero_le,List.getElem?_cons_zero,List.getElem?_cons_succ,Option.bind_some,Option.map_some,List.set_cons_zero,List.set_cons_succ,hck,hf,if_true,hc,h1']
theorem taken_law_ok {ss:List (List Sk)} {os:List Nat} (h:Whole ss os) (hn:ss.length≤1000) (hl:os.length≤1000):m__law_taken [ssL ss,.lst (iD os)]=some (.lst ((tk ss os).map sD)):=by
  obtain ⟨e',h1,v4,rfl⟩:=forL_map (i:=4) (g:=b__law_taken_0) (fun a:Nat=>D.int (a:Int)) (fun p e=>∃ v4,e=[some (.sh (ssL ss)),some (.sh (.lst (iD os))),some (.ow (cntD ss.length (cntF p))),some (.ow ((tk ss p).map sD)),v4]) os
    [some (.sh (ssL ss)),some (.sh (.lst (iD os))),some (.ow (cntD ss.length (cntF []))),some (.ow []),none] ⟨none,rfl⟩ (by
      rintro p a q e hpq ⟨v4,rfl⟩
      have hw:Whole ss (p++a::q):=by rw [← hpq]; exact h
      obtain ⟨hz,hat,hget,hset,hlt,hix,s,hs1,hs2⟩:=taking hw
      have hf:Few (((tk ss p).map sD).length + 1):=few (by rw [List.length_map,tk_len]; rw [hpq] at hl; simp at hl; omega)
      have ei:dIx (.lst (s.map sD)) (.int (p.count a:Int))=some (sD (sackAt ss a (p.count a))):=hs2
      refine ⟨[some (.sh (ssL ss)),some (.sh (.lst (iD os))),some (.ow (cntD ss.length (cntF (p++[a])))),some (.ow ((tk ss (p++[a])).map sD)),some (.sh (.int (a:Int)))],?_,_,rfl⟩
      rw [← hset,tk_snoc,List.map_append,List.map_cons,List.map_nil]
      unfold ssL
      generalize cntD ss.length (cntF p)=C at *
      generalize (ss.map fun s=>D.lst (s.map sD))=L at *
      generalize (tk ss p).map sD=M at *
      generalize s.map sD=S at *
      simp only [b__law_taken_0,sSeq,sDrop,sSetIt,setSl,fAppend,appSl,fBin,fIxV,ixSl,fVar,fC,dSub,dAddI,List.getElem?_cons_zero,List.getElem?_cons_succ,Option.bind_some,Option.map_some,List.set_cons_zero,List.set_cons_succ,hz,hat,hs1,ei,hf,if_true,hix])
  have hc:=zeros_comp ss
  have hf:Few (ss.map fun s=>D.lst (s.map sD)).length:=few (by rw [List.length_map]; omega)
  refine runD_rt (e':=[some (.sh (ssL ss)),some (.sh (.lst (iD os))),some (.ow (cntD ss.length (cntF os))),some (.sh (.lst ((tk ss os).map sD))),v4]) rfl ?_
  show s__law_taken [some (.sh (ssL ss)),some (.sh (.lst (iD os))),none,none,none]=_
  have h1':forL 4 b__law_taken_0 (iD os) [some (.sh (ssL ss)),some (.sh (.lst (iD os))),some (.ow (cntD ss.length (cntF []))),some (.ow []),none]=_:=h1
  unfold ssL at h1' ⊢
  generalize iD os=O at *
  generalize (ss.map fun s=>D.lst (s.map sD))=L at *
  simp only [s__law_taken,sSeq,sOwn,sFor,sRet,fNil,fDisp,fComp,fiS,fVar,List.map_nil,List.length_nil,Nat.zero_le,List.getElem?_cons_zero,List.getElem?_cons_succ,Option.bind_some,Option.map_some,List.set_cons_zero,List.set_cons_succ,hf,if_true,hc,h1']
end LB
set_option Elab.async false
set_option linter.all false
set_option maxRecDepth 100000
set_option maxHeartbeats 8000000
namespace LB
open PySem L2
theorem hrs_cons (x:Sk) (r:List Sk):hrs (x::r)=x.2.1 + hrs r:=by simp [hrs]
theorem lss_cons (x:Sk) (r:List Sk):lss (x::r)=x.2.2 + lss r:=by simp [lss]
def costR (h:Int):List Sk→Int
  | []=>0
  | x::r=>x.2.2 * (h + x.2.1) + costR (h + x.2.1) r
theorem costR_snoc (x:Sk):∀ (p:List Sk) (h:Int),costR h (p++[x])=costR h p + x.2.2 * (h + hrs p + x.2.1)
  | [],h=>by simp [costR,hrs]
  | y::p,h=>by
    rw [List.cons_append,costR,costR,costR_snoc x p,hrs_cons,← Int.add_assoc h]
    omega
theorem hours_ok (x:Sk):m_sack_hours [sD x]=some (.int x.2.1):=by simp [m_sack_hours,runD,s_sack_hours,dStart,sD,at3_1]
theorem loss_ok (x:Sk):m_sack_loss [sD x]=some (.int x.2.2):=by simp [m_sack_loss,runD,s_sack_loss,dStart,sD,at3_2]
theorem number_ok (x:Sk):m_sack_number [sD x]=some (.int x.1):=by simp [m_sack_number,runD,s_sack_number,dStart,sD,at3_0]
theorem order_cost_ok {ss:List (List Sk)} {os:List Nat} (h:Whole ss os) (hg:∀ x∈ss.flatten,GoodS x) (hn:ss.length≤1000) (hl:os.length≤900):m_order_cost [ssL ss,.lst (iD os)]=some (.int (costR 0 (tk ss os))):=by
  have ht:=taken_sacks_ok h hn (by omega)
  obtain ⟨e',h1,v4,rfl⟩:=forL_map (i:=4) (g:=b_order_cost_0) sD (fun p e=>∃ v4,e=[some (.sh (ssL ss)),some (.sh (.lst (iD os))),some (.sh (.int (costR 0 p))),some (.sh (.int (hrs p))),v4]) (tk ss os)
    [some (.sh (ssL ss)),some (.sh (.lst (iD os))),some (.sh (.int 0)),some (.sh (.int 0)),none] ⟨none,rfl⟩ (by
      rintro p x q e hpq ⟨v4,rfl⟩
      obtain ⟨_,_,_,_,g3,g4⟩:=hg x (h.sk x (by rw [hpq]; simp))
      have sm:Small x.2.2:=small_of (by omega)
      have e2:hrs (p++[x])=hrs p + x.2.1:=by rw [hrs_app]; simp [hrs]
      have e3:costR 0 (p++[x])=costR 0 p + x.2.2 * (hrs p + x.2.1):=by rw [costR_snoc,Int.zero_add]
      refine ⟨[some (.sh (ssL ss)),some (.sh (.lst (iD os))),some (.sh (.int (costR 0 (p++[x])))),some (.sh (.int (hrs (p++[x])))),some (.sh (sD x))],?_,_,rfl⟩
      rw [e2,e3]
      simp only [b_order_cost_0,sSeq,sSet,fBin,fVar,fCall,fCons,fNil,dAddI,List.getElem?_cons_zero,List.getElem?_cons_succ,Option.bind_some,Option.map_some,List.set_cons_zero,List.set_cons_succ,hours_ok,loss_ok,dMul_l sm])
  refine runD_rt (e':=[some (.sh (ssL ss)),some (.sh (.lst (iD os))),some (.sh (.int (costR 0 (tk ss os)))),some (.sh (.int (hrs (tk ss os)))),v4]) rfl ?_
  show s_order_cost [some (.sh (ssL ss)),some (.sh (.lst (iD os))),none,none,none]=_
  simp only [s_order_cost,sSeq,sSet,sFor,sRet,fC,fiS,fCall,fCons,fNil,fVar,List.getElem?_cons_zero,List.getElem?_cons_succ,Option.bind_some,Option.map_some,List.set_cons_zero,List.set_cons_succ,ht,h1]
end LB
set_option Elab.async false
set_option linter.all false
set_option maxRecDepth 100000
set_option maxHeartbeats 8000000
namespace LB
open PySem L2
theorem law_cost_ok (T:List Sk) (hg:∀ x∈T,GoodS x):m__law_cost [.lst (T.map sD)]=some (.int (costR 0 T)):=by
  obtain ⟨e',h1,v3,rfl⟩:=forL_map (i:=3) (g:=b__law_cost_0) sD (fun p e=>∃ v3,e=[some (.sh (.lst (T.map sD))),some (.sh (.int (hrs p))),some (.sh (.int (costR 0 p))),v3]) T
    [some (.sh (.lst (T.map sD))),some (.sh (.int 0)),some (.sh (.int 0)),none] ⟨none,rfl⟩ (by
      rintro p x q e hpq ⟨v3,rfl⟩
      obtain ⟨_,_,_,_,g3,g4⟩:=hg x (by rw [hpq]; simp)
      have sm:Small x.2.2:=small_of (by omega)
      have e2:hrs (p++[x])=hrs p + x.2.1:=by rw [hrs_app]; simp [hrs]
      have e3:costR 0 (p++[x])=costR 0 p + x.2.2 * (hrs p + x.2.1):=by rw [costR_snoc,Int.zero_add]
      refine ⟨[some (.sh (.lst (T.map sD))),some (.sh (.int (hrs (p++[x])))),some (.sh (.int (costR 0 (p++[x])))),some (.sh (sD x))],?_,_,rfl⟩
      rw [e2,e3]
      generalize T.map sD=TT at *
      unfold sD
      simp only [b__law_cost_0,sSeq,sSet,fBin,fVar,fIxV,ixSl,fC,dAddI,List.getElem?_cons_zero,List.getElem?_cons_succ,Option.bind_some,Option.map_some,List.set_cons_zero,List.set_cons_succ,at3_1,at3_2,dMul_l sm])
  refine runD_rt (e':=[some (.sh (.lst (T.map sD))),some (.sh (.int (hrs T))),some (.sh (.int (costR 0 T))),v3]) rfl ?_
  show s__law_cost [some (.sh (.lst (T.map sD))),none,none,none]=_
  simp only [s__law_cost,sSeq,sSet,sFor,sRet,fC,fiS,fVar,List.getElem?_cons_zero,List.getElem?_cons_succ,Option.bind_some,Option.map_some,List.set_cons_zero,List.set_cons_succ,h1]
theorem least_cost_ok {ss:List (List Sk)} {ts:List Tn} (ok:TurnsOk ss ts) (hbt:m_block_turns [ssL ss]=some (.lst (ts.map tnD))) (hg:∀ x∈ss.flatten,GoodS x) (hn:ss.length≤1000) (hl:ss.flatten.length≤14):m_least_cost [ssL ss]=some (.int (costR 0 (tk ss (toldN ts)))):=by
  have hord:=told_order_ok ok hbt hl
  have hw:=ok.whole
  have hco:=order_cost_ok hw hg hn (by rw [hw.len]; omega)
  refine runD_rt (e':=[some (.sh (ssL ss))]) rfl ?_
  show s_least_cost [some (.sh (ssL ss))]=_
  simp only [s_least_cost,sRet,fCall,fCallF,fLst,fCons,fNil,fVar,List.getElem?_cons_zero,Option.bind_some,Option.map_some,hord,hco]
end LB
set_option Elab.async false
set_option linter.all false
set_option maxRecDepth 100000
set_option maxHeartbeats 8000000
namespace LB
open PySem L2
theorem ofS_app (p q:List Tn) (j:Nat):ofS (p++q) j=ofS p j++ofS q j:=by unfold ofS; rw [List.filter_append,List.map_append]
end LB
set_option Elab.async false
set_option linter.all false
set_option maxRecDepth 100000
set_option maxHeartbeats 8000000
namespace LB
open PySem L2
end LB
set_option Elab.async false
set_option linter.all false
set_option maxRecDepth 100000
set_option maxHeartbeats 8000000
namespace LB
open PySem L2
theorem perm_out {α:Type}:∀ {l:List (List α)} {j:Nat} {r:List α} {x:α},l[j]?=some (x::r)→l.flatten.Perm (x::(l.set j r).flatten)
  | [],_,_,_,h=>by simp at h
  | s::l,0,r,x,h=>by
    have h:s=x::r:=by simpa using h
    subst h
    exact List.Perm.refl _
  | s::l,j + 1,r,x,h=>by
    have ih:=perm_out (l:=l) (j:=j) (r:=r) (x:=x) (by simpa using h)
    rw [List.flatten_cons,List.set_cons_succ,List.flatten_cons]
    exact (List.Perm.append_left s ih).trans List.perm_middle
end LB
set_option Elab.async false
set_option linter.all false
set_option maxRecDepth 100000
set_option maxHeartbeats 8000000
namespace LB
open PySem L2
def gapS (x y:Sk):Int:=x.2.2 * y.2.1 - y.2.2 * x.2.1
def prow (pos:Int→Int) (x:Sk) (q:List Sk):List (List Int):=(q.filter fun y=>decide (pos y.1 < pos x.1)).map fun y=>[x.1,y.1,gapS x y]
end LB
set_option Elab.async false
set_option linter.all false
set_option maxRecDepth 100000
set_option maxHeartbeats 8000000
namespace LB
open PySem L2
theorem perm_sumI {α:Type} (f:α→Int) {l l':List α} (p:l.Perm l'):(l.map f).sum=(l'.map f).sum:=by
  induction p with
  | nil=>rfl
  | cons x _ ih=>simp only [List.map_cons,List.sum_cons,ih]
  | swap x y l=>simp only [List.map_cons,List.sum_cons]; omega
  | trans _ _ h1 h2=>rw [h1,h2]
theorem costR_shift (d:Int):∀ (r:List Sk) (h:Int),costR (h + d) r=costR h r + d * lss r
  | [],h=>by simp [costR,lss]
  | x::r,h=>by
    rw [costR,costR,lss_cons,show h + d + x.2.1=h + x.2.1 + d by omega,costR_shift d r,Int.mul_add x.2.2,Int.mul_add d,Int.mul_comm d x.2.2]
    omega
def rowsR (pos:Int→Int):List Sk→List (List Int)
  | []=>[]
  | x::r=>prow pos x r++rowsR pos r
def r3 (r:List Int):Int:=r.getD 2 0
def srt (r:List Int):List Int:=[if r.getD 0 0≤r.getD 1 0 then r.getD 0 0 else r.getD 1 0,if r.getD 0 0≤r.getD 1 0 then r.getD 1 0 else r.getD 0 0]
end LB
set_option Elab.async false
set_option linter.all false
set_option maxRecDepth 100000
set_option maxHeartbeats 8000000
namespace LB
open PySem L2
theorem isi_list (l:List D):isiT (tyD (D.lst l)) "list" = true:=rfl
theorem is_order_ok {ss:List (List Sk)} {os:List Nat} (h:Whole ss os) (hn:ss.length≤1000):m__law_is_order [.lst (iD os),ssL ss]=some (.bl true):=by
  obtain ⟨e',h1,v3,rfl⟩:=forL_map (i:=3) (g:=b__law_is_order_0) (fun a:Nat=>D.int (a:Int)) (fun p e=>∃ v3,e=[some (.sh (.lst (iD os))),some (.sh (ssL ss)),some (.ow (cntD ss.length (cntF p))),v3,none]) os
    [some (.sh (.lst (iD os))),some (.sh (ssL ss)),some (.ow (cntD ss.length (cntF []))),none,none] ⟨none,rfl⟩ (by
      rintro p a q e hpq ⟨v3,rfl⟩
      have hw:Whole ss (p++a::q):=by rw [← hpq]; exact h
      obtain ⟨hz,hat,hget,hset,hlt,hix,s,hs1,hs2⟩:=taking hw
      obtain ⟨_,_,_,_,l1,l2⟩:=hw.at
      have wh:=whole_ok (a:Int)
      have c1:decide ((a:Int) < 1)=false:=decide_eq_false (by omega)
      have c2:decide ((a:Int) > ((ss.map fun s=>D.lst (s.map sD)).length:Int))=false:=decide_eq_false (by rw [List.length_map]; omega)
      refine ⟨[some (.sh (.lst (iD os))),some (.sh (ssL ss)),some (.ow (cntD ss.length (cntF (p++[a])))),some (.sh (.int (a:Int))),none],?_,_,rfl⟩
      rw [← hset]
      unfold ssL
      generalize cntD ss.length (cntF p)=C at *
      generalize (ss.map fun s=>D.lst (s.map sD))=L at *
      simp only [b__law_is_order_0,sSeq,sIf,sNil,sSetIt,setSl,fOr,fNot,fTst,fCall,fCons,fNil,fBin,fIxV,ixSl,fLenV,fVar,fC,dSub,dAddI,dLt,dGt,List.getElem?_cons_zero,List.getElem?_cons_succ,Option.bind_some,Option.map_some,List.set_cons_zero,List.set_cons_succ,wh,c1,c2,hz,hat,hs1,if_true,hix,Bool.not_true,Bool.false_eq_true,if_false])
  obtain ⟨e2,h2,v4,rfl⟩:=forL_inv0 (i:=4) (g:=b__law_is_order_1) (fun k e=>∃ v4,e=[some (.sh (.lst (iD os))),some (.sh (ssL ss)),some (.ow (cntD ss.length (cntF os))),v3,v4]) (rngD 0 ss.length)
    [some (.sh (.lst (iD os))),some (.sh (ssL ss)),some (.ow (cntD ss.length (cntF os))),v3,none] ⟨none,rfl⟩ (by
      rintro k d e hd ⟨v4,rfl⟩
      obtain ⟨rfl,hk⟩:=rngD_get hd
      have hat:=cntD_at ss.length (cntF os) k hk
      have hs1:atI (ss.map fun s=>D.lst (s.map sD)) (k:Int)=some (.lst (ss[k].map sD)):=at_map (fun s:List Sk=>D.lst (s.map sD)) (List.getElem?_eq_getElem hk)
      have hc:cntF os k=(ss[k].length:Int):=by unfold cntF; rw [h.cnt k ss[k] (List.getElem?_eq_getElem hk)]
      have hb:bLen [.lst (ss[k].map sD)]=some (.int (ss[k].length:Int)):=by show some (D.int ((ss[k].map sD).length:Nat))=_; rw [List.length_map]
      refine ⟨[some (.sh (.lst (iD os))),some (.sh (ssL ss)),some (.ow (cntD ss.length (cntF os))),v3,some (.sh (.int (k:Int)))],?_,_,rfl⟩
      rw [hc] at hat
      unfold ssL
      generalize cntD ss.length (cntF os)=C at *
      generalize (ss.map fun s=>D.lst (s.map sD))=L at *
      simp only [b__law_is_order_1,sIf,sNil,fTst,fCall,fCons,fNil,fBin,fIxV,ixSl,fVar,dNe,Int.zero_add,List.getElem?_cons_zero,List.getElem?_cons_succ,Option.bind_some,Option.map_some,List.set_cons_zero,List.set_cons_succ,hat,hs1,hb,decide_true,Bool.not_true,Bool.false_eq_true,if_false])
  have hc:=zeros_comp ss
  have hf:Few (ss.map fun s=>D.lst (s.map sD)).length:=few (by rw [List.length_map]; omega)
  have hr:iR1 [.int ((ss.map fun s=>D.lst (s.map sD)).length:Int)]=some (rngD 0 ss.length):=by rw [List.length_map]; exact iR1_ok _ (by omega)
  refine runD_rt (e':=[some (.sh (.lst (iD os))),some (.sh (ssL ss)),some (.ow (cntD ss.length (cntF os))),v3,v4]) rfl ?_
  show s__law_is_order [some (.sh (.lst (iD os))),some (.sh (ssL ss)),none,none,none]=_
  have h1':forL 3 b__law_is_order_0 (iD os) [some (.sh (.lst (iD os))),some (.sh (ssL ss)),some (.ow (cntD ss.length (cntF []))),none,none]=_:=h1
  unfold ssL at h1' h2 ⊢
  generalize iD os=O at *
  generalize (ss.map fun s=>D.lst (s.map sD))=L at *
  simp only [s__law_is_order,sSeq,sOwn,sIf,sNil,sFor,sRet,fNot,fTst,fIsi,fC,fComp,fiS,fCallF,fCons,fNil,fLenV,fVar,List.map_nil,List.length_nil,Nat.zero_le,List.getElem?_cons_zero,List.getElem?_cons_succ,Option.bind_some,Option.map_some,List.set_cons_zero,List.set_cons_succ,hf,if_true,hc,h1',h2,hr,isi_list,Bool.not_true,Bool.false_eq_true,if_false]
end LB
set_option Elab.async false
set_option linter.all false
set_option maxRecDepth 100000
set_option maxHeartbeats 8000000
namespace LB
open PySem L2
def PS (w C:Sk→Int) (P:Int):List Sk→Int
  | x::y::r=>-(P + w x) * (C y - C x - y.2.1) + PS w C (P + w x) (y::r)
  | _=>0
end LB
set_option Elab.async false
set_option linter.all false
set_option maxRecDepth 100000
set_option maxHeartbeats 8000000
namespace LB
open PySem L2
theorem tk_rep {ss:List (List Sk)} {a:Nat} {s:List Sk} (hs:ss[a - 1]?=some s) (p:List Nat):∀ k:Nat,p.count a + k≤s.length→tk ss (p++List.replicate k a)=tk ss p++(s.drop (p.count a)).take k
  | 0,_=>by simp
  | k + 1,h=>by
    rw [List.replicate_succ',← List.append_assoc,tk_snoc,tk_rep hs p k (by omega),List.append_assoc]
    congr 1
    rw [List.count_append,List.count_replicate_self]
    have hlt:p.count a + k < s.length:=by omega
    rw [List.take_succ]
    congr 1
    rw [List.getElem?_drop,List.getElem?_eq_getElem hlt]
    unfold sackAt
    rw [List.getD_eq_getElem?_getD,List.getD_eq_getElem?_getD,hs]
    simp [hlt]
theorem tk_told {ss:List (List Sk)} {ts:List Tn} (ok:TurnsOk ss ts):tk ss (toldN ts)=(ts.map (·.2)).flatten:=by
  have key:∀ p:List Tn,∀ q,ts=p++q→tk ss (toldN p)=(p.map (·.2)).flatten:=by
    apply rev_ind
    · intro q _; rfl
    · intro p t ih q hq
      rw [List.append_assoc,List.singleton_append] at hq
      have ih:=ih (t::q) hq
      obtain ⟨h1,h2⟩:=ok.lo t (by rw [hq]; simp)
      have hs:ss[t.1 - 1]?=some ss[t.1 - 1]:=List.getElem?_eq_getElem (by omega)
      have hp:=ok.part _ _ hs
      rw [hq,ofS_app,ofS_cons_eq t q (t.1 - 1) (by omega),List.flatten_append,List.flatten_cons] at hp
      have hc:=told_cnt p (t.1 - 1)
      rw [show t.1 - 1 + 1=t.1 by omega] at hc
      rw [toldN_app,toldN_one,tk_rep hs _ _ (by rw [hc,← hp]; simp),ih,hc,← hp]
      simp
  exact key ts [] (by simp)
end LB
set_option Elab.async false
set_option linter.all false
set_option maxRecDepth 100000
set_option maxHeartbeats 8000000
namespace LB
open PySem L2
theorem len_sum (l:List (List Sk)):(l.map fun s:List Sk=>(s.length:Int)).sum=(l.flatten.length:Int):=by
  induction l with
  | nil=>rfl
  | cons a l ih=>rw [List.map_cons,List.sum_cons,ih,List.flatten_cons,List.length_append]; omega
theorem in_all_ok (ss:List (List Sk)) (hl:ss.length≤1000):m_sacks_in_all [ssL ss]=some (.int (ss.flatten.length:Int)):=by
  have c:=compL_map (te:=fLenV 0) (base:=[]) (fun s:List Sk=>D.lst (s.map sD)) (fun s:List Sk=>D.int (s.length:Int)) ss fun s _=>⟨_,by simp; rfl⟩
  have hb:=bSum_h (fun s:List Sk=>(s.length:Int)) ss
  have hf:Few (ss.map fun s=>D.lst (s.map sD)).length:=few (by rw [List.length_map]; omega)
  rw [len_sum] at hb
  refine runD_rt (e':=[some (.sh (ssL ss))]) rfl ?_
  show s_sacks_in_all [some (.sh (ssL ss))]=_
  unfold ssL
  generalize (ss.map fun s=>D.lst (s.map sD))=L at *
  simp only [s_sacks_in_all,sRet,fCall,fCons,fLst,fComp,fiS,fVar,fNil,List.getElem?_cons_zero,Option.bind_some,Option.map_some,hf,if_true,List.map_nil,c,hb]
theorem loss_all_ok (ss:List (List Sk)) (hr:∀ s∈ss,s.length≤1000):m_loss_in_all [ssL ss]=some (.int (lss ss.flatten)):=by
  obtain ⟨e',h1,v2,rfl⟩:=forL_map (i:=2) (g:=b_loss_in_all_0) (fun s:List Sk=>D.lst (s.map sD)) (fun p e=>∃ v2,e=[some (.sh (ssL ss)),some (.sh (.int (lss p.flatten))),v2]) ss
    [some (.sh (ssL ss)),some (.sh (.int 0)),none] ⟨none,rfl⟩ (by
      rintro p s q e hpq ⟨v2,rfl⟩
      have c:=compL_map (te:=fCall m_sack_loss (fCons (fVar 0) fNil)) (base:=[]) sD (fun x:Sk=>D.int x.2.2) s fun x _=>⟨_,by simp only [fCall,fCons,fVar,fNil,List.getElem?_cons_zero,Option.bind_some,loss_ok,Option.map_some]; rfl⟩
      have hb:=bSum_h (fun x:Sk=>x.2.2) s
      have hf:Few (s.map sD).length:=few (by rw [List.length_map]; have:=hr s (by rw [hpq]; simp); omega)
      have e1:lss (p++[s]).flatten=lss p.flatten + (s.map fun x:Sk=>x.2.2).sum:=by rw [List.flatten_append,lss_app]; simp [lss]
      refine ⟨[some (.sh (ssL ss)),some (.sh (.int (lss (p++[s]).flatten))),some (.sh (.lst (s.map sD)))],?_,_,rfl⟩
      rw [e1]
      generalize s.map sD=L at *
      simp only [b_loss_in_all_0,sSet,fBin,fCall,fCons,fLst,fComp,fiS,fVar,fNil,dAddI,List.getElem?_cons_zero,List.getElem?_cons_succ,List.set_cons_zero,List.set_cons_succ,Option.bind_some,Option.map_some,hf,if_true,List.map_nil,c,hb])
  refine runD_rt (e':=[some (.sh (ssL ss)),some (.sh (.int (lss ss.flatten))),v2]) rfl ?_
  show s_loss_in_all [some (.sh (ssL ss)),none,none]=_
  have h1':forL 2 b_loss_in_all_0 (ss.map fun s=>D.lst (s.map sD)) [some (.sh (ssL ss)),some (.sh (.int 0)),none]=_:=h1
  unfold ssL at *
  generalize (ss.map fun s=>D.lst (s.map sD))=L at *
  simp only [s_loss_in_all,sSeq,sSet,sFor,sRet,fC,fiS,fVar,List.getElem?_cons_zero,List.getElem?_cons_succ,List.set_cons_zero,List.set_cons_succ,Option.bind_some,Option.map_some,h1']
theorem at_ss {ss:List (List Sk)} {a:Nat} {s:List Sk} (h:ss[a - 1]?=some s) (l1:1≤a):atI (ss.map fun s=>D.lst (s.map sD)) ((a:Int) - 1)=some (.lst (s.map sD)):=by
  rw [show ((a:Int) - 1)=((a - 1:Nat):Int) by omega]
  exact at_map _ h
theorem top_ok {ss:List (List Sk)} {a:Nat} {x:Sk} {r:List Sk} (h:ss[a - 1]?=some (x::r)) (l1:1≤a):m_top_sack [ssL ss,.int (a:Int)]=some (sD x):=by
  have h1:=at_ss h l1
  have h2:atI ((x::r).map sD) (0:Int)=some (sD x):=at_map sD (k:=0) rfl
  refine runD_rt (e':=[some (.sh (ssL ss)),some (.sh (.int (a:Int)))]) rfl ?_
  show s_top_sack [some (.sh (ssL ss)),some (.sh (.int (a:Int)))]=_
  unfold ssL
  generalize (ss.map fun s=>D.lst (s.map sD))=L at *
  generalize (x::r).map sD=M at *
  simp only [s_top_sack,sRet,fBin,fIxV,ixSl,fVar,fC,dIx,dSub,List.getElem?_cons_zero,List.getElem?_cons_succ,Option.bind_some,Option.map_some,h1,h2]
theorem set_cut {α:Type} (l:List α) (k:Nat) (x:α) (h:k < l.length):l.take k++[x]++l.drop (k + 1)=l.set k x:=by
  rw [List.set_eq_take_append_cons_drop,if_pos h]
  simp
theorem cut_take (l:List D) (k:Nat) (h:k≤l.length):cutD l none (some (k:Int))=l.take k:=by
  have:=cut_fst (l.take k) (l.drop k)
  rwa [List.take_append_drop,List.length_take,Nat.min_eq_left h] at this
theorem cut_drop (l:List D) (k:Nat) (h:k≤l.length):cutD l (some (k:Int)) none=l.drop k:=by
  have:=cut_snd (l.take k) (l.drop k)
  rwa [List.take_append_drop,List.length_take,Nat.min_eq_left h] at this
theorem with_stack_ok {ss:List (List Sk)} {a:Nat} (s:List Sk) (l1:1≤a) (l2:a≤ss.length) (hl:ss.length≤1000):m_with_stack [ssL ss,.int (a:Int),.lst (s.map sD)]=some (ssL (ss.set (a - 1) s)):=by
  have ll:(ss.map fun s=>D.lst (s.map sD)).length=ss.length:=List.length_map ..
  have c1:=cut_take (ss.map fun s=>D.lst (s.map sD)) (a - 1) (by omega)
  have c2:=cut_drop (ss.map fun s=>D.lst (s.map sD)) a (by omega)
  have e1:((a:Int) - 1)=((a - 1:Nat):Int):=by omega
  have e2:=set_cut (ss.map fun s=>D.lst (s.map sD)) (a - 1) (D.lst (s.map sD)) (by omega)
  rw [show a - 1 + 1=a by omega] at e2
  have f1:Few ((((ss.map fun s=>D.lst (s.map sD)).take (a - 1)).length) + (0 + 1)):=few (by simp only [List.length_take]; omega)
  have f2:Few (((ss.map fun s=>D.lst (s.map sD)).take (a - 1)++[D.lst (s.map sD)]).length + ((ss.map fun s=>D.lst (s.map sD)).drop a).length):=few (by simp only [List.length_append,List.length_take,List.length_drop,List.length_cons,List.length_nil]; omega)
  have e3:ssL (ss.set (a - 1) s)=.lst ((ss.map fun s=>D.lst (s.map sD)).set (a - 1) (D.lst (s.map sD))):=by unfold ssL; rw [List.map_set]
  refine runD_rt (e':=[some (.sh (ssL ss)),some (.sh (.int (a:Int))),some (.sh (.lst (s.map sD)))]) rfl ?_
  show s_with_stack [some (.sh (ssL ss)),some (.sh (.int (a:Int))),some (.sh (.lst (s.map sD)))]=_
  rw [e3,← e2]
  unfold ssL
  generalize (ss.map fun s=>D.lst (s.map sD))=L at *
  generalize s.map sD=M at *
  simp only [s_with_stack,sRet,fLst,fCat,fSl,fO0,fO1,fDisp,fCons,fNil,fVar,fBin,fC,dSub,e1,List.getElem?_cons_zero,List.getElem?_cons_succ,Option.bind_some,Option.map_some,c1,c2,f1,f2,if_true,List.length_cons,List.length_nil,show (0 + 1≤64)=True by simp]
theorem without_ok {ss:List (List Sk)} {a:Nat} {x:Sk} {r:List Sk} (h:ss[a - 1]?=some (x::r)) (l1:1≤a) (hl:ss.length≤1000):m_without_top [ssL ss,.int (a:Int)]=some (ssL (ss.set (a - 1) r)):=by
  have h1:=at_ss h l1
  have l2:=(List.getElem?_eq_some_iff.mp h).1
  have c:cutD ((x::r).map sD) (some ((1:Nat):Int)) none=((x::r).map sD).drop 1:=cut_drop _ 1 (by simp)
  rw [show ((x::r).map sD).drop 1=r.map sD from rfl] at c
  have hw:=with_stack_ok (ss:=ss) r l1 (by omega) hl
  refine runD_rt (e':=[some (.sh (ssL ss)),some (.sh (.int (a:Int)))]) rfl ?_
  show s_without_top [some (.sh (ssL ss)),some (.sh (.int (a:Int)))]=_
  have c:cutD ((x::r).map sD) (some (1:Int)) none=r.map sD:=c
  unfold ssL at *
  generalize (ss.map fun s=>D.lst (s.map sD))=L at *
  generalize (x::r).map sD=M at *
  simp only [s_without_top,sRet,fCall,fCons,fNil,fLst,fSl,fO0,fO1,fIxV,ixSl,fVar,fBin,fC,dSub,List.getElem?_cons_zero,List.getElem?_cons_succ,Option.bind_some,Option.map_some,h1,c,hw]
theorem suf_ge {p b:List Sk} {B:List Sk} (h:B=p++b) (g:Good B):¬ gt (blk B) (blk b):=by
  have h1:=g.beg p ⟨b,h.symm⟩
  have e1:hrs B=hrs p + hrs b:=by rw [h,hrs_app]
  have e2:lss B=lss p + lss b:=by rw [h,lss_app]
  show ¬ lss b * hrs B < lss B * hrs b
  rw [e1,e2] at h1 ⊢
  simp only [Int.add_mul,Int.mul_add] at h1 ⊢
  omega
theorem ofS_mapc (a:Nat) (rs:List (List Sk)) (j:Nat):ofS (rs.map fun b=>(a,b)) j=if a=j + 1 then rs else []:=by
  unfold ofS
  induction rs with
  | nil=>simp
  | cons b r ih =>
    rw [List.map_cons]
    by_cases h:a=j + 1
    · rw [List.filter_cons_of_pos (by simp [h]),List.map_cons,ih,if_pos h,if_pos h]
    · rw [List.filter_cons_of_neg (by simp [h]),ih,if_neg h,if_neg h]
theorem toldN_mapc (a:Nat) (rs:List (List Sk)):toldN (rs.map fun b=>(a,b))=List.replicate rs.flatten.length a:=by
  unfold toldN
  induction rs with
  | nil=>simp
  | cons b r ih =>
    rw [List.map_cons,List.map_cons,List.flatten_cons,ih,List.flatten_cons,List.length_append,List.replicate_append_replicate]
theorem dry_turns {ss:List (List Sk)} {a:Nat} {x:Sk} {r:List Sk} {ts:List Tn} (ok:TurnsOk ss ((a,x::r)::ts)) (hg:∀ y∈ss.flatten,GoodS y) (hl:ss.flatten.length≤14) :
    ∃ tl ts',ss[a - 1]?=some (x::tl)∧1≤a∧a≤ss.length∧TurnsOk (ss.set (a - 1) tl) ts'∧toldN ts'=List.replicate r.length a++toldN ts∧(ts'.map (·.2)).flatten=r++(ts.map (·.2)).flatten:=by
  have lo:=ok.lo (a,x::r) (by simp)
  have gB:=ok.good (a,x::r) (by simp)
  have skB:=ok.sk hg (a,x::r) (by simp)
  have l14:=ok.len1 (a,x::r) (by simp)
  simp only at lo gB skB l14
  have hss:=ok.left
  have htop:=leftOf_top (n:=ss.length) (t:=(a,x::r)) (ts:=ts) lo.1 lo.2
  rw [hss] at htop
  simp only [List.cons_append] at htop
  obtain ⟨rs,hr,_⟩:=stack_blocks_ok r (fun y hy=>skB y (by simp [hy])) (by rw [List.length_cons] at l14; omega)
  have pos:∀ b∈rs,0 < hrs b:=fun b hb=>hrs_pos b (fun y hy=>skB y (List.mem_cons_of_mem _ (by rw [← hr.flat]; exact List.mem_flatten.mpr ⟨b,by simpa using hb,hy⟩))) (hr.good b hb).ne
  have pB:0 < hrs (x::r):=hrs_pos _ skB (by simp)
  have pw:=desc_pw rs hr.desc pos
  have ge:∀ b∈rs,¬ gt (blk (x::r)) (blk b):=by
    cases rs with
    | nil=>intro b hb; cases hb
    | cons bl rs' =>
      have hfl:x::r=(x::rs'.reverse.flatten)++bl:=by rw [← hr.flat]; simp
      have h0:=suf_ge hfl gB
      intro b hb
      rcases List.mem_cons.mp hb with rfl | hb'
      · exact h0
      · exact ge_ge (pos b hb) (pos bl (by simp)) pB (fun z=>gt_asym ((List.pairwise_cons.mp pw).1 b hb') z) h0
  have hsrt:=ok.srt
  obtain ⟨hs1,hs2⟩:=List.pairwise_cons.mp hsrt
  have lo':∀ t∈rs.reverse.map (fun b=>(a,b))++ts,1≤t.1∧t.1≤ss.length:=fun t ht=>by
    rcases List.mem_append.mp ht with h | h
    · obtain ⟨b,_,rfl⟩:=List.mem_map.mp h; exact lo
    · exact ok.lo t (by simp [h])
  have hleft:leftOf ss.length (rs.reverse.map (fun b=>(a,b))++ts)=ss.set (a - 1) (r++(ofS ts (a - 1)).flatten):=by
    apply List.ext_getElem?
    intro j
    by_cases hj:j < ss.length
    · rw [leftOf_get hj,List.getElem?_set,ofS_app,ofS_mapc]
      by_cases e:a - 1=j
      · subst e
        rw [if_pos (by omega),if_pos rfl,if_pos hj,List.flatten_append,hr.flat]
      · rw [if_neg (by omega),if_neg e]
        have:=ok.part j ss[j] (by simp [hj])
        rw [ofS_cons_ne _ _ _ (by simp; omega)] at this
        simp [this,hj]
    · rw [List.getElem?_eq_none (by rw [leftOf_len]; omega),List.getElem?_eq_none (by rw [List.length_set]; omega)]
  refine ⟨r++(ofS ts (a - 1)).flatten,rs.reverse.map (fun b=>(a,b))++ts,htop,lo.1,lo.2,?_,?_,?_⟩
  · rw [← hleft]
    refine ⟨fun t ht=>by rw [leftOf_len]; exact lo' t ht,fun t ht=>?_,fun j s hj=>?_,?_,leftOf_perm lo'⟩
    · rcases List.mem_append.mp ht with h | h
      · obtain ⟨b,hb,rfl⟩:=List.mem_map.mp h; exact hr.good b (by simpa using hb)
      · exact ok.good t (by simp [h])
    · have hl:=(List.getElem?_eq_some_iff.mp hj).1
      rw [leftOf_len] at hl
      rw [leftOf_get hl] at hj
      exact Option.some.inj hj
    · rw [List.pairwise_append]
      refine ⟨?_,hs2,fun t ht u hu=>?_⟩
      · rw [List.pairwise_map,List.pairwise_reverse]
        exact pw.imp fun h=>.inl h
      · obtain ⟨b,hb,rfl⟩:=List.mem_map.mp ht
        have hb:b∈rs:=by simpa using hb
        have pu:0 < hrs u.2:=ok.pos hg u (by simp [hu])
        rcases hs1 u hu with z | ⟨z1,z2⟩
        · exact .inl (ge_gt (n:=blk b) (c:=blk (x::r)) (b:=blk u.2) (pos b hb) pB pu (ge b hb) z)
        · exact .inr ⟨ge_ge (n:=blk b) (c:=blk (x::r)) (b:=blk u.2) (pos b hb) pB pu (ge b hb) z1,z2⟩
  · rw [toldN_app,toldN_mapc,hr.flat]
  · rw [List.map_append,List.flatten_append,List.map_map]
    show ((rs.reverse.map fun b=>b).flatten)++_=_
    rw [List.map_id',hr.flat]
def dryR (h l:Int):List Sk→List (List Int)
  | []=>[]
  | x::r=>[x.1,h + x.2.1,l + x.2.1 * lss (x::r),costR 0 r]::dryR (h + x.2.1) (l + x.2.1 * lss (x::r)) r
theorem dryR_len:∀ (T:List Sk) (h l:Int),(dryR h l T).length=T.length
  | [],_,_=>rfl
  | x::r,h,l=>by rw [dryR,List.length_cons,List.length_cons,dryR_len r]
theorem dry_while (S:Option Sl):∀ (T:List Sk) (fuel:Nat) (ss:List (List Sk)) (ts:List Tn) (M:List D) (h l:Int) (v5 v6:Option Sl),T.length < fuel→M.length + T.length≤1000→TurnsOk ss ts→(ts.map (·.2)).flatten=T→(∀ y∈ss.flatten,GoodS y)→ss.flatten.length≤14→ss.length≤900 →
    ∃ w2 w3 w4 w5 w6,whileF (fTst (fBin dGt (fCall m_sacks_in_all (fCons (fVar 4) (fNil))) (fC (.int 0)))) b_dry_on_0 fuel [S,some (.ow M),some (.sh (.int h)),some (.sh (.int l)),some (.sh (ssL ss)),v5,v6]=some (.nx,[S,some (.ow (M++(dryR h l T).map iT)),w2,w3,w4,w5,w6])
  | _,0,_,_,_,_,_,_,_,hf,_,_,_,_,_,_=>by omega
  | T,f + 1,ss,ts,M,h,l,v5,v6,hf,hM,ok,hT,hg,hl,hn=>by
    have hall:=in_all_ok ss (by omega)
    have hpl:(ss.flatten.length:Int)=(T.length:Int):=by rw [← ok.perm.length_eq,hT]
    rw [hpl] at hall
    unfold whileF
    simp only [fTst,fBin,fCall,fCons,fVar,fNil,fC,dGt,List.getElem?_cons_zero,List.getElem?_cons_succ,Option.bind_some,Option.map_some,hall]
    cases T with
    | nil=>exact ⟨some (.sh (.int h)),some (.sh (.int l)),some (.sh (ssL ss)),v5,v6,by simp [dryR]⟩
    | cons x r =>
      rw [if_pos (by simp)]
      cases ts with
      | nil=>cases hT
      | cons t ts =>
        obtain ⟨a,B⟩:=t
        cases B with
        | nil=>exact absurd rfl (ok.good (a,[]) (by simp)).ne
        | cons x' r' =>
          simp only [List.map_cons,List.flatten_cons,List.cons_append,List.cons.injEq] at hT
          obtain ⟨rfl,hT⟩:=hT
          obtain ⟨ts1,ok1,hbt⟩:=block_turns_ok ss hg hl
          have htd:=told_order_ok ok1 hbt hl
          have hu:ts1.map tnD=((a,x'::r')::ts).map tnD:=by
            have h1:=turns_ok ok1 hg hl hn
            rw [turns_ok ok hg hl hn] at h1
            exact (by simpa using h1:_=_) |>.symm
          obtain ⟨tl,ts',htop,l1,l2,ok',hto,hfl⟩:=dry_turns ok hg hl
          have ht0:atI (iD (toldN ts1)) 0=some (.int (a:Int)):=by
            cases ts1 with
            | nil=>simp at hu
            | cons t1 ts1 =>
              simp only [List.map_cons,List.cons.injEq,tnD,D.tup.injEq,D.int.injEq,true_and,and_true] at hu
              obtain ⟨⟨e1,e2,_⟩,_⟩:=hu
              have e1:t1.1=a:=by omega
              have e2:t1.2.length=r'.length + 1:=by simp at e2; omega
              have:(iD (toldN (t1::ts1)))[0]?=some (.int (a:Int)):=by
                unfold iD toldN
                rw [List.map_cons,List.flatten_cons,e1,e2,List.replicate_succ]
                rfl
              exact at_map (fun n:Nat=>D.int (n:Int)) (k:=0) (x:=a) (by
                unfold toldN
                rw [List.map_cons,List.flatten_cons,e1,e2,List.replicate_succ]
                rfl)
          have htop1:=top_ok htop l1
          have hwo:=without_ok htop l1 (by omega)
          have hss:∀ s∈ss,s.length≤1000:=fun s hs=>Nat.le_trans (List.sublist_flatten_of_mem hs).length_le (by omega)
          have hlo:=loss_all_ok ss hss
          have hls:lss ss.flatten=lss (x'::r):=by
            have:=perm_sumI (fun y:Sk=>y.2.2) ok.perm
            simp only [List.map_cons,List.flatten_cons,List.cons_append,hT] at this
            exact this.symm
          rw [hls] at hlo
          have hsub:ss.flatten.Perm (x'::(ss.set (a - 1) tl).flatten):=perm_out htop
          have hg':∀ y∈(ss.set (a - 1) tl).flatten,GoodS y:=fun y hy=>hg y (hsub.mem_iff.mpr (List.mem_cons_of_mem _ hy))
          have hl':(ss.set (a - 1) tl).flatten.length≤14:=by have:=hsub.length_eq; rw [List.length_cons] at this; omega
          obtain ⟨ts2,ok2,hbt2⟩:=block_turns_ok (ss.set (a - 1) tl) hg' hl'
          have hlc:=least_cost_ok ok2 hbt2 hg' (by rw [List.length_set]; omega) hl'
          have hfl':(ts2.map (·.2)).flatten=r:=by
            have e1:=turns_ok ok2 hg' hl' (by rw [List.length_set]; omega)
            rw [turns_ok ok' hg' hl' (by rw [List.length_set]; omega)] at e1
            have e1:ts'.map tnD=ts2.map tnD:=by simpa using e1
            have ek:∀ (A B:List Tn),A.map tnD=B.map tnD→toldN A=toldN B:=fun A=>by
              induction A with
              | nil=>intro B h; cases B with | nil=>rfl | cons b B=>cases h
              | cons a A ih =>
                intro B h
                cases B with
                | nil=>cases h
                | cons b B =>
                  simp only [List.map_cons,List.cons.injEq,tnD,D.tup.injEq,D.int.injEq,true_and,and_true] at h
                  obtain ⟨⟨h1,h2,_⟩,h3⟩:=h
                  have:=ih B h3
                  unfold toldN at this ⊢
                  rw [List.map_cons,List.map_cons,List.flatten_cons,List.flatten_cons,this,show a.1=b.1 by omega,show a.2.length=b.2.length by omega]
            have:=ek _ _ e1
            rw [← tk_told ok2,← this,tk_told ok',hfl,hT]
          rw [tk_told ok2,hfl'] at hlc
          have gx:=hg x' (hsub.mem_iff.mpr (by simp))
          have sm:Small x'.2.1:=small_of (by obtain ⟨_,_,g1,g2,_⟩:=gx; omega)
          have hstep:b_dry_on_0 [S,some (.ow M),some (.sh (.int h)),some (.sh (.int l)),some (.sh (ssL ss)),v5,v6]=some (.nx,[S,some (.ow (M++[iT [x'.1,h + x'.2.1,l + x'.2.1 * lss (x'::r),costR 0 r]])),some (.sh (.int (h + x'.2.1))),some (.sh (.int (l + x'.2.1 * lss (x'::r)))),some (.sh (ssL (ss.set (a - 1) tl))),some (.sh (.int (a:Int))),some (.sh (sD x'))]):=by
            have f1:Few (M.length + 1):=few (by simp at hM; omega)
            have f4:(([D.int x'.1,.int (h + x'.2.1),.int (l + x'.2.1 * lss (x'::r)),.int (costR 0 r)]:List D).length≤64)=True:=by simp
            show _=some (Fl.nx,[S,some (.ow (M++[D.tup [D.int x'.1,.int (h + x'.2.1),.int (l + x'.2.1 * lss (x'::r)),.int (costR 0 r)]])),_,_,_,_,_])
            generalize lss (x'::r)=LS at *
            generalize costR 0 r=CR at *
            generalize iD (toldN ts1)=TD at *
            simp only [b_dry_on_0,sSeq,sSet,sDrop,fBin,fCall,fCallF,fLst,fCons,fVar,fNil,fC,fTup,fAppend,appSl,dIx,dAddI,dMul_l sm,List.getElem?_cons_zero,List.getElem?_cons_succ,List.set_cons_zero,List.set_cons_succ,Option.bind_some,Option.map_some,htd,ht0,htop1,hours_ok,number_ok,hlo,hwo,hlc,f4,f1,if_true]
          rw [hstep,Option.bind_some]
          obtain ⟨w2,w3,w4,w5,w6,ih⟩:=dry_while S r f (ss.set (a - 1) tl) ts' (M++[iT [x'.1,h + x'.2.1,l + x'.2.1 * lss (x'::r),costR 0 r]]) (h + x'.2.1) (l + x'.2.1 * lss (x'::r)) (some (.sh (.int (a:Int)))) (some (.sh (sD x')))
            (by simp at hf; omega) (by simp at hM ⊢; omega) ok' (by rw [hfl,hT]) hg' hl' (by rw [List.length_set]; omega)
          exact ⟨w2,w3,w4,w5,w6,by dsimp only; rw [ih]; simp [dryR]⟩
theorem dry_on_ok {ss:List (List Sk)} {ts:List Tn} (ok:TurnsOk ss ts) (hg:∀ y∈ss.flatten,GoodS y) (hl:ss.flatten.length≤14) (hn:ss.length≤900):m_dry_on [ssL ss]=some (.lst ((dryR 0 0 (tk ss (toldN ts))).map iT)):=by
  have hT:=tk_told ok
  have hTl:(tk ss (toldN ts)).length≤14:=by rw [hT,ok.perm.length_eq]; exact hl
  obtain ⟨w2,w3,w4,w5,w6,h⟩:=dry_while (some (.sh (ssL ss))) (tk ss (toldN ts)) 10000 ss ts [] 0 0 none none (by omega) (by simp; omega) ok hT.symm hg hl hn
  rw [List.nil_append] at h
  refine runD_rt (e':=[some (.sh (ssL ss)),some (.sh (.lst ((dryR 0 0 (tk ss (toldN ts))).map iT))),w2,w3,w4,w5,w6]) rfl ?_
  show s_dry_on [some (.sh (ssL ss)),none,none,none,none,none,none]=_
  generalize (dryR 0 0 (tk ss (toldN ts))).map iT=R at *
  simp only [s_dry_on,sSeq,sOwn,sSet,sRet,fDisp,fNil,fC,fVar,List.getElem?_cons_zero,List.getElem?_cons_succ,List.set_cons_zero,List.set_cons_succ,Option.bind_some,Option.map_some,List.length_nil,Nat.zero_le,if_true,h]
end LB
set_option linter.all false
set_option maxRecDepth 100000
noncomputable section
namespace S_rotstacks_k16_dry_on
open PySem L2 LB
def b_law_0:FS:=sSeq (sSet 8 (fBin dAddI (fVar 8) (fC (.int 1)))) (sSet 9 (fBin dAddI (fVar 9) (fVar 7)))
def b_law_1:FS:=sSeq (sFor 12 (fCallF iR1 (fCons (fIxV 11 (fC (.int 1))) (fNil))) (b_law_0)) (sSeq (sSet 7 (fBin dSub (fVar 7) (fIxV 11 (fC (.int 2))))) (sDrop (fAppend 10 (fTup (fCons (fIxV 11 (fC (.int 0))) (fCons (fVar 8) (fCons (fVar 9) (fCons (fBin dSub (fVar 6) (fVar 9)) (fNil)))))))))
def s_law:FS:=sSeq (sSet 1 (fCall m__law_stacks (fCons (fCall m__law_draws (fCons (fVar 0) (fCons (fC (.int 15)) (fNil)))) (fCons (fC (.int 14)) (fNil))))) (sSeq (sSet 2 (fLst (fCallF m__law_copy (fCons (fVar 1) (fNil))))) (sSeq (sSet 3 (fLst (fCallF m_told_order (fCons (fLst (fCallF m__law_copy (fCons (fVar 1) (fNil)))) (fNil))))) (sSeq (sIf (fNot (fTst (fCall m__law_is_order (fCons (fVar 3) (fCons (fVar 1) (fNil)))))) (sRet (fC (.bl false))) (sNil)) (sSeq (sSet 4 (fCall m_dry_on (fCons (fVar 2) (fNil)))) (sSeq (sSet 5 (fCall m__law_taken (fCons (fVar 1) (fCons (fVar 3) (fNil))))) (sSeq (sSet 6 (fCall m__law_cost (fCons (fVar 5) (fNil)))) (sSeq (sSet 7 (fCall bSum (fCons (fLst (fComp (fiS (fVar 5)) [] fYes (fIxV 0 (fC (.int 2))))) (fNil)))) (sSeq (sSet 8 (fC (.int 0))) (sSeq (sSet 9 (fC (.int 0))) (sSeq (sOwn 10 (fDisp (fNil))) (sSeq (sFor 11 (fiS (fVar 5)) (b_law_1)) (sRet (fAndV (fCall m__law_same_stacks (fCons (fVar 2) (fCons (fVar 1) (fNil)))) (fCall m__law_same_rows (fCons (fVar 4) (fCons (fVar 10) (fNil)))))))))))))))))
def m_law:List D→Option D:=runD 13 1 s_law
end S_rotstacks_k16_dry_on
end
set_option Elab.async false
set_option linter.all false
set_option maxRecDepth 100000
set_option maxHeartbeats 4000000
namespace S_rotstacks_k16_dry_on
open PySem L2 LB PyProof.Rows
def top (i:Nat):Stmt:=PySem.Challenge.pw_rotstacks_k16_dry_on.main.body.getD i (.Pass ⟨0,0,0,0⟩)
theorem nm:∀ i:Fin 6,((["_law_more_below", "_law_sack", "_law_stack", "sack", "sack_loss", "stack"]:List Str).getD i.1 ""==("__debug__" : Str))=false∧((["_law_more_below", "_law_sack", "_law_stack", "sack", "sack_loss", "stack"]:List Str).getD i.1 ""==("__classdict__" : Str))=false:=by decide +kernel
abbrev t_1:Stmt:=top 1
abbrev t_2:Stmt:=top 2
abbrev t_3:Stmt:=top 3
abbrev t_4:Stmt:=top 4
abbrev t_5:Stmt:=top 5
abbrev t_6:Stmt:=top 6
abbrev t_7:Stmt:=top 7
abbrev t_8:Stmt:=top 8
abbrev t_10:Stmt:=top 10
abbrev t_11:Stmt:=top 11
abbrev t_12:Stmt:=top 12
abbrev t_13:Stmt:=top 13
abbrev t_14:Stmt:=top 14
abbrev t_15:Stmt:=top 15
abbrev t_16:Stmt:=top 16
abbrev t_23:Stmt:=top 23
abbrev t_24:Stmt:=top 24
abbrev t_25:Stmt:=top 25
abbrev t_26:Stmt:=top 26
abbrev t_27:Stmt:=top 27
abbrev t_28:Stmt:=top 28
abbrev t_29:Stmt:=top 29
abbrev t_30:Stmt:=top 30
abbrev t_32:Stmt:=top 32
abbrev t_33:Stmt:=top 33
abbrev t_35:Stmt:=top 35
abbrev t_37:Stmt:=top 37
abbrev t_38:Stmt:=top 38
abbrev t_39:Stmt:=top 39
abbrev t_40:Stmt:=top 40
abbrev t_41:Stmt:=top 41
abbrev t_42:Stmt:=top 42
abbrev t_43:Stmt:=top 43
abbrev t_44:Stmt:=top 44
abbrev t_45:Stmt:=top 45
abbrev t_46:Stmt:=top 46
abbrev t_47:Stmt:=top 47
abbrev t_48:Stmt:=top 48
abbrev t_49:Stmt:=top 49
local macro_rules | `(tactic| walk_at "cf") => `(tactic| first | exact Or.inl rfl | exact Or.inr rfl)
structure Txt (K:PySem.W.Frag) (mg:Str→Option Value) (f_1:Addr) (d_1:FuncData) (f_2:Addr) (d_2:FuncData) (f_3:Addr) (d_3:FuncData) (f_4:Addr) (d_4:FuncData) (f_5:Addr) (d_5:FuncData) (f_6:Addr) (d_6:FuncData) (f_7:Addr) (d_7:FuncData) (f_8:Addr) (d_8:FuncData) (f_10:Addr) (d_10:FuncData) (f_11:Addr) (d_11:FuncData) (f_12:Addr) (d_12:FuncData) (f_13:Addr) (d_13:FuncData) (f_14:Addr) (d_14:FuncData) (f_15:Addr) (d_15:FuncData) (f_16:Addr) (d_16:FuncData) (f_23:Addr) (d_23:FuncData) (f_24:Addr) (d_24:FuncData) (f_25:Addr) (d_25:FuncData) (f_26:Addr) (d_26:FuncData) (f_27:Addr) (d_27:FuncData) (f_28:Addr) (d_28:FuncData) (f_29:Addr) (d_29:FuncData) (f_30:Addr) (d_30:FuncData) (f_32:Addr) (d_32:FuncData) (f_33:Addr) (d_33:FuncData) (f_35:Addr) (d_35:FuncData) (f_37:Addr) (d_37:FuncData) (f_38:Addr) (d_38:FuncData) (f_39:Addr) (d_39:FuncData) (f_40:Addr) (d_40:FuncData) (f_41:Addr) (d_41:FuncData) (f_42:Addr) (d_42:FuncData) (f_43:Addr) (d_43:FuncData) (f_44:Addr) (d_44:FuncData) (f_45:Addr) (d_45:FuncData) (f_46:Addr) (d_46:FuncData) (f_47:Addr) (d_47:FuncData) (f_48:Addr) (d_48:FuncData) (f_49:Addr) (d_49:FuncData):Prop where
  F_1:Fun K "sack_number" "sack_number" t_1 f_1 d_1
  m_sack_number:mg "sack_number" = some (.ref f_1)
  k_1:PySem.W.keepIn K (.ref f_1)=true
  n_1:Binds K d_1 ["sack"] []
  F_2:Fun K "sack_hours" "sack_hours" t_2 f_2 d_2
  m_sack_hours:mg "sack_hours" = some (.ref f_2)
  k_2:PySem.W.keepIn K (.ref f_2)=true
  n_2:Binds K d_2 ["sack"] []
  F_3:Fun K "sack_loss" "sack_loss" t_3 f_3 d_3
  m_sack_loss:mg "sack_loss" = some (.ref f_3)
  k_3:PySem.W.keepIn K (.ref f_3)=true
  n_3:Binds K d_3 ["sack"] []
  F_4:Fun K "sacks_in_all" "sacks_in_all" t_4 f_4 d_4
  m_sacks_in_all:mg "sacks_in_all" = some (.ref f_4)
  k_4:PySem.W.keepIn K (.ref f_4)=true
  n_4:Binds K d_4 ["stacks"] []
  F_5:Fun K "loss_in_all" "loss_in_all" t_5 f_5 d_5
  m_loss_in_all:mg "loss_in_all" = some (.ref f_5)
  k_5:PySem.W.keepIn K (.ref f_5)=true
  n_5:Binds K d_5 ["stacks"] []
  F_6:Fun K "top_sack" "top_sack" t_6 f_6 d_6
  m_top_sack:mg "top_sack" = some (.ref f_6)
  k_6:PySem.W.keepIn K (.ref f_6)=true
  n_6:Binds K d_6 ["stacks", "at"] []
  F_7:Fun K "with_stack" "with_stack" t_7 f_7 d_7
  m_with_stack:mg "with_stack" = some (.ref f_7)
  k_7:PySem.W.keepIn K (.ref f_7)=true
  n_7:Binds K d_7 ["stacks", "at", "stack"] []
  F_8:Fun K "without_top" "without_top" t_8 f_8 d_8
  m_without_top:mg "without_top" = some (.ref f_8)
  k_8:PySem.W.keepIn K (.ref f_8)=true
  n_8:Binds K d_8 ["stacks", "at"] []
  F_10:Fun K "share_gap" "share_gap" t_10 f_10 d_10
  m_share_gap:mg "share_gap" = some (.ref f_10)
  k_10:PySem.W.keepIn K (.ref f_10)=true
  n_10:Binds K d_10 ["one", "other"] []
  F_11:Fun K "share_sign" "share_sign" t_11 f_11 d_11
  m_share_sign:mg "share_sign" = some (.ref f_11)
  k_11:PySem.W.keepIn K (.ref f_11)=true
  n_11:Binds K d_11 ["one", "other"] []
  F_12:Fun K "single_block" "single_block" t_12 f_12 d_12
  m_single_block:mg "single_block" = some (.ref f_12)
  k_12:PySem.W.keepIn K (.ref f_12)=true
  n_12:Binds K d_12 ["sack"] []
  F_13:Fun K "joined_block" "joined_block" t_13 f_13 d_13
  m_joined_block:mg "joined_block" = some (.ref f_13)
  k_13:PySem.W.keepIn K (.ref f_13)=true
  n_13:Binds K d_13 ["upper", "lower"] []
  F_14:Fun K "block_share" "block_share" t_14 f_14 d_14
  m_block_share:mg "block_share" = some (.ref f_14)
  k_14:PySem.W.keepIn K (.ref f_14)=true
  n_14:Binds K d_14 ["block"] []
  F_15:Fun K "has_greater_share" "has_greater_share" t_15 f_15 d_15
  m_has_greater_share:mg "has_greater_share" = some (.ref f_15)
  k_15:PySem.W.keepIn K (.ref f_15)=true
  n_15:Binds K d_15 ["upper", "lower"] []
  F_16:Fun K "stack_blocks" "stack_blocks" t_16 f_16 d_16
  m_stack_blocks:mg "stack_blocks" = some (.ref f_16)
  k_16:PySem.W.keepIn K (.ref f_16)=true
  n_16:Binds K d_16 ["stack"] []
  F_23:Fun K "turn_share" "turn_share" t_23 f_23 d_23
  m_turn_share:mg "turn_share" = some (.ref f_23)
  k_23:PySem.W.keepIn K (.ref f_23)=true
  n_23:Binds K d_23 ["turn"] []
  F_24:Fun K "place_of_turn" "place_of_turn" t_24 f_24 d_24
  m_place_of_turn:mg "place_of_turn" = some (.ref f_24)
  k_24:PySem.W.keepIn K (.ref f_24)=true
  n_24:Binds K d_24 ["turns", "turn"] []
  F_25:Fun K "block_turns" "block_turns" t_25 f_25 d_25
  m_block_turns:mg "block_turns" = some (.ref f_25)
  k_25:PySem.W.keepIn K (.ref f_25)=true
  n_25:Binds K d_25 ["stacks"] []
  F_26:Fun K "told_order" "told_order" t_26 f_26 d_26
  m_told_order:mg "told_order" = some (.ref f_26)
  k_26:PySem.W.keepIn K (.ref f_26)=true
  n_26:Binds K d_26 ["stacks"] []
  F_27:Fun K "check_known" "check_known" t_27 f_27 d_27
  m_check_known:mg "check_known" = some (.ref f_27)
  k_27:PySem.W.keepIn K (.ref f_27)=true
  n_27:Binds K d_27 ["stacks", "at"] []
  F_28:Fun K "check_whole" "check_whole" t_28 f_28 d_28
  m_check_whole:mg "check_whole" = some (.ref f_28)
  k_28:PySem.W.keepIn K (.ref f_28)=true
  n_28:Binds K d_28 ["stacks", "order"] []
  F_29:Fun K "check_order" "check_order" t_29 f_29 d_29
  m_check_order:mg "check_order" = some (.ref f_29)
  k_29:PySem.W.keepIn K (.ref f_29)=true
  n_29:Binds K d_29 ["stacks", "order"] []
  F_30:Fun K "taken_sacks" "taken_sacks" t_30 f_30 d_30
  m_taken_sacks:mg "taken_sacks" = some (.ref f_30)
  k_30:PySem.W.keepIn K (.ref f_30)=true
  n_30:Binds K d_30 ["stacks", "order"] []
  F_32:Fun K "order_cost" "order_cost" t_32 f_32 d_32
  m_order_cost:mg "order_cost" = some (.ref f_32)
  k_32:PySem.W.keepIn K (.ref f_32)=true
  n_32:Binds K d_32 ["stacks", "order"] []
  F_33:Fun K "least_cost" "least_cost" t_33 f_33 d_33
  m_least_cost:mg "least_cost" = some (.ref f_33)
  k_33:PySem.W.keepIn K (.ref f_33)=true
  n_33:Binds K d_33 ["stacks"] []
  F_35:Fun K "dry_on" "dry_on" t_35 f_35 d_35
  m_dry_on:mg "dry_on" = some (.ref f_35)
  k_35:PySem.W.keepIn K (.ref f_35)=true
  n_35:Binds K d_35 ["stacks"] []
  F_37:Fun K "_law_whole" "_law_whole" t_37 f_37 d_37
  m__law_whole:mg "_law_whole" = some (.ref f_37)
  k_37:PySem.W.keepIn K (.ref f_37)=true
  n_37:Binds K d_37 ["_law_found"] []
  F_38:Fun K "_law_at" "_law_at" t_38 f_38 d_38
  m__law_at:mg "_law_at" = some (.ref f_38)
  k_38:PySem.W.keepIn K (.ref f_38)=true
  n_38:Binds K d_38 ["_law_script", "_law_k"] []
  F_39:Fun K "_law_draws" "_law_draws" t_39 f_39 d_39
  m__law_draws:mg "_law_draws" = some (.ref f_39)
  k_39:PySem.W.keepIn K (.ref f_39)=true
  n_39:Binds K d_39 ["_law_script", "_law_many"] []
  F_40:Fun K "_law_more_below" "_law_more_below" t_40 f_40 d_40
  m__law_more_below:mg "_law_more_below" = some (.ref f_40)
  k_40:PySem.W.keepIn K (.ref f_40)=true
  n_40:Binds K d_40 ["_law_stack"] []
  F_41:Fun K "_law_stacks" "_law_stacks" t_41 f_41 d_41
  m__law_stacks:mg "_law_stacks" = some (.ref f_41)
  k_41:PySem.W.keepIn K (.ref f_41)=true
  n_41:Binds K d_41 ["_law_draws_here", "_law_most"] []
  F_42:Fun K "_law_taken" "_law_taken" t_42 f_42 d_42
  m__law_taken:mg "_law_taken" = some (.ref f_42)
  k_42:PySem.W.keepIn K (.ref f_42)=true
  n_42:Binds K d_42 ["_law_stacks_here", "_law_order"] []
  F_43:Fun K "_law_cost" "_law_cost" t_43 f_43 d_43
  m__law_cost:mg "_law_cost" = some (.ref f_43)
  k_43:PySem.W.keepIn K (.ref f_43)=true
  n_43:Binds K d_43 ["_law_sacks"] []
  F_44:Fun K "_law_is_order" "_law_is_order" t_44 f_44 d_44
  m__law_is_order:mg "_law_is_order" = some (.ref f_44)
  k_44:PySem.W.keepIn K (.ref f_44)=true
  n_44:Binds K d_44 ["_law_found", "_law_stacks_here"] []
  F_45:Fun K "_law_same_row" "_law_same_row" t_45 f_45 d_45
  m__law_same_row:mg "_law_same_row" = some (.ref f_45)
  k_45:PySem.W.keepIn K (.ref f_45)=true
  n_45:Binds K d_45 ["_law_found", "_law_due"] []
  F_46:Fun K "_law_same_rows" "_law_same_rows" t_46 f_46 d_46
  m__law_same_rows:mg "_law_same_rows" = some (.ref f_46)
  k_46:PySem.W.keepIn K (.ref f_46)=true
  n_46:Binds K d_46 ["_law_found", "_law_due"] []
  F_47:Fun K "_law_same_stacks" "_law_same_stacks" t_47 f_47 d_47
  m__law_same_stacks:mg "_law_same_stacks" = some (.ref f_47)
  k_47:PySem.W.keepIn K (.ref f_47)=true
  n_47:Binds K d_47 ["_law_found", "_law_due"] []
  F_48:Fun K "_law_copy" "_law_copy" t_48 f_48 d_48
  m__law_copy:mg "_law_copy" = some (.ref f_48)
  k_48:PySem.W.keepIn K (.ref f_48)=true
  n_48:Binds K d_48 ["_law_stacks_here"] []
  F_49:Fun K "law" "law" t_49 f_49 d_49
  m_law:mg "law" = some (.ref f_49)
  k_49:PySem.W.keepIn K (.ref f_49)=true
  n_49:Binds K d_49 ["_law_script"] []
  b_bool:mg "bool" = none
  b_enumerate:mg "enumerate" = none
  b_int:mg "int" = none
  b_isinstance:mg "isinstance" = none
  b_len:mg "len" = none
  b_list:mg "list" = none
  b_min:mg "min" = none
  b_range:mg "range" = none
  b_str:mg "str" = none
  b_sum:mg "sum" = none
  b_tuple:mg "tuple" = none
section
variable {P:Program} {w:World} {K:PySem.W.Frag} {mg:Str→Option Value} {base:Heap}
theorem sc1:FnScope ["sack"] ["sack"] (defScope t_1):=⟨rfl,rfl,rfl,by decide +kernel,rfl,by decide +kernel,by decide +kernel⟩
theorem n1:∀ i:Fin 1,LN (defScope t_1) ((["sack"]:List Str).getD i.1 ""):=by decide +kernel
theorem ok_1 {f_1:Addr} {d_1:FuncData} (F_1:Fun K "sack_number" "sack_number" t_1 f_1 d_1):FnOk P w K mg base CX0 1 f_1 d_1 ["sack"] (dSp K m_sack_number) :=
  jfn_D (g:=s_sack_number) (n:=1) (ar:=1) F_1 sc1 rfl rfl fun cdv A outer s H E G H0 hr=>by
    exact jdb_one (jds_ret (jde_ixV 0 (jde_int) (by intro _ _; rfl) (n1 0).v))
theorem sc2:FnScope ["sack"] ["sack"] (defScope t_2):=⟨rfl,rfl,rfl,by decide +kernel,rfl,by decide +kernel,by decide +kernel⟩
theorem n2:∀ i:Fin 1,LN (defScope t_2) ((["sack"]:List Str).getD i.1 ""):=by decide +kernel
theorem ok_2 {f_2:Addr} {d_2:FuncData} (F_2:Fun K "sack_hours" "sack_hours" t_2 f_2 d_2):FnOk P w K mg base CX0 1 f_2 d_2 ["sack"] (dSp K m_sack_hours) :=
  jfn_D (g:=s_sack_hours) (n:=1) (ar:=1) F_2 sc2 rfl rfl fun cdv A outer s H E G H0 hr=>by
    exact jdb_one (jds_ret (jde_ixV 0 (jde_int) (by intro _ _; rfl) (n2 0).v))
theorem sc3:FnScope ["sack"] ["sack"] (defScope t_3):=⟨rfl,rfl,rfl,by decide +kernel,rfl,by decide +kernel,by decide +kernel⟩
theorem n3:∀ i:Fin 1,LN (defScope t_3) ((["sack"]:List Str).getD i.1 ""):=by decide +kernel
theorem ok_3 {f_3:Addr} {d_3:FuncData} (F_3:Fun K "sack_loss" "sack_loss" t_3 f_3 d_3):FnOk P w K mg base CX0 1 f_3 d_3 ["sack"] (dSp K m_sack_loss) :=
  jfn_D (g:=s_sack_loss) (n:=1) (ar:=1) F_3 sc3 rfl rfl fun cdv A outer s H E G H0 hr=>by
    exact jdb_one (jds_ret (jde_ixV 0 (jde_int) (by intro _ _; rfl) (n3 0).v))
theorem sc4:FnScope ["stacks"] ["stacks"] (defScope t_4):=⟨rfl,rfl,rfl,by decide +kernel,rfl,by decide +kernel,by decide +kernel⟩
theorem n4:∀ i:Fin 1,LN (defScope t_4) ((["stacks"]:List Str).getD i.1 ""):=by decide +kernel
theorem g4:∀ i:Fin 1,GN (defScope t_4) ((["sum"]:List Str).getD i.1 ""):=by decide +kernel
theorem ok_4 {f_4:Addr} {d_4:FuncData} (F_4:Fun K "sacks_in_all" "sacks_in_all" t_4 f_4 d_4) (bn_len:mg "len" = none) (bn_sum:mg "sum" = none):FnOk P w K mg base CX0 1 f_4 d_4 ["stacks"] (dSp K m_sacks_in_all) :=
  jfn_D (g:=s_sacks_in_all) (n:=1) (ar:=1) F_4 sc4 rfl rfl fun cdv A outer s H E G H0 hr=>by
    exact jdb_one (jds_ret (jde_sum (by rfl) (g4 0).1 bn_sum (jda_cons (jde_fr (jdf_comp (show CompOk _ "stack" [] [] _ from compOk (by rfl) (by decide +kernel) trivial) (by rfl) (jdi_seq (jde_var 0 (n4 0).v)) (fun _ _ _ _ _ _ _=>jde_lenV 0 (gl_c (by decide +kernel)) bn_len ⟨(vis_cl (by decide +kernel)),(nm 5)⟩))) (jda_nil))))
theorem sc5:FnScope ["stacks", "total", "stack"] ["stacks"] (defScope t_5):=⟨rfl,rfl,rfl,by decide +kernel,rfl,by decide +kernel,by decide +kernel⟩
theorem n5:∀ i:Fin 3,LN (defScope t_5) ((["stacks", "total", "stack"]:List Str).getD i.1 ""):=by decide +kernel
theorem g5:∀ i:Fin 1,GN (defScope t_5) ((["sum"]:List Str).getD i.1 ""):=by decide +kernel
theorem ok_5 {f_5:Addr} {d_5:FuncData} (F_5:Fun K "loss_in_all" "loss_in_all" t_5 f_5 d_5) {f_3:Addr} {d_3:FuncData} (mg_3:mg "sack_loss" = some (.ref f_3)) (kp_3:PySem.W.keepIn K (.ref f_3)=true) (bd_3:Binds K d_3 ["sack"] []) (bn_sum:mg "sum" = none) (G_3:FnOk P w K mg base CX0 1 f_3 d_3 ["sack"] (dSp K m_sack_loss)):FnOk P w K mg base CX0 2 f_5 d_5 ["stacks"] (dSp K m_loss_in_all) :=
  jfn_D (g:=s_loss_in_all) (n:=3) (ar:=1) F_5 sc5 rfl rfl fun cdv A outer s H E G H0 hr=>by
    refine jdb_cons (jds_setE (i:=1) sc5.nd (by rfl) (n5 1).1 (jde_int)) ?_
    refine jdb_cons (jds_for PassesOwn.never (by rfl) (jdi_seq (jde_var 0 (n5 0).v)) (jpg_name (i:=2) sc5.nd (by rfl) (n5 2).1) ?_) ?_
    · exact jdb_one (jds_augA (i:=1) sc5.nd (by rfl) (n5 1).1 (jde_sum (by rfl) (g5 0).1 bn_sum (jda_cons (jde_fr (jdf_comp (show CompOk _ "sack" [] [] _ from compOk (by rfl) (by decide +kernel) trivial) (by rfl) (jdi_seq (jde_var 2 (n5 2).v)) (fun _ _ _ _ _ _ _=>jde_call G_3 (hr.mono (by decide)) (gl_c (by decide +kernel)) mg_3 kp_3 bd_3 pass0 (jda_cons (jde_var 0 ⟨(vis_cl (by decide +kernel)),(nm 3)⟩) (jda_nil)) (nm 4).1))) (jda_nil))))
    exact jdb_one (jds_ret (jde_var 1 (n5 1).v))
theorem sc6:FnScope ["stacks", "at"] ["stacks", "at"] (defScope t_6):=⟨rfl,rfl,rfl,by decide +kernel,rfl,by decide +kernel,by decide +kernel⟩
theorem n6:∀ i:Fin 2,LN (defScope t_6) ((["stacks", "at"]:List Str).getD i.1 ""):=by decide +kernel
theorem ok_6 {f_6:Addr} {d_6:FuncData} (F_6:Fun K "top_sack" "top_sack" t_6 f_6 d_6):FnOk P w K mg base CX0 1 f_6 d_6 ["stacks", "at"] (dSp K m_top_sack) :=
  jfn_D (g:=s_top_sack) (n:=2) (ar:=2) F_6 sc6 rfl rfl fun cdv A outer s H E G H0 hr=>by
    exact jdb_one (jds_ret (jde_ix (jde_ixV 0 (jde_sub (jde_var 1 (n6 1).v) (jde_int)) (by intro _ _; rfl) (n6 0).v) (jde_int)))
theorem sc7:FnScope ["stacks", "at", "stack"] ["stacks", "at", "stack"] (defScope t_7):=⟨rfl,rfl,rfl,by decide +kernel,rfl,by decide +kernel,by decide +kernel⟩
theorem n7:∀ i:Fin 3,LN (defScope t_7) ((["stacks", "at", "stack"]:List Str).getD i.1 ""):=by decide +kernel
theorem ok_7 {f_7:Addr} {d_7:FuncData} (F_7:Fun K "with_stack" "with_stack" t_7 f_7 d_7):FnOk P w K mg base CX0 1 f_7 d_7 ["stacks", "at", "stack"] (dSp K m_with_stack) :=
  jfn_D (g:=s_with_stack) (n:=3) (ar:=3) F_7 sc7 rfl rfl fun cdv A outer s H E G H0 hr=>by
    exact jdb_one (jds_ret (jde_fr (jdf_cat (jde_fr (jdf_cat (jde_fr (jdf_sl (jde_var 0 (n7 0).v) (jdo_none) (jdo_some (jde_sub (jde_var 1 (n7 1).v) (jde_int))))) (jde_fr (jdf_lst (jda_cons (jde_var 2 (n7 2).v) (jda_nil)))))) (jde_fr (jdf_sl (jde_var 0 (n7 0).v) (jdo_some (jde_var 1 (n7 1).v)) (jdo_none))))))
theorem sc8:FnScope ["stacks", "at"] ["stacks", "at"] (defScope t_8):=⟨rfl,rfl,rfl,by decide +kernel,rfl,by decide +kernel,by decide +kernel⟩
theorem n8:∀ i:Fin 2,LN (defScope t_8) ((["stacks", "at"]:List Str).getD i.1 ""):=by decide +kernel
theorem g8:∀ i:Fin 1,GN (defScope t_8) ((["with_stack"]:List Str).getD i.1 ""):=by decide +kernel
theorem ok_8 {f_8:Addr} {d_8:FuncData} (F_8:Fun K "without_top" "without_top" t_8 f_8 d_8) {f_7:Addr} {d_7:FuncData} (mg_7:mg "with_stack" = some (.ref f_7)) (kp_7:PySem.W.keepIn K (.ref f_7)=true) (bd_7:Binds K d_7 ["stacks", "at", "stack"] []) (G_7:FnOk P w K mg base CX0 1 f_7 d_7 ["stacks", "at", "stack"] (dSp K m_with_stack)):FnOk P w K mg base CX0 2 f_8 d_8 ["stacks", "at"] (dSp K m_without_top) :=
  jfn_D (g:=s_without_top) (n:=2) (ar:=2) F_8 sc8 rfl rfl fun cdv A outer s H E G H0 hr=>by
    exact jdb_one (jds_ret (jde_call G_7 (hr.mono (by decide)) (g8 0).1 mg_7 kp_7 bd_7 pass0 (jda_cons (jde_var 0 (n8 0).v) (jda_cons (jde_var 1 (n8 1).v) (jda_cons (jde_fr (jdf_sl (jde_ixV 0 (jde_sub (jde_var 1 (n8 1).v) (jde_int)) (by intro _ _; rfl) (n8 0).v) (jdo_some (jde_int)) (jdo_none))) (jda_nil)))) (g8 0).2))
theorem sc10:FnScope ["one", "other"] ["one", "other"] (defScope t_10):=⟨rfl,rfl,rfl,by decide +kernel,rfl,by decide +kernel,by decide +kernel⟩
theorem n10:∀ i:Fin 2,LN (defScope t_10) ((["one", "other"]:List Str).getD i.1 ""):=by decide +kernel
theorem ok_10 {f_10:Addr} {d_10:FuncData} (F_10:Fun K "share_gap" "share_gap" t_10 f_10 d_10):FnOk P w K mg base CX0 1 f_10 d_10 ["one", "other"] (dSp K m_share_gap) :=
  jfn_D (g:=s_share_gap) (n:=2) (ar:=2) F_10 sc10 rfl rfl fun cdv A outer s H E G H0 hr=>by
    exact jdb_one (jds_ret (jde_sub (jde_mul (jde_ixV 0 (jde_int) (by intro _ _; rfl) (n10 0).v) (jde_ixV 1 (jde_int) (by intro _ _; rfl) (n10 1).v)) (jde_mul (jde_ixV 1 (jde_int) (by intro _ _; rfl) (n10 1).v) (jde_ixV 0 (jde_int) (by intro _ _; rfl) (n10 0).v))))
theorem sc11:FnScope ["one", "other", "gap"] ["one", "other"] (defScope t_11):=⟨rfl,rfl,rfl,by decide +kernel,rfl,by decide +kernel,by decide +kernel⟩
theorem n11:∀ i:Fin 3,LN (defScope t_11) ((["one", "other", "gap"]:List Str).getD i.1 ""):=by decide +kernel
theorem g11:∀ i:Fin 1,GN (defScope t_11) ((["share_gap"]:List Str).getD i.1 ""):=by decide +kernel
theorem ok_11 {f_11:Addr} {d_11:FuncData} (F_11:Fun K "share_sign" "share_sign" t_11 f_11 d_11) {f_10:Addr} {d_10:FuncData} (mg_10:mg "share_gap" = some (.ref f_10)) (kp_10:PySem.W.keepIn K (.ref f_10)=true) (bd_10:Binds K d_10 ["one", "other"] []) (G_10:FnOk P w K mg base CX0 1 f_10 d_10 ["one", "other"] (dSp K m_share_gap)):FnOk P w K mg base CX0 2 f_11 d_11 ["one", "other"] (dSp K m_share_sign) :=
  jfn_D (g:=s_share_sign) (n:=3) (ar:=2) F_11 sc11 rfl rfl fun cdv A outer s H E G H0 hr=>by
    refine jdb_cons (jds_setE (i:=2) sc11.nd (by rfl) (n11 2).1 (jde_call G_10 (hr.mono (by decide)) (g11 0).1 mg_10 kp_10 bd_10 pass0 (jda_cons (jde_var 0 (n11 0).v) (jda_cons (jde_var 1 (n11 1).v) (jda_nil))) (g11 0).2)) ?_
    refine jdb_cons (jds_if (jdt_gt (jde_var 2 (n11 2).v) (jde_int)) ?_ ?_) ?_
    · exact jdb_one (jds_ret (jde_int))
    · exact jdb_nil
    refine jdb_cons (jds_if (jdt_lt (jde_var 2 (n11 2).v) (jde_int)) ?_ ?_) ?_
    · exact jdb_one (jds_ret (jde_neg (jde_int)))
    · exact jdb_nil
    exact jdb_one (jds_ret (jde_int))
theorem sc12:FnScope ["sack"] ["sack"] (defScope t_12):=⟨rfl,rfl,rfl,by decide +kernel,rfl,by decide +kernel,by decide +kernel⟩
theorem n12:∀ i:Fin 1,LN (defScope t_12) ((["sack"]:List Str).getD i.1 ""):=by decide +kernel
theorem g12:∀ i:Fin 2,GN (defScope t_12) ((["sack_hours", "sack_loss"]:List Str).getD i.1 ""):=by decide +kernel
theorem ok_12 {f_12:Addr} {d_12:FuncData} (F_12:Fun K "single_block" "single_block" t_12 f_12 d_12) {f_2:Addr} {d_2:FuncData} (mg_2:mg "sack_hours" = some (.ref f_2)) (kp_2:PySem.W.keepIn K (.ref f_2)=true) (bd_2:Binds K d_2 ["sack"] []) {f_3:Addr} {d_3:FuncData} (mg_3:mg "sack_loss" = some (.ref f_3)) (kp_3:PySem.W.keepIn K (.ref f_3)=true) (bd_3:Binds K d_3 ["sack"] []) (G_2:FnOk P w K mg base CX0 1 f_2 d_2 ["sack"] (dSp K m_sack_hours)) (G_3:FnOk P w K mg base CX0 1 f_3 d_3 ["sack"] (dSp K m_sack_loss)):FnOk P w K mg base CX0 2 f_12 d_12 ["sack"] (dSp K m_single_block) :=
  jfn_D (g:=s_single_block) (n:=1) (ar:=1) F_12 sc12 rfl rfl fun cdv A outer s H E G H0 hr=>by
    exact jdb_one (jds_ret (jde_tup (jda_cons (jde_int) (jda_cons (jde_call G_2 (hr.mono (by decide)) (g12 0).1 mg_2 kp_2 bd_2 pass0 (jda_cons (jde_var 0 (n12 0).v) (jda_nil)) (g12 0).2) (jda_cons (jde_call G_3 (hr.mono (by decide)) (g12 1).1 mg_3 kp_3 bd_3 pass0 (jda_cons (jde_var 0 (n12 0).v) (jda_nil)) (g12 1).2) (jda_nil))))))
theorem sc13:FnScope ["upper", "lower"] ["upper", "lower"] (defScope t_13):=⟨rfl,rfl,rfl,by decide +kernel,rfl,by decide +kernel,by decide +kernel⟩
theorem n13:∀ i:Fin 2,LN (defScope t_13) ((["upper", "lower"]:List Str).getD i.1 ""):=by decide +kernel
theorem ok_13 {f_13:Addr} {d_13:FuncData} (F_13:Fun K "joined_block" "joined_block" t_13 f_13 d_13):FnOk P w K mg base CX0 1 f_13 d_13 ["upper", "lower"] (dSp K m_joined_block) :=
  jfn_D (g:=s_joined_block) (n:=2) (ar:=2) F_13 sc13 rfl rfl fun cdv A outer s H E G H0 hr=>by
    exact jdb_one (jds_ret (jde_tup (jda_cons (jde_add (jde_ixV 0 (jde_int) (by intro _ _; rfl) (n13 0).v) (jde_ixV 1 (jde_int) (by intro _ _; rfl) (n13 1).v)) (jda_cons (jde_add (jde_ixV 0 (jde_int) (by intro _ _; rfl) (n13 0).v) (jde_ixV 1 (jde_int) (by intro _ _; rfl) (n13 1).v)) (jda_cons (jde_add (jde_ixV 0 (jde_int) (by intro _ _; rfl) (n13 0).v) (jde_ixV 1 (jde_int) (by intro _ _; rfl) (n13 1).v)) (jda_nil))))))
theorem sc14:FnScope ["block"] ["block"] (defScope t_14):=⟨rfl,rfl,rfl,by decide +kernel,rfl,by decide +kernel,by decide +kernel⟩
theorem n14:∀ i:Fin 1,LN (defScope t_14) ((["block"]:List Str).getD i.1 ""):=by decide +kernel
theorem ok_14 {f_14:Addr} {d_14:FuncData} (F_14:Fun K "block_share" "block_share" t_14 f_14 d_14):FnOk P w K mg base CX0 1 f_14 d_14 ["block"] (dSp K m_block_share) :=
  jfn_D (g:=s_block_share) (n:=1) (ar:=1) F_14 sc14 rfl rfl fun cdv A outer s H E G H0 hr=>by
    exact jdb_one (jds_ret (jde_tup (jda_cons (jde_ixV 0 (jde_int) (by intro _ _; rfl) (n14 0).v) (jda_cons (jde_ixV 0 (jde_int) (by intro _ _; rfl) (n14 0).v) (jda_nil)))))
theorem sc15:FnScope ["upper", "lower"] ["upper", "lower"] (defScope t_15):=⟨rfl,rfl,rfl,by decide +kernel,rfl,by decide +kernel,by decide +kernel⟩
theorem n15:∀ i:Fin 2,LN (defScope t_15) ((["upper", "lower"]:List Str).getD i.1 ""):=by decide +kernel
theorem g15:∀ i:Fin 2,GN (defScope t_15) ((["block_share", "share_sign"]:List Str).getD i.1 ""):=by decide +kernel
theorem ok_15 {f_15:Addr} {d_15:FuncData} (F_15:Fun K "has_greater_share" "has_greater_share" t_15 f_15 d_15) {f_14:Addr} {d_14:FuncData} (mg_14:mg "block_share" = some (.ref f_14)) (kp_14:PySem.W.keepIn K (.ref f_14)=true) (bd_14:Binds K d_14 ["block"] []) {f_11:Addr} {d_11:FuncData} (mg_11:mg "share_sign" = some (.ref f_11)) (kp_11:PySem.W.keepIn K (.ref f_11)=true) (bd_11:Binds K d_11 ["one", "other"] []) (G_14:FnOk P w K mg base CX0 1 f_14 d_14 ["block"] (dSp K m_block_share)) (G_11:FnOk P w K mg base CX0 2 f_11 d_11 ["one", "other"] (dSp K m_share_sign)):FnOk P w K mg base CX0 3 f_15 d_15 ["upper", "lower"] (dSp K m_has_greater_share) :=
  jfn_D (g:=s_has_greater_share) (n:=2) (ar:=2) F_15 sc15 rfl rfl fun cdv A outer s H E G H0 hr=>by
    exact jdb_one (jds_ret (jde_gt (jde_call G_11 (hr.mono (by decide)) (g15 1).1 mg_11 kp_11 bd_11 pass0 (jda_cons (jde_call G_14 (hr.mono (by decide)) (g15 0).1 mg_14 kp_14 bd_14 pass0 (jda_cons (jde_var 0 (n15 0).v) (jda_nil)) (g15 0).2) (jda_cons (jde_call G_14 (hr.mono (by decide)) (g15 0).1 mg_14 kp_14 bd_14 pass0 (jda_cons (jde_var 1 (n15 1).v) (jda_nil)) (g15 0).2) (jda_nil))) (g15 1).2) (jde_int)))
theorem sc16:FnScope ["stack", "blocks", "sack", "block"] ["stack"] (defScope t_16):=⟨rfl,rfl,rfl,by decide +kernel,rfl,by decide +kernel,by decide +kernel⟩
theorem n16:∀ i:Fin 4,LN (defScope t_16) ((["stack", "blocks", "sack", "block"]:List Str).getD i.1 ""):=by decide +kernel
theorem g16:∀ i:Fin 4,GN (defScope t_16) ((["has_greater_share", "joined_block", "len", "single_block"]:List Str).getD i.1 ""):=by decide +kernel
theorem ok_16 {f_16:Addr} {d_16:FuncData} (F_16:Fun K "stack_blocks" "stack_blocks" t_16 f_16 d_16) {f_15:Addr} {d_15:FuncData} (mg_15:mg "has_greater_share" = some (.ref f_15)) (kp_15:PySem.W.keepIn K (.ref f_15)=true) (bd_15:Binds K d_15 ["upper", "lower"] []) {f_13:Addr} {d_13:FuncData} (mg_13:mg "joined_block" = some (.ref f_13)) (kp_13:PySem.W.keepIn K (.ref f_13)=true) (bd_13:Binds K d_13 ["upper", "lower"] []) {f_12:Addr} {d_12:FuncData} (mg_12:mg "single_block" = some (.ref f_12)) (kp_12:PySem.W.keepIn K (.ref f_12)=true) (bd_12:Binds K d_12 ["sack"] []) (bn_len:mg "len" = none) (G_15:FnOk P w K mg base CX0 3 f_15 d_15 ["upper", "lower"] (dSp K m_has_greater_share)) (G_13:FnOk P w K mg base CX0 1 f_13 d_13 ["upper", "lower"] (dSp K m_joined_block)) (G_12:FnOk P w K mg base CX0 2 f_12 d_12 ["sack"] (dSp K m_single_block)):FnOk P w K mg base CX0 4 f_16 d_16 ["stack"] (dSp K m_stack_blocks) :=
  jfn_D (g:=s_stack_blocks) (n:=4) (ar:=1) F_16 sc16 rfl rfl fun cdv A outer s H E G H0 hr=>by
    refine jdb_cons (jds_own (i:=1) (jps_set sc16.nd (by rfl) (n16 1).1 (jdf_lst (jda_nil)))) ?_
    refine jdb_cons (jds_for PassesOwn.never (by rfl) (jdi_seq (jde_var 0 (n16 0).v)) (jpg_name (i:=2) sc16.nd (by rfl) (n16 2).1) ?_) ?_
    · refine jdb_cons (jds_setE (i:=3) sc16.nd (by rfl) (n16 3).1 (jde_call G_12 (hr.mono (by decide)) (g16 3).1 mg_12 kp_12 bd_12 pass0 (jda_cons (jde_var 2 (n16 2).v) (jda_nil)) (g16 3).2)) ?_
      refine jdb_cons (jds_while 10000 PassesOwn.never (jdt_w (jdw_and (jdt_gt (jde_lenV 1 (g16 2).1 bn_len (n16 1).v) (jde_int)) (jdw_and1 (jdt_not (jdt_val (jde_call G_15 (hr.mono (by decide)) (g16 0).1 mg_15 kp_15 bd_15 pass0 (jda_cons (jde_ixV 1 (jde_neg (jde_int)) (by intro _ _; rfl) (n16 1).v) (jda_cons (jde_var 3 (n16 3).v) (jda_nil))) (g16 0).2)))))) ?_) ?_
      · exact jdb_one (jds_setE (i:=3) sc16.nd (by rfl) (n16 3).1 (jde_call G_13 (hr.mono (by decide)) (g16 1).1 mg_13 kp_13 bd_13 pass0 (jda_cons (jde_pop 1 (n16 1).v) (jda_cons (jde_var 3 (n16 3).v) (jda_nil))) (g16 1).2))
      exact jdb_one (jds_expr (jde_append 1 (jde_var 3 (n16 3).v) (n16 1).v))
    exact jdb_one (jds_ret (jde_var 1 (n16 1).v))
theorem sc23:FnScope ["turn"] ["turn"] (defScope t_23):=⟨rfl,rfl,rfl,by decide +kernel,rfl,by decide +kernel,by decide +kernel⟩
theorem n23:∀ i:Fin 1,LN (defScope t_23) ((["turn"]:List Str).getD i.1 ""):=by decide +kernel
theorem ok_23 {f_23:Addr} {d_23:FuncData} (F_23:Fun K "turn_share" "turn_share" t_23 f_23 d_23):FnOk P w K mg base CX0 1 f_23 d_23 ["turn"] (dSp K m_turn_share) :=
  jfn_D (g:=s_turn_share) (n:=1) (ar:=1) F_23 sc23 rfl rfl fun cdv A outer s H E G H0 hr=>by
    exact jdb_one (jds_ret (jde_tup (jda_cons (jde_ixV 0 (jde_int) (by intro _ _; rfl) (n23 0).v) (jda_cons (jde_ixV 0 (jde_int) (by intro _ _; rfl) (n23 0).v) (jda_nil)))))
theorem sc24:FnScope ["turns", "turn", "place"] ["turns", "turn"] (defScope t_24):=⟨rfl,rfl,rfl,by decide +kernel,rfl,by decide +kernel,by decide +kernel⟩
theorem n24:∀ i:Fin 3,LN (defScope t_24) ((["turns", "turn", "place"]:List Str).getD i.1 ""):=by decide +kernel
theorem g24:∀ i:Fin 3,GN (defScope t_24) ((["len", "share_sign", "turn_share"]:List Str).getD i.1 ""):=by decide +kernel
theorem ok_24 {f_24:Addr} {d_24:FuncData} (F_24:Fun K "place_of_turn" "place_of_turn" t_24 f_24 d_24) {f_11:Addr} {d_11:FuncData} (mg_11:mg "share_sign" = some (.ref f_11)) (kp_11:PySem.W.keepIn K (.ref f_11)=true) (bd_11:Binds K d_11 ["one", "other"] []) {f_23:Addr} {d_23:FuncData} (mg_23:mg "turn_share" = some (.ref f_23)) (kp_23:PySem.W.keepIn K (.ref f_23)=true) (bd_23:Binds K d_23 ["turn"] []) (bn_len:mg "len" = none) (G_11:FnOk P w K mg base CX0 2 f_11 d_11 ["one", "other"] (dSp K m_share_sign)) (G_23:FnOk P w K mg base CX0 1 f_23 d_23 ["turn"] (dSp K m_turn_share)):FnOk P w K mg base CX0 3 f_24 d_24 ["turns", "turn"] (dSp K m_place_of_turn) :=
  jfn_D (g:=s_place_of_turn) (n:=3) (ar:=2) F_24 sc24 rfl rfl fun cdv A outer s H E G H0 hr=>by
    refine jdb_cons (jds_setE (i:=2) sc24.nd (by rfl) (n24 2).1 (jde_int)) ?_
    refine jdb_cons (jds_while 10000 PassesOwn.never (jdt_w (jdw_and (jdt_lt (jde_var 2 (n24 2).v) (jde_lenV 0 (g24 0).1 bn_len (n24 0).v)) (jdw_and1 (jdt_ge (jde_call G_11 (hr.mono (by decide)) (g24 1).1 mg_11 kp_11 bd_11 pass0 (jda_cons (jde_call G_23 (hr.mono (by decide)) (g24 2).1 mg_23 kp_23 bd_23 pass0 (jda_cons (jde_ixV 0 (jde_var 2 (n24 2).v) (by intro _ _; rfl) (n24 0).v) (jda_nil)) (g24 2).2) (jda_cons (jde_call G_23 (hr.mono (by decide)) (g24 2).1 mg_23 kp_23 bd_23 pass0 (jda_cons (jde_var 1 (n24 1).v) (jda_nil)) (g24 2).2) (jda_nil))) (g24 1).2) (jde_int))))) ?_) ?_
    · exact jdb_one (jds_augA (i:=2) sc24.nd (by rfl) (n24 2).1 (jde_int))
    exact jdb_one (jds_ret (jde_var 2 (n24 2).v))
theorem sc25:FnScope ["stacks", "turns", "at", "stack", "many", "hours", "loss", "turn"] ["stacks"] (defScope t_25):=⟨rfl,rfl,rfl,by decide +kernel,rfl,by decide +kernel,by decide +kernel⟩
theorem n25:∀ i:Fin 8,LN (defScope t_25) ((["stacks", "turns", "at", "stack", "many", "hours", "loss", "turn"]:List Str).getD i.1 ""):=by decide +kernel
theorem g25:∀ i:Fin 3,GN (defScope t_25) ((["enumerate", "place_of_turn", "stack_blocks"]:List Str).getD i.1 ""):=by decide +kernel
theorem ok_25 {f_25:Addr} {d_25:FuncData} (F_25:Fun K "block_turns" "block_turns" t_25 f_25 d_25) {f_24:Addr} {d_24:FuncData} (mg_24:mg "place_of_turn" = some (.ref f_24)) (kp_24:PySem.W.keepIn K (.ref f_24)=true) (bd_24:Binds K d_24 ["turns", "turn"] []) {f_16:Addr} {d_16:FuncData} (mg_16:mg "stack_blocks" = some (.ref f_16)) (kp_16:PySem.W.keepIn K (.ref f_16)=true) (bd_16:Binds K d_16 ["stack"] []) (bn_enumerate:mg "enumerate" = none) (G_24:FnOk P w K mg base CX0 3 f_24 d_24 ["turns", "turn"] (dSp K m_place_of_turn)) (G_16:FnOk P w K mg base CX0 4 f_16 d_16 ["stack"] (dSp K m_stack_blocks)):FnOk P w K mg base CX0 5 f_25 d_25 ["stacks"] (dSp K m_block_turns) :=
  jfn_D (g:=s_block_turns) (n:=8) (ar:=1) F_25 sc25 rfl rfl fun cdv A outer s H E G H0 hr=>by
    refine jdb_cons (jds_own (i:=1) (jps_set sc25.nd (by rfl) (n25 1).1 (jdf_lst (jda_nil)))) ?_
    refine jdb_cons (jds_forP (ix:=[2,3]) PassesOwn.never (by rfl) (jdj_enumS (g25 0).1 bn_enumerate (jda_cons (jde_var 0 (n25 0).v) (jda_nil))) (jpn_cons sc25.nd (by rfl) (n25 2).1 (jpn_cons sc25.nd (by rfl) (n25 3).1 (jpn_nil))) ?_) ?_
    · refine jdb_one (jds_forU (ix:=[4,5,6]) PassesOwn.never (by rfl) (jdi_seq (jde_call G_16 (hr.mono (by decide)) (g25 2).1 mg_16 kp_16 bd_16 pass0 (jda_cons (jde_var 3 (n25 3).v) (jda_nil)) (g25 2).2)) (jpn_cons sc25.nd (by rfl) (n25 4).1 (jpn_cons sc25.nd (by rfl) (n25 5).1 (jpn_cons sc25.nd (by rfl) (n25 6).1 (jpn_nil)))) ?_)
      · refine jdb_cons (jds_setE (i:=7) sc25.nd (by rfl) (n25 7).1 (jde_tup (jda_cons (jde_var 2 (n25 2).v) (jda_cons (jde_var 4 (n25 4).v) (jda_cons (jde_var 5 (n25 5).v) (jda_cons (jde_var 6 (n25 6).v) (jda_nil))))))) ?_
        exact jdb_one (jds_expr (jde_insert 1 (jde_callA G_24 (hr.mono (by decide)) (g25 1).1 mg_24 kp_24 bd_24 pass0 (jdl_lend 1 (jdl_of (jda_cons (jde_var 7 (n25 7).v) (jda_nil))) (n25 1).v) (g25 1).2) (jde_var 7 (n25 7).v) (n25 1).v))
    exact jdb_one (jds_ret (jde_var 1 (n25 1).v))
theorem sc26:FnScope ["stacks", "order", "at", "many", "hours", "loss"] ["stacks"] (defScope t_26):=⟨rfl,rfl,rfl,by decide +kernel,rfl,by decide +kernel,by decide +kernel⟩
theorem n26:∀ i:Fin 6,LN (defScope t_26) ((["stacks", "order", "at", "many", "hours", "loss"]:List Str).getD i.1 ""):=by decide +kernel
theorem g26:∀ i:Fin 1,GN (defScope t_26) ((["block_turns"]:List Str).getD i.1 ""):=by decide +kernel
theorem ok_26 {f_26:Addr} {d_26:FuncData} (F_26:Fun K "told_order" "told_order" t_26 f_26 d_26) {f_25:Addr} {d_25:FuncData} (mg_25:mg "block_turns" = some (.ref f_25)) (kp_25:PySem.W.keepIn K (.ref f_25)=true) (bd_25:Binds K d_25 ["stacks"] []) (G_25:FnOk P w K mg base CX0 5 f_25 d_25 ["stacks"] (dSp K m_block_turns)):FnOk P w K mg base CX0 6 f_26 d_26 ["stacks"] (fSp K m_told_order) :=
  jfn_F (g:=s_told_order) (n:=6) (ar:=1) F_26 sc26 rfl rfl fun cdv A outer s H E G H0 hr=>by
    refine jdb_cons (jds_own (i:=1) (jps_set sc26.nd (by rfl) (n26 1).1 (jdf_lst (jda_nil)))) ?_
    refine jdb_cons (jds_forU (ix:=[2,3,4,5]) PassesOwn.never (by rfl) (jdi_seq (jde_call G_25 (hr.mono (by decide)) (g26 0).1 mg_25 kp_25 bd_25 pass0 (jda_cons (jde_var 0 (n26 0).v) (jda_nil)) (g26 0).2)) (jpn_cons sc26.nd (by rfl) (n26 2).1 (jpn_cons sc26.nd (by rfl) (n26 3).1 (jpn_cons sc26.nd (by rfl) (n26 4).1 (jpn_cons sc26.nd (by rfl) (n26 5).1 (jpn_nil))))) ?_) ?_
    · exact jdb_one (jds_expr (jde_extend 1 (jdf_rep (jdf_lst (jda_cons (jde_var 2 (n26 2).v) (jda_nil))) (jde_var 3 (n26 3).v)) (n26 1).v))
    exact jdb_one (jds_retO 1 (n26 1).v)
theorem sc27:FnScope ["stacks", "at"] ["stacks", "at"] (defScope t_27):=⟨rfl,rfl,rfl,by decide +kernel,rfl,by decide +kernel,by decide +kernel⟩
theorem n27:∀ i:Fin 2,LN (defScope t_27) ((["stacks", "at"]:List Str).getD i.1 ""):=by decide +kernel
theorem g27:∀ i:Fin 1,GN (defScope t_27) ((["len"]:List Str).getD i.1 ""):=by decide +kernel
theorem ok_27 {f_27:Addr} {d_27:FuncData} (F_27:Fun K "check_known" "check_known" t_27 f_27 d_27) (bn_len:mg "len" = none):FnOk P w K mg base CX0 1 f_27 d_27 ["stacks", "at"] (dSp K m_check_known) :=
  jfn_D (g:=s_check_known) (n:=2) (ar:=2) F_27 sc27 rfl rfl fun cdv A outer s H E G H0 hr=>by
    refine jdb_one (jds_if (jdt_w (jdw_or (jdt_lt (jde_var 1 (n27 1).v) (jde_int)) (jdw_or1 (jdt_gt (jde_var 1 (n27 1).v) (jde_lenV 0 (g27 0).1 bn_len (n27 0).v))))) ?_ ?_)
    · exact jdb_one (jds_never)
    · exact jdb_nil
theorem sc28:FnScope ["stacks", "order", "left", "at"] ["stacks", "order"] (defScope t_28):=⟨rfl,rfl,rfl,by decide +kernel,rfl,by decide +kernel,by decide +kernel⟩
theorem n28:∀ i:Fin 4,LN (defScope t_28) ((["stacks", "order", "left", "at"]:List Str).getD i.1 ""):=by decide +kernel
theorem g28:∀ i:Fin 1,GN (defScope t_28) ((["sum"]:List Str).getD i.1 ""):=by decide +kernel
theorem ok_28 {f_28:Addr} {d_28:FuncData} (F_28:Fun K "check_whole" "check_whole" t_28 f_28 d_28) (bn_len:mg "len" = none) (bn_sum:mg "sum" = none):FnOk P w K mg base CX0 1 f_28 d_28 ["stacks", "order"] (dSp K m_check_whole) :=
  jfn_D (g:=s_check_whole) (n:=4) (ar:=2) F_28 sc28 rfl rfl fun cdv A outer s H E G H0 hr=>by
    refine jdb_cons (jds_own (i:=2) (jps_compD (show CompOk _ "stack" [] [] _ from compOk (by rfl) (by decide +kernel) trivial) (by rfl) sc28.nd (by rfl) (n28 2).1 (jdi_seq (jde_var 0 (n28 0).v)) (fun _ _ _ _ _ _ _=>jde_lenV 0 (gl_c (by decide +kernel)) bn_len ⟨(vis_cl (by decide +kernel)),(nm 5)⟩) (by rfl))) ?_
    refine jdb_cons (jds_for PassesOwn.never (by rfl) (jdi_seq (jde_var 1 (n28 1).v)) (jpg_name (i:=3) sc28.nd (by rfl) (n28 3).1) ?_) ?_
    · refine jdb_cons (jds_if (jdt_eq (jde_ixV 2 (jde_sub (jde_var 3 (n28 3).v) (jde_int)) (by intro _ _; rfl) (n28 2).v) (jde_int)) ?_ ?_) ?_
      · exact jdb_one (jds_never)
      · exact jdb_nil
      exact jdb_one (jds_augSB 2 (jde_sub (jde_var 3 (n28 3).v) (jde_int)) (jde_int) (n28 2).v)
    refine jdb_one (jds_if (jdt_gt (jde_sumV 2 (by rfl) (g28 0).1 bn_sum (n28 2).v) (jde_int)) ?_ ?_)
    · exact jdb_one (jds_never)
    · exact jdb_nil
theorem sc29:FnScope ["stacks", "order", "at"] ["stacks", "order"] (defScope t_29):=⟨rfl,rfl,rfl,by decide +kernel,rfl,by decide +kernel,by decide +kernel⟩
theorem n29:∀ i:Fin 3,LN (defScope t_29) ((["stacks", "order", "at"]:List Str).getD i.1 ""):=by decide +kernel
theorem g29:∀ i:Fin 2,GN (defScope t_29) ((["check_known", "check_whole"]:List Str).getD i.1 ""):=by decide +kernel
theorem ok_29 {f_29:Addr} {d_29:FuncData} (F_29:Fun K "check_order" "check_order" t_29 f_29 d_29) {f_27:Addr} {d_27:FuncData} (mg_27:mg "check_known" = some (.ref f_27)) (kp_27:PySem.W.keepIn K (.ref f_27)=true) (bd_27:Binds K d_27 ["stacks", "at"] []) {f_28:Addr} {d_28:FuncData} (mg_28:mg "check_whole" = some (.ref f_28)) (kp_28:PySem.W.keepIn K (.ref f_28)=true) (bd_28:Binds K d_28 ["stacks", "order"] []) (G_27:FnOk P w K mg base CX0 1 f_27 d_27 ["stacks", "at"] (dSp K m_check_known)) (G_28:FnOk P w K mg base CX0 1 f_28 d_28 ["stacks", "order"] (dSp K m_check_whole)):FnOk P w K mg base CX0 2 f_29 d_29 ["stacks", "order"] (dSp K m_check_order) :=
  jfn_D (g:=s_check_order) (n:=3) (ar:=2) F_29 sc29 rfl rfl fun cdv A outer s H E G H0 hr=>by
    refine jdb_cons (jds_for PassesOwn.never (by rfl) (jdi_seq (jde_var 1 (n29 1).v)) (jpg_name (i:=2) sc29.nd (by rfl) (n29 2).1) ?_) ?_
    · exact jdb_one (jds_expr (jde_call G_27 (hr.mono (by decide)) (g29 0).1 mg_27 kp_27 bd_27 pass0 (jda_cons (jde_var 0 (n29 0).v) (jda_cons (jde_var 2 (n29 2).v) (jda_nil))) (g29 0).2))
    exact jdb_one (jds_expr (jde_call G_28 (hr.mono (by decide)) (g29 1).1 mg_28 kp_28 bd_28 pass0 (jda_cons (jde_var 0 (n29 0).v) (jda_cons (jde_var 1 (n29 1).v) (jda_nil))) (g29 1).2))
theorem sc30:FnScope ["stacks", "order", "taken", "sacks", "at"] ["stacks", "order"] (defScope t_30):=⟨rfl,rfl,rfl,by decide +kernel,rfl,by decide +kernel,by decide +kernel⟩
theorem n30:∀ i:Fin 5,LN (defScope t_30) ((["stacks", "order", "taken", "sacks", "at"]:List Str).getD i.1 ""):=by decide +kernel
theorem g30:∀ i:Fin 1,GN (defScope t_30) ((["check_order"]:List Str).getD i.1 ""):=by decide +kernel
theorem ok_30 {f_30:Addr} {d_30:FuncData} (F_30:Fun K "taken_sacks" "taken_sacks" t_30 f_30 d_30) {f_29:Addr} {d_29:FuncData} (mg_29:mg "check_order" = some (.ref f_29)) (kp_29:PySem.W.keepIn K (.ref f_29)=true) (bd_29:Binds K d_29 ["stacks", "order"] []) (G_29:FnOk P w K mg base CX0 2 f_29 d_29 ["stacks", "order"] (dSp K m_check_order)):FnOk P w K mg base CX0 3 f_30 d_30 ["stacks", "order"] (dSp K m_taken_sacks) :=
  jfn_D (g:=s_taken_sacks) (n:=5) (ar:=2) F_30 sc30 rfl rfl fun cdv A outer s H E G H0 hr=>by
    refine jdb_cons (jds_expr (jde_call G_29 (hr.mono (by decide)) (g30 0).1 mg_29 kp_29 bd_29 pass0 (jda_cons (jde_var 0 (n30 0).v) (jda_cons (jde_var 1 (n30 1).v) (jda_nil))) (g30 0).2)) ?_
    refine jdb_cons (jds_own (i:=2) (jps_compD (show CompOk _ "stack" [] [] _ from compOk (by rfl) (by decide +kernel) trivial) (by rfl) sc30.nd (by rfl) (n30 2).1 (jdi_seq (jde_var 0 (n30 0).v)) (fun _ _ _ _ _ _ _=>jde_int) (by rfl))) ?_
    refine jdb_cons (jds_own (i:=3) (jps_set sc30.nd (by rfl) (n30 3).1 (jdf_lst (jda_nil)))) ?_
    refine jdb_cons (jds_for PassesOwn.never (by rfl) (jdi_seq (jde_var 1 (n30 1).v)) (jpg_name (i:=4) sc30.nd (by rfl) (n30 4).1) ?_) ?_
    · refine jdb_cons (jds_expr (jde_append 3 (jde_ix (jde_ixV 0 (jde_sub (jde_var 4 (n30 4).v) (jde_int)) (by intro _ _; rfl) (n30 0).v) (jde_ixV 2 (jde_sub (jde_var 4 (n30 4).v) (jde_int)) (by intro _ _; rfl) (n30 2).v)) (n30 3).v)) ?_
      exact jdb_one (jds_augSA 2 (jde_sub (jde_var 4 (n30 4).v) (jde_int)) (jde_int) (n30 2).v)
    exact jdb_one (jds_ret (jde_var 3 (n30 3).v))
theorem sc32:FnScope ["stacks", "order", "cost", "hour", "sack"] ["stacks", "order"] (defScope t_32):=⟨rfl,rfl,rfl,by decide +kernel,rfl,by decide +kernel,by decide +kernel⟩
theorem n32:∀ i:Fin 5,LN (defScope t_32) ((["stacks", "order", "cost", "hour", "sack"]:List Str).getD i.1 ""):=by decide +kernel
theorem g32:∀ i:Fin 3,GN (defScope t_32) ((["sack_hours", "sack_loss", "taken_sacks"]:List Str).getD i.1 ""):=by decide +kernel
theorem ok_32 {f_32:Addr} {d_32:FuncData} (F_32:Fun K "order_cost" "order_cost" t_32 f_32 d_32) {f_2:Addr} {d_2:FuncData} (mg_2:mg "sack_hours" = some (.ref f_2)) (kp_2:PySem.W.keepIn K (.ref f_2)=true) (bd_2:Binds K d_2 ["sack"] []) {f_3:Addr} {d_3:FuncData} (mg_3:mg "sack_loss" = some (.ref f_3)) (kp_3:PySem.W.keepIn K (.ref f_3)=true) (bd_3:Binds K d_3 ["sack"] []) {f_30:Addr} {d_30:FuncData} (mg_30:mg "taken_sacks" = some (.ref f_30)) (kp_30:PySem.W.keepIn K (.ref f_30)=true) (bd_30:Binds K d_30 ["stacks", "order"] []) (G_2:FnOk P w K mg base CX0 1 f_2 d_2 ["sack"] (dSp K m_sack_hours)) (G_3:FnOk P w K mg base CX0 1 f_3 d_3 ["sack"] (dSp K m_sack_loss)) (G_30:FnOk P w K mg base CX0 3 f_30 d_30 ["stacks", "order"] (dSp K m_taken_sacks)):FnOk P w K mg base CX0 4 f_32 d_32 ["stacks", "order"] (dSp K m_order_cost) :=
  jfn_D (g:=s_order_cost) (n:=5) (ar:=2) F_32 sc32 rfl rfl fun cdv A outer s H E G H0 hr=>by
    refine jdb_cons (jds_setE (i:=2) sc32.nd (by rfl) (n32 2).1 (jde_int)) ?_
    refine jdb_cons (jds_setE (i:=3) sc32.nd (by rfl) (n32 3).1 (jde_int)) ?_
    refine jdb_cons (jds_for PassesOwn.never (by rfl) (jdi_seq (jde_call G_30 (hr.mono (by decide)) (g32 2).1 mg_30 kp_30 bd_30 pass0 (jda_cons (jde_var 0 (n32 0).v) (jda_cons (jde_var 1 (n32 1).v) (jda_nil))) (g32 2).2)) (jpg_name (i:=4) sc32.nd (by rfl) (n32 4).1) ?_) ?_
    · refine jdb_cons (jds_augA (i:=3) sc32.nd (by rfl) (n32 3).1 (jde_call G_2 (hr.mono (by decide)) (g32 0).1 mg_2 kp_2 bd_2 pass0 (jda_cons (jde_var 4 (n32 4).v) (jda_nil)) (g32 0).2)) ?_
      exact jdb_one (jds_augA (i:=2) sc32.nd (by rfl) (n32 2).1 (jde_mul (jde_call G_3 (hr.mono (by decide)) (g32 1).1 mg_3 kp_3 bd_3 pass0 (jda_cons (jde_var 4 (n32 4).v) (jda_nil)) (g32 1).2) (jde_var 3 (n32 3).v)))
    exact jdb_one (jds_ret (jde_var 2 (n32 2).v))
theorem sc33:FnScope ["stacks"] ["stacks"] (defScope t_33):=⟨rfl,rfl,rfl,by decide +kernel,rfl,by decide +kernel,by decide +kernel⟩
theorem n33:∀ i:Fin 1,LN (defScope t_33) ((["stacks"]:List Str).getD i.1 ""):=by decide +kernel
theorem g33:∀ i:Fin 2,GN (defScope t_33) ((["order_cost", "told_order"]:List Str).getD i.1 ""):=by decide +kernel
theorem ok_33 {f_33:Addr} {d_33:FuncData} (F_33:Fun K "least_cost" "least_cost" t_33 f_33 d_33) {f_32:Addr} {d_32:FuncData} (mg_32:mg "order_cost" = some (.ref f_32)) (kp_32:PySem.W.keepIn K (.ref f_32)=true) (bd_32:Binds K d_32 ["stacks", "order"] []) {f_26:Addr} {d_26:FuncData} (mg_26:mg "told_order" = some (.ref f_26)) (kp_26:PySem.W.keepIn K (.ref f_26)=true) (bd_26:Binds K d_26 ["stacks"] []) (G_32:FnOk P w K mg base CX0 4 f_32 d_32 ["stacks", "order"] (dSp K m_order_cost)) (G_26:FnOk P w K mg base CX0 6 f_26 d_26 ["stacks"] (fSp K m_told_order)):FnOk P w K mg base CX0 7 f_33 d_33 ["stacks"] (dSp K m_least_cost) :=
  jfn_D (g:=s_least_cost) (n:=1) (ar:=1) F_33 sc33 rfl rfl fun cdv A outer s H E G H0 hr=>by
    exact jdb_one (jds_ret (jde_call G_32 (hr.mono (by decide)) (g33 0).1 mg_32 kp_32 bd_32 pass0 (jda_cons (jde_var 0 (n33 0).v) (jda_cons (jde_fr (jdf_call G_26 (hr.mono (by decide)) (g33 1).1 mg_26 kp_26 bd_26 pass0 (jda_cons (jde_var 0 (n33 0).v) (jda_nil)) (g33 1).2)) (jda_nil))) (g33 0).2))
theorem sc35:FnScope ["stacks", "rows", "hour", "lost", "left", "at", "sack"] ["stacks"] (defScope t_35):=⟨rfl,rfl,rfl,by decide +kernel,rfl,by decide +kernel,by decide +kernel⟩
theorem n35:∀ i:Fin 7,LN (defScope t_35) ((["stacks", "rows", "hour", "lost", "left", "at", "sack"]:List Str).getD i.1 ""):=by decide +kernel
theorem g35:∀ i:Fin 8,GN (defScope t_35) ((["least_cost", "loss_in_all", "sack_hours", "sack_number", "sacks_in_all", "told_order", "top_sack", "without_top"]:List Str).getD i.1 ""):=by decide +kernel
theorem ok_35 {f_35:Addr} {d_35:FuncData} (F_35:Fun K "dry_on" "dry_on" t_35 f_35 d_35) {f_33:Addr} {d_33:FuncData} (mg_33:mg "least_cost" = some (.ref f_33)) (kp_33:PySem.W.keepIn K (.ref f_33)=true) (bd_33:Binds K d_33 ["stacks"] []) {f_5:Addr} {d_5:FuncData} (mg_5:mg "loss_in_all" = some (.ref f_5)) (kp_5:PySem.W.keepIn K (.ref f_5)=true) (bd_5:Binds K d_5 ["stacks"] []) {f_2:Addr} {d_2:FuncData} (mg_2:mg "sack_hours" = some (.ref f_2)) (kp_2:PySem.W.keepIn K (.ref f_2)=true) (bd_2:Binds K d_2 ["sack"] []) {f_1:Addr} {d_1:FuncData} (mg_1:mg "sack_number" = some (.ref f_1)) (kp_1:PySem.W.keepIn K (.ref f_1)=true) (bd_1:Binds K d_1 ["sack"] []) {f_4:Addr} {d_4:FuncData} (mg_4:mg "sacks_in_all" = some (.ref f_4)) (kp_4:PySem.W.keepIn K (.ref f_4)=true) (bd_4:Binds K d_4 ["stacks"] []) {f_26:Addr} {d_26:FuncData} (mg_26:mg "told_order" = some (.ref f_26)) (kp_26:PySem.W.keepIn K (.ref f_26)=true) (bd_26:Binds K d_26 ["stacks"] []) {f_6:Addr} {d_6:FuncData} (mg_6:mg "top_sack" = some (.ref f_6)) (kp_6:PySem.W.keepIn K (.ref f_6)=true) (bd_6:Binds K d_6 ["stacks", "at"] []) {f_8:Addr} {d_8:FuncData} (mg_8:mg "without_top" = some (.ref f_8)) (kp_8:PySem.W.keepIn K (.ref f_8)=true) (bd_8:Binds K d_8 ["stacks", "at"] []) (G_33:FnOk P w K mg base CX0 7 f_33 d_33 ["stacks"] (dSp K m_least_cost)) (G_5:FnOk P w K mg base CX0 2 f_5 d_5 ["stacks"] (dSp K m_loss_in_all)) (G_2:FnOk P w K mg base CX0 1 f_2 d_2 ["sack"] (dSp K m_sack_hours)) (G_1:FnOk P w K mg base CX0 1 f_1 d_1 ["sack"] (dSp K m_sack_number)) (G_4:FnOk P w K mg base CX0 1 f_4 d_4 ["stacks"] (dSp K m_sacks_in_all)) (G_26:FnOk P w K mg base CX0 6 f_26 d_26 ["stacks"] (fSp K m_told_order)) (G_6:FnOk P w K mg base CX0 1 f_6 d_6 ["stacks", "at"] (dSp K m_top_sack)) (G_8:FnOk P w K mg base CX0 2 f_8 d_8 ["stacks", "at"] (dSp K m_without_top)):FnOk P w K mg base CX0 8 f_35 d_35 ["stacks"] (dSp K m_dry_on) :=
  jfn_D (g:=s_dry_on) (n:=7) (ar:=1) F_35 sc35 rfl rfl fun cdv A outer s H E G H0 hr=>by
    refine jdb_cons (jds_own (i:=1) (jps_set sc35.nd (by rfl) (n35 1).1 (jdf_lst (jda_nil)))) ?_
    refine jdb_cons (jds_setE (i:=2) sc35.nd (by rfl) (n35 2).1 (jde_int)) ?_
    refine jdb_cons (jds_setE (i:=3) sc35.nd (by rfl) (n35 3).1 (jde_int)) ?_
    refine jdb_cons (jds_setE (i:=4) sc35.nd (by rfl) (n35 4).1 (jde_var 0 (n35 0).v)) ?_
    refine jdb_cons (jds_while 10000 PassesOwn.never (jdt_gt (jde_call G_4 (hr.mono (by decide)) (g35 4).1 mg_4 kp_4 bd_4 pass0 (jda_cons (jde_var 4 (n35 4).v) (jda_nil)) (g35 4).2) (jde_int)) ?_) ?_
    · refine jdb_cons (jds_setE (i:=5) sc35.nd (by rfl) (n35 5).1 (jde_ix (jde_fr (jdf_call G_26 (hr.mono (by decide)) (g35 5).1 mg_26 kp_26 bd_26 pass0 (jda_cons (jde_var 4 (n35 4).v) (jda_nil)) (g35 5).2)) (jde_int))) ?_
      refine jdb_cons (jds_setE (i:=6) sc35.nd (by rfl) (n35 6).1 (jde_call G_6 (hr.mono (by decide)) (g35 6).1 mg_6 kp_6 bd_6 pass0 (jda_cons (jde_var 4 (n35 4).v) (jda_cons (jde_var 5 (n35 5).v) (jda_nil))) (g35 6).2)) ?_
      refine jdb_cons (jds_augA (i:=2) sc35.nd (by rfl) (n35 2).1 (jde_call G_2 (hr.mono (by decide)) (g35 2).1 mg_2 kp_2 bd_2 pass0 (jda_cons (jde_var 6 (n35 6).v) (jda_nil)) (g35 2).2)) ?_
      refine jdb_cons (jds_augA (i:=3) sc35.nd (by rfl) (n35 3).1 (jde_mul (jde_call G_2 (hr.mono (by decide)) (g35 2).1 mg_2 kp_2 bd_2 pass0 (jda_cons (jde_var 6 (n35 6).v) (jda_nil)) (g35 2).2) (jde_call G_5 (hr.mono (by decide)) (g35 1).1 mg_5 kp_5 bd_5 pass0 (jda_cons (jde_var 4 (n35 4).v) (jda_nil)) (g35 1).2))) ?_
      refine jdb_cons (jds_setE (i:=4) sc35.nd (by rfl) (n35 4).1 (jde_call G_8 (hr.mono (by decide)) (g35 7).1 mg_8 kp_8 bd_8 pass0 (jda_cons (jde_var 4 (n35 4).v) (jda_cons (jde_var 5 (n35 5).v) (jda_nil))) (g35 7).2)) ?_
      exact jdb_one (jds_expr (jde_append 1 (jde_tup (jda_cons (jde_call G_1 (hr.mono (by decide)) (g35 3).1 mg_1 kp_1 bd_1 pass0 (jda_cons (jde_var 6 (n35 6).v) (jda_nil)) (g35 3).2) (jda_cons (jde_var 2 (n35 2).v) (jda_cons (jde_var 3 (n35 3).v) (jda_cons (jde_call G_33 (hr.mono (by decide)) (g35 0).1 mg_33 kp_33 bd_33 pass0 (jda_cons (jde_var 4 (n35 4).v) (jda_nil)) (g35 0).2) (jda_nil)))))) (n35 1).v))
    exact jdb_one (jds_ret (jde_var 1 (n35 1).v))
theorem sc37:FnScope ["_law_found"] ["_law_found"] (defScope t_37):=⟨rfl,rfl,rfl,by decide +kernel,rfl,by decide +kernel,by decide +kernel⟩
theorem n37:∀ i:Fin 1,LN (defScope t_37) ((["_law_found"]:List Str).getD i.1 ""):=by decide +kernel
theorem g37:∀ i:Fin 3,GN (defScope t_37) ((["bool", "int", "isinstance"]:List Str).getD i.1 ""):=by decide +kernel
theorem ok_37 {f_37:Addr} {d_37:FuncData} (F_37:Fun K "_law_whole" "_law_whole" t_37 f_37 d_37) (bn_bool:mg "bool" = none) (bn_int:mg "int" = none) (bn_isinstance:mg "isinstance" = none):FnOk P w K mg base CX0 1 f_37 d_37 ["_law_found"] (dSp K m__law_whole) :=
  jfn_D (g:=s__law_whole) (n:=1) (ar:=1) F_37 sc37 rfl rfl fun cdv A outer s H E G H0 hr=>by
    exact jdb_one (jds_ret (jde_and (jde_isi (T:="int") (g37 2).1 bn_isinstance (g37 1).1 bn_int bt_int ik_int (jde_var 0 (n37 0).v) nd_int nn_int) (jde_one (jde_not (jde_isi (T:="bool") (g37 2).1 bn_isinstance (g37 0).1 bn_bool bt_bool ik_bool (jde_var 0 (n37 0).v) nd_bool nn_bool)))))
theorem sc38:FnScope ["_law_script", "_law_k"] ["_law_script", "_law_k"] (defScope t_38):=⟨rfl,rfl,rfl,by decide +kernel,rfl,by decide +kernel,by decide +kernel⟩
theorem n38:∀ i:Fin 2,LN (defScope t_38) ((["_law_script", "_law_k"]:List Str).getD i.1 ""):=by decide +kernel
theorem g38:∀ i:Fin 1,GN (defScope t_38) ((["len"]:List Str).getD i.1 ""):=by decide +kernel
theorem ok_38 {f_38:Addr} {d_38:FuncData} (F_38:Fun K "_law_at" "_law_at" t_38 f_38 d_38) (bn_len:mg "len" = none):FnOk P w K mg base CX0 1 f_38 d_38 ["_law_script", "_law_k"] (dSp K m__law_at) :=
  jfn_D (g:=s__law_at) (n:=2) (ar:=2) F_38 sc38 rfl rfl fun cdv A outer s H E G H0 hr=>by
    refine jdb_cons (jds_if (jdt_lt (jde_var 1 (n38 1).v) (jde_lenV 0 (g38 0).1 bn_len (n38 0).v)) ?_ ?_) ?_
    · exact jdb_one (jds_ret (jde_ixV 0 (jde_var 1 (n38 1).v) (by intro _ _; rfl) (n38 0).v))
    · exact jdb_nil
    exact jdb_one (jds_ret (jde_int))
theorem sc39:FnScope ["_law_script", "_law_many", "_law_made", "_law_state", "_law_k", "_law_cell"] ["_law_script", "_law_many"] (defScope t_39):=⟨rfl,rfl,rfl,by decide +kernel,rfl,by decide +kernel,by decide +kernel⟩
theorem n39:∀ i:Fin 6,LN (defScope t_39) ((["_law_script", "_law_many", "_law_made", "_law_state", "_law_k", "_law_cell"]:List Str).getD i.1 ""):=by decide +kernel
theorem g39:∀ i:Fin 3,GN (defScope t_39) ((["_law_at", "len", "range"]:List Str).getD i.1 ""):=by decide +kernel
theorem ok_39 {f_39:Addr} {d_39:FuncData} (F_39:Fun K "_law_draws" "_law_draws" t_39 f_39 d_39) {f_38:Addr} {d_38:FuncData} (mg_38:mg "_law_at" = some (.ref f_38)) (kp_38:PySem.W.keepIn K (.ref f_38)=true) (bd_38:Binds K d_38 ["_law_script", "_law_k"] []) (bn_len:mg "len" = none) (bn_range:mg "range" = none) (G_38:FnOk P w K mg base CX0 1 f_38 d_38 ["_law_script", "_law_k"] (dSp K m__law_at)):FnOk P w K mg base CX0 2 f_39 d_39 ["_law_script", "_law_many"] (dSp K m__law_draws) :=
  jfn_D (g:=s__law_draws) (n:=6) (ar:=2) F_39 sc39 rfl rfl fun cdv A outer s H E G H0 hr=>by
    refine jdb_cons (jds_own (i:=2) (jps_set sc39.nd (by rfl) (n39 2).1 (jdf_lst (jda_nil)))) ?_
    refine jdb_cons (jds_setE (i:=3) sc39.nd (by rfl) (n39 3).1 (jde_int)) ?_
    refine jdb_cons (jds_for PassesOwn.never (by rfl) (jdi_range1 (g39 2).1 bn_range (jda_cons (jde_var 1 (n39 1).v) (jda_nil))) (jpg_name (i:=4) sc39.nd (by rfl) (n39 4).1) ?_) ?_
    · refine jdb_cons (jds_setE (i:=5) sc39.nd (by rfl) (n39 5).1 (jde_call G_38 (hr.mono (by decide)) (g39 0).1 mg_38 kp_38 bd_38 pass0 (jda_cons (jde_var 0 (n39 0).v) (jda_cons (jde_var 4 (n39 4).v) (jda_nil))) (g39 0).2)) ?_
      refine jdb_cons (jds_if (jdt_eq (jde_mod (jde_lenV 0 (g39 1).1 bn_len (n39 0).v) (jde_int)) (jde_int)) ?_ ?_) ?_
      · refine jdb_cons (jds_setE (i:=3) sc39.nd (by rfl) (n39 3).1 (jde_mod (jde_add (jde_add (jde_add (jde_mul (jde_var 3 (n39 3).v) (jde_int)) (jde_var 5 (n39 5).v)) (jde_var 4 (n39 4).v)) (jde_int)) (jde_int))) ?_
        exact jdb_one (jds_setE (i:=5) sc39.nd (by rfl) (n39 5).1 (jde_mod (jde_mul (jde_add (jde_var 3 (n39 3).v) (jde_var 4 (n39 4).v)) (jde_int)) (jde_int)))
      · exact jdb_nil
      exact jdb_one (jds_expr (jde_append 2 (jde_var 5 (n39 5).v) (n39 2).v))
    exact jdb_one (jds_ret (jde_var 2 (n39 2).v))
theorem sc40:FnScope ["_law_stack", "_law_last"] ["_law_stack"] (defScope t_40):=⟨rfl,rfl,rfl,by decide +kernel,rfl,by decide +kernel,by decide +kernel⟩
theorem n40:∀ i:Fin 2,LN (defScope t_40) ((["_law_stack", "_law_last"]:List Str).getD i.1 ""):=by decide +kernel
theorem g40:∀ i:Fin 1,GN (defScope t_40) ((["len"]:List Str).getD i.1 ""):=by decide +kernel
theorem ok_40 {f_40:Addr} {d_40:FuncData} (F_40:Fun K "_law_more_below" "_law_more_below" t_40 f_40 d_40) (bn_len:mg "len" = none):FnOk P w K mg base CX0 1 f_40 d_40 ["_law_stack"] (dSp K m__law_more_below) :=
  jfn_D (g:=s__law_more_below) (n:=2) (ar:=1) F_40 sc40 rfl rfl fun cdv A outer s H E G H0 hr=>by
    refine jdb_cons (jds_if (jdt_eq (jde_lenV 0 (g40 0).1 bn_len (n40 0).v) (jde_int)) ?_ ?_) ?_
    · exact jdb_one (jds_ret (jde_fr (jdf_lst (jda_nil))))
    · exact jdb_nil
    refine jdb_cons (jds_setE (i:=1) sc40.nd (by rfl) (n40 1).1 (jde_ixV 0 (jde_sub (jde_lenV 0 (g40 0).1 bn_len (n40 0).v) (jde_int)) (by intro _ _; rfl) (n40 0).v)) ?_
    exact jdb_one (jds_ret (jde_fr (jdf_cat (jde_fr (jdf_sl (jde_var 0 (n40 0).v) (jdo_none) (jdo_some (jde_sub (jde_lenV 0 (g40 0).1 bn_len (n40 0).v) (jde_int))))) (jde_fr (jdf_lst (jda_cons (jde_tup (jda_cons (jde_ixV 1 (jde_int) (by intro _ _; rfl) (n40 1).v) (jda_cons (jde_ixV 1 (jde_int) (by intro _ _; rfl) (n40 1).v) (jda_cons (jde_add (jde_ixV 1 (jde_int) (by intro _ _; rfl) (n40 1).v) (jde_int)) (jda_nil))))) (jda_nil)))))))
theorem sc41:FnScope ["_law_draws_here", "_law_most", "_law_many", "_law_count", "_law_menu", "_law_turn", "_law_made", "_law_pool", "_law_k", "_law_cell", "_law_hours", "_law_loss", "_law_place", "_law_number"] ["_law_draws_here", "_law_most"] (defScope t_41):=⟨rfl,rfl,rfl,by decide +kernel,rfl,by decide +kernel,by decide +kernel⟩
theorem n41:∀ i:Fin 14,LN (defScope t_41) ((["_law_draws_here", "_law_most", "_law_many", "_law_count", "_law_menu", "_law_turn", "_law_made", "_law_pool", "_law_k", "_law_cell", "_law_hours", "_law_loss", "_law_place", "_law_number"]:List Str).getD i.1 ""):=by decide +kernel
theorem g41:∀ i:Fin 4,GN (defScope t_41) ((["len", "list", "min", "range"]:List Str).getD i.1 ""):=by decide +kernel
theorem ok_41 {f_41:Addr} {d_41:FuncData} (F_41:Fun K "_law_stacks" "_law_stacks" t_41 f_41 d_41) {f_40:Addr} {d_40:FuncData} (mg_40:mg "_law_more_below" = some (.ref f_40)) (kp_40:PySem.W.keepIn K (.ref f_40)=true) (bd_40:Binds K d_40 ["_law_stack"] []) (bn_len:mg "len" = none) (bn_list:mg "list" = none) (bn_min:mg "min" = none) (bn_range:mg "range" = none) (G_40:FnOk P w K mg base CX0 1 f_40 d_40 ["_law_stack"] (dSp K m__law_more_below)):FnOk P w K mg base CX0 2 f_41 d_41 ["_law_draws_here", "_law_most"] (dSp K m__law_stacks) :=
  jfn_D (g:=s__law_stacks) (n:=14) (ar:=2) F_41 sc41 rfl rfl fun cdv A outer s H E G H0 hr=>by
    refine jdb_cons (jds_setE (i:=2) sc41.nd (by rfl) (n41 2).1 (jde_ix (jde_fr (jdf_lst (jda_cons (jde_int) (jda_cons (jde_int) (jda_cons (jde_int) (jda_cons (jde_int) (jda_cons (jde_int) (jda_cons (jde_int) (jda_cons (jde_int) (jda_cons (jde_int) (jda_cons (jde_int) (jda_cons (jde_int) (jda_cons (jde_int) (jda_cons (jde_int) (jda_nil))))))))))))))) (jde_mod (jde_ixV 0 (jde_int) (by intro _ _; rfl) (n41 0).v) (jde_int)))) ?_
    refine jdb_cons (jds_setE (i:=3) sc41.nd (by rfl) (n41 3).1 (jde_sub (jde_var 1 (n41 1).v) (jde_mod (jde_div (jde_ixV 0 (jde_int) (by intro _ _; rfl) (n41 0).v) (jde_int)) (jde_add (jde_var 1 (n41 1).v) (jde_int))))) ?_
    refine jdb_cons (jds_setE (i:=4) sc41.nd (by rfl) (n41 4).1 (jde_mod (jde_div (jde_ixV 0 (jde_int) (by intro _ _; rfl) (n41 0).v) (jde_int)) (jde_int))) ?_
    refine jdb_cons (jds_setE (i:=5) sc41.nd (by rfl) (n41 5).1 (jde_mod (jde_div (jde_ixV 0 (jde_int) (by intro _ _; rfl) (n41 0).v) (jde_int)) (jde_int))) ?_
    refine jdb_cons (jds_own2 (i:=6) (jps_comp2 (show CompOk _ "_law_k" [] [] _ from compOk (by rfl) (by decide +kernel) trivial) (by rfl) sc41.nd (by rfl) (n41 6).1 (jdi_range1 (g41 3).1 bn_range (jda_cons (jde_var 2 (n41 2).v) (jda_nil))) (fun _ _ _ _ _ _ _=>jdf_lst (jda_nil)) (by rfl))) ?_
    refine jdb_cons (jds_own (i:=7) (jps_set sc41.nd (by rfl) (n41 7).1 (jdf_listRng2 (by rfl) (g41 1).1 bn_list (g41 3).1 bn_range (jda_cons (jde_int) (jda_cons (jde_int) (jda_nil)))))) ?_
    refine jdb_cons (jds_for PassesOwn.never (by rfl) (jdi_range1 (g41 3).1 bn_range (jda_cons (jde_mul (jde_var 3 (n41 3).v) (jde_min (by rfl) (g41 2).1 bn_min (jda_cons (jde_var 2 (n41 2).v) (jda_cons (jde_int) (jda_nil))))) (jda_nil))) (jpg_name (i:=8) sc41.nd (by rfl) (n41 8).1) ?_) ?_
    · refine jdb_cons (jds_setE (i:=9) sc41.nd (by rfl) (n41 9).1 (jde_ixV 0 (jde_add (jde_int) (jde_var 8 (n41 8).v)) (by intro _ _; rfl) (n41 0).v)) ?_
      refine jdb_cons (jds_setE (i:=10) sc41.nd (by rfl) (n41 10).1 (jde_add (jde_int) (jde_mod (jde_var 9 (n41 9).v) (jde_int)))) ?_
      refine jdb_cons (jds_setE (i:=11) sc41.nd (by rfl) (n41 11).1 (jde_mod (jde_div (jde_var 9 (n41 9).v) (jde_int)) (jde_int))) ?_
      refine jdb_cons (jds_if (jdt_eq (jde_var 4 (n41 4).v) (jde_int)) ?_ ?_) ?_
      · refine jdb_cons (jds_setE (i:=10) sc41.nd (by rfl) (n41 10).1 (jde_add (jde_int) (jde_mod (jde_var 9 (n41 9).v) (jde_sub (jde_int) (jde_mul (jde_int) (jde_var 5 (n41 5).v)))))) ?_
        exact jdb_one (jds_setE (i:=11) sc41.nd (by rfl) (n41 11).1 (jde_mod (jde_div (jde_var 9 (n41 9).v) (jde_int)) (jde_sub (jde_int) (jde_mul (jde_int) (jde_var 5 (n41 5).v)))))
      · exact jdb_nil
      refine jdb_cons (jds_if (jdt_eq (jde_var 4 (n41 4).v) (jde_int)) ?_ ?_) ?_
      · refine jdb_cons (jds_setE (i:=10) sc41.nd (by rfl) (n41 10).1 (jde_ix (jde_fr (jdf_lst (jda_cons (jde_int) (jda_cons (jde_int) (jda_cons (jde_int) (jda_cons (jde_int) (jda_nil))))))) (jde_mod (jde_var 9 (n41 9).v) (jde_int)))) ?_
        exact jdb_one (jds_setE (i:=11) sc41.nd (by rfl) (n41 11).1 (jde_ix (jde_fr (jdf_lst (jda_cons (jde_int) (jda_cons (jde_int) (jda_cons (jde_int) (jda_cons (jde_int) (jda_nil))))))) (jde_mod (jde_div (jde_var 9 (n41 9).v) (jde_int)) (jde_int))))
      · exact jdb_nil
      refine jdb_cons (jds_if (jdt_eq (jde_var 4 (n41 4).v) (jde_int)) ?_ ?_) ?_
      · refine jdb_cons (jds_setE (i:=10) sc41.nd (by rfl) (n41 10).1 (jde_ix (jde_fr (jdf_lst (jda_cons (jde_var 10 (n41 10).v) (jda_cons (jde_add (jde_int) (jde_mod (jde_var 9 (n41 9).v) (jde_int))) (jda_nil))))) (jde_var 5 (n41 5).v))) ?_
        exact jdb_one (jds_setE (i:=11) sc41.nd (by rfl) (n41 11).1 (jde_var 10 (n41 10).v))
      · exact jdb_nil
      refine jdb_cons (jds_setE (i:=12) sc41.nd (by rfl) (n41 12).1 (jde_mod (jde_ix (jde_fr (jdf_lst (jda_cons (jde_div (jde_var 9 (n41 9).v) (jde_int)) (jda_cons (jde_var 8 (n41 8).v) (jda_nil))))) (jde_mul (jde_div (jde_var 4 (n41 4).v) (jde_int)) (jde_var 5 (n41 5).v))) (jde_var 2 (n41 2).v))) ?_
      refine jdb_cons (jds_setE (i:=13) sc41.nd (by rfl) (n41 13).1 (jde_popAt 7 (jde_mod (jde_div (jde_var 9 (n41 9).v) (jde_int)) (jde_lenV 7 (g41 0).1 bn_len (n41 7).v)) (n41 7).v)) ?_
      exact jdb_one (jds_expr (jde_append2 6 (jde_var 12 (n41 12).v) (fun _ _=>jde_tup (jda_cons (jde_var 13 (n41 13).v) (jda_cons (jde_var 10 (n41 10).v) (jda_cons (jde_var 11 (n41 11).v) (jda_nil))))) (by intro _ _; rfl) (n41 6).v))
    refine jdb_cons (jds_if (jdt_w (jdw_and (jdt_eq (jde_var 4 (n41 4).v) (jde_int)) (jdw_and1 (jdt_eq (jde_var 5 (n41 5).v) (jde_int))))) ?_ ?_) ?_
    · exact jdb_one (jds_setF (i:=6) (jps_compD (show CompOk _ "_law_stack" [] [] _ from compOk (by rfl) (by decide +kernel) trivial) (by rfl) sc41.nd (by rfl) (n41 6).1 (jdi_seq (jde_var 6 (n41 6).v)) (fun _ _ _ _ _ _ _=>jde_call G_40 (hr.mono (by decide)) (gl_c (by decide +kernel)) mg_40 kp_40 bd_40 pass0 (jda_cons (jde_var 0 ⟨(vis_cl (by decide +kernel)),(nm 2)⟩) (jda_nil)) (nm 0).1) (by rfl)))
    · exact jdb_nil
    exact jdb_one (jds_ret (jde_var 6 (n41 6).v))
theorem sc42:FnScope ["_law_stacks_here", "_law_order", "_law_taken_here", "_law_made", "_law_at_here"] ["_law_stacks_here", "_law_order"] (defScope t_42):=⟨rfl,rfl,rfl,by decide +kernel,rfl,by decide +kernel,by decide +kernel⟩
theorem n42:∀ i:Fin 5,LN (defScope t_42) ((["_law_stacks_here", "_law_order", "_law_taken_here", "_law_made", "_law_at_here"]:List Str).getD i.1 ""):=by decide +kernel
theorem ok_42 {f_42:Addr} {d_42:FuncData} (F_42:Fun K "_law_taken" "_law_taken" t_42 f_42 d_42):FnOk P w K mg base CX0 1 f_42 d_42 ["_law_stacks_here", "_law_order"] (dSp K m__law_taken) :=
  jfn_D (g:=s__law_taken) (n:=5) (ar:=2) F_42 sc42 rfl rfl fun cdv A outer s H E G H0 hr=>by
    refine jdb_cons (jds_own (i:=2) (jps_compD (show CompOk _ "_law_stack" [] [] _ from compOk (by rfl) (by decide +kernel) trivial) (by rfl) sc42.nd (by rfl) (n42 2).1 (jdi_seq (jde_var 0 (n42 0).v)) (fun _ _ _ _ _ _ _=>jde_int) (by rfl))) ?_
    refine jdb_cons (jds_own (i:=3) (jps_set sc42.nd (by rfl) (n42 3).1 (jdf_lst (jda_nil)))) ?_
    refine jdb_cons (jds_for PassesOwn.never (by rfl) (jdi_seq (jde_var 1 (n42 1).v)) (jpg_name (i:=4) sc42.nd (by rfl) (n42 4).1) ?_) ?_
    · refine jdb_cons (jds_expr (jde_append 3 (jde_ix (jde_ixV 0 (jde_sub (jde_var 4 (n42 4).v) (jde_int)) (by intro _ _; rfl) (n42 0).v) (jde_ixV 2 (jde_sub (jde_var 4 (n42 4).v) (jde_int)) (by intro _ _; rfl) (n42 2).v)) (n42 3).v)) ?_
      exact jdb_one (jds_setit 2 (jde_sub (jde_var 4 (n42 4).v) (jde_int)) (jde_add (jde_ixV 2 (jde_sub (jde_var 4 (n42 4).v) (jde_int)) (by intro _ _; rfl) (n42 2).v) (jde_int)) (n42 2).v)
    exact jdb_one (jds_ret (jde_var 3 (n42 3).v))
theorem sc43:FnScope ["_law_sacks", "_law_hour", "_law_total", "_law_sack"] ["_law_sacks"] (defScope t_43):=⟨rfl,rfl,rfl,by decide +kernel,rfl,by decide +kernel,by decide +kernel⟩
theorem n43:∀ i:Fin 4,LN (defScope t_43) ((["_law_sacks", "_law_hour", "_law_total", "_law_sack"]:List Str).getD i.1 ""):=by decide +kernel
theorem ok_43 {f_43:Addr} {d_43:FuncData} (F_43:Fun K "_law_cost" "_law_cost" t_43 f_43 d_43):FnOk P w K mg base CX0 1 f_43 d_43 ["_law_sacks"] (dSp K m__law_cost) :=
  jfn_D (g:=s__law_cost) (n:=4) (ar:=1) F_43 sc43 rfl rfl fun cdv A outer s H E G H0 hr=>by
    refine jdb_cons (jds_setE (i:=1) sc43.nd (by rfl) (n43 1).1 (jde_int)) ?_
    refine jdb_cons (jds_setE (i:=2) sc43.nd (by rfl) (n43 2).1 (jde_int)) ?_
    refine jdb_cons (jds_for PassesOwn.never (by rfl) (jdi_seq (jde_var 0 (n43 0).v)) (jpg_name (i:=3) sc43.nd (by rfl) (n43 3).1) ?_) ?_
    · refine jdb_cons (jds_setE (i:=1) sc43.nd (by rfl) (n43 1).1 (jde_add (jde_var 1 (n43 1).v) (jde_ixV 3 (jde_int) (by intro _ _; rfl) (n43 3).v))) ?_
      exact jdb_one (jds_setE (i:=2) sc43.nd (by rfl) (n43 2).1 (jde_add (jde_var 2 (n43 2).v) (jde_mul (jde_ixV 3 (jde_int) (by intro _ _; rfl) (n43 3).v) (jde_var 1 (n43 1).v))))
    exact jdb_one (jds_ret (jde_var 2 (n43 2).v))
theorem sc44:FnScope ["_law_found", "_law_stacks_here", "_law_taken_here", "_law_at_here", "_law_k"] ["_law_found", "_law_stacks_here"] (defScope t_44):=⟨rfl,rfl,rfl,by decide +kernel,rfl,by decide +kernel,by decide +kernel⟩
theorem n44:∀ i:Fin 5,LN (defScope t_44) ((["_law_found", "_law_stacks_here", "_law_taken_here", "_law_at_here", "_law_k"]:List Str).getD i.1 ""):=by decide +kernel
theorem g44:∀ i:Fin 5,GN (defScope t_44) ((["_law_whole", "isinstance", "len", "list", "range"]:List Str).getD i.1 ""):=by decide +kernel
theorem ok_44 {f_44:Addr} {d_44:FuncData} (F_44:Fun K "_law_is_order" "_law_is_order" t_44 f_44 d_44) {f_37:Addr} {d_37:FuncData} (mg_37:mg "_law_whole" = some (.ref f_37)) (kp_37:PySem.W.keepIn K (.ref f_37)=true) (bd_37:Binds K d_37 ["_law_found"] []) (bn_isinstance:mg "isinstance" = none) (bn_len:mg "len" = none) (bn_list:mg "list" = none) (bn_range:mg "range" = none) (G_37:FnOk P w K mg base CX0 1 f_37 d_37 ["_law_found"] (dSp K m__law_whole)):FnOk P w K mg base CX0 2 f_44 d_44 ["_law_found", "_law_stacks_here"] (dSp K m__law_is_order) :=
  jfn_D (g:=s__law_is_order) (n:=5) (ar:=2) F_44 sc44 rfl rfl fun cdv A outer s H E G H0 hr=>by
    refine jdb_cons (jds_if (jdt_not (jdt_val (jde_isi (T:="list") (g44 1).1 bn_isinstance (g44 3).1 bn_list bt_list ik_list (jde_var 0 (n44 0).v) nd_list nn_list))) ?_ ?_) ?_
    · exact jdb_one (jds_ret (jde_bl))
    · exact jdb_nil
    refine jdb_cons (jds_own (i:=2) (jps_compD (show CompOk _ "_law_stack" [] [] _ from compOk (by rfl) (by decide +kernel) trivial) (by rfl) sc44.nd (by rfl) (n44 2).1 (jdi_seq (jde_var 1 (n44 1).v)) (fun _ _ _ _ _ _ _=>jde_int) (by rfl))) ?_
    refine jdb_cons (jds_for PassesOwn.never (by rfl) (jdi_seq (jde_var 0 (n44 0).v)) (jpg_name (i:=3) sc44.nd (by rfl) (n44 3).1) ?_) ?_
    · refine jdb_cons (jds_if (jdt_w (jdw_or (jdt_not (jdt_val (jde_call G_37 (hr.mono (by decide)) (g44 0).1 mg_37 kp_37 bd_37 pass0 (jda_cons (jde_var 3 (n44 3).v) (jda_nil)) (g44 0).2))) (jdw_or (jdt_lt (jde_var 3 (n44 3).v) (jde_int)) (jdw_or1 (jdt_gt (jde_var 3 (n44 3).v) (jde_lenV 1 (g44 2).1 bn_len (n44 1).v)))))) ?_ ?_) ?_
      · exact jdb_one (jds_ret (jde_bl))
      · exact jdb_nil
      exact jdb_one (jds_setit 2 (jde_sub (jde_var 3 (n44 3).v) (jde_int)) (jde_add (jde_ixV 2 (jde_sub (jde_var 3 (n44 3).v) (jde_int)) (by intro _ _; rfl) (n44 2).v) (jde_int)) (n44 2).v)
    refine jdb_cons (jds_for PassesOwn.never (by rfl) (jdi_range1 (g44 4).1 bn_range (jda_cons (jde_lenV 1 (g44 2).1 bn_len (n44 1).v) (jda_nil))) (jpg_name (i:=4) sc44.nd (by rfl) (n44 4).1) ?_) ?_
    · refine jdb_one (jds_if (jdt_ne (jde_ixV 2 (jde_var 4 (n44 4).v) (by intro _ _; rfl) (n44 2).v) (jde_len (g44 2).1 bn_len (jda_cons (jde_ixV 1 (jde_var 4 (n44 4).v) (by intro _ _; rfl) (n44 1).v) (jda_nil)))) ?_ ?_)
      · exact jdb_one (jds_ret (jde_bl))
      · exact jdb_nil
    exact jdb_one (jds_ret (jde_bl))
theorem sc45:FnScope ["_law_found", "_law_due", "_law_k"] ["_law_found", "_law_due"] (defScope t_45):=⟨rfl,rfl,rfl,by decide +kernel,rfl,by decide +kernel,by decide +kernel⟩
theorem n45:∀ i:Fin 3,LN (defScope t_45) ((["_law_found", "_law_due", "_law_k"]:List Str).getD i.1 ""):=by decide +kernel
theorem g45:∀ i:Fin 6,GN (defScope t_45) ((["_law_whole", "isinstance", "len", "range", "str", "tuple"]:List Str).getD i.1 ""):=by decide +kernel
theorem ok_45 {f_45:Addr} {d_45:FuncData} (F_45:Fun K "_law_same_row" "_law_same_row" t_45 f_45 d_45) {f_37:Addr} {d_37:FuncData} (mg_37:mg "_law_whole" = some (.ref f_37)) (kp_37:PySem.W.keepIn K (.ref f_37)=true) (bd_37:Binds K d_37 ["_law_found"] []) (bn_isinstance:mg "isinstance" = none) (bn_len:mg "len" = none) (bn_range:mg "range" = none) (bn_str:mg "str" = none) (bn_tuple:mg "tuple" = none) (G_37:FnOk P w K mg base CX0 1 f_37 d_37 ["_law_found"] (dSp K m__law_whole)):FnOk P w K mg base CX0 2 f_45 d_45 ["_law_found", "_law_due"] (dSp K m__law_same_row) :=
  jfn_D (g:=s__law_same_row) (n:=3) (ar:=2) F_45 sc45 rfl rfl fun cdv A outer s H E G H0 hr=>by
    refine jdb_cons (jds_if (jdt_w (jdw_or (jdt_not (jdt_val (jde_isi (T:="tuple") (g45 1).1 bn_isinstance (g45 5).1 bn_tuple bt_tuple ik_tuple (jde_var 0 (n45 0).v) nd_tuple nn_tuple))) (jdw_or1 (jdt_ne (jde_lenV 0 (g45 2).1 bn_len (n45 0).v) (jde_lenV 1 (g45 2).1 bn_len (n45 1).v))))) ?_ ?_) ?_
    · exact jdb_one (jds_ret (jde_bl))
    · exact jdb_nil
    refine jdb_cons (jds_for PassesOwn.never (by rfl) (jdi_range1 (g45 3).1 bn_range (jda_cons (jde_lenV 1 (g45 2).1 bn_len (n45 1).v) (jda_nil))) (jpg_name (i:=2) sc45.nd (by rfl) (n45 2).1) ?_) ?_
    · refine jdb_cons (jds_if (jdt_w (jdw_and (jdt_val (jde_isi (T:="str") (g45 1).1 bn_isinstance (g45 4).1 bn_str bt_str ik_str (jde_ixV 1 (jde_var 2 (n45 2).v) (by intro _ _; rfl) (n45 1).v) nd_str nn_str)) (jdw_and1 (jdt_not (jdt_val (jde_isi (T:="str") (g45 1).1 bn_isinstance (g45 4).1 bn_str bt_str ik_str (jde_ixV 0 (jde_var 2 (n45 2).v) (by intro _ _; rfl) (n45 0).v) nd_str nn_str)))))) ?_ ?_) ?_
      · exact jdb_one (jds_ret (jde_bl))
      · exact jdb_nil
      refine jdb_cons (jds_if (jdt_w (jdw_and (jdt_not (jdt_val (jde_isi (T:="str") (g45 1).1 bn_isinstance (g45 4).1 bn_str bt_str ik_str (jde_ixV 1 (jde_var 2 (n45 2).v) (by intro _ _; rfl) (n45 1).v) nd_str nn_str))) (jdw_and1 (jdt_not (jdt_val (jde_call G_37 (hr.mono (by decide)) (g45 0).1 mg_37 kp_37 bd_37 pass0 (jda_cons (jde_ixV 0 (jde_var 2 (n45 2).v) (by intro _ _; rfl) (n45 0).v) (jda_nil)) (g45 0).2)))))) ?_ ?_) ?_
      · exact jdb_one (jds_ret (jde_bl))
      · exact jdb_nil
      refine jdb_one (jds_if (jdt_ne (jde_ixV 0 (jde_var 2 (n45 2).v) (by intro _ _; rfl) (n45 0).v) (jde_ixV 1 (jde_var 2 (n45 2).v) (by intro _ _; rfl) (n45 1).v)) ?_ ?_)
      · exact jdb_one (jds_ret (jde_bl))
      · exact jdb_nil
    exact jdb_one (jds_ret (jde_bl))
theorem sc46:FnScope ["_law_found", "_law_due", "_law_k"] ["_law_found", "_law_due"] (defScope t_46):=⟨rfl,rfl,rfl,by decide +kernel,rfl,by decide +kernel,by decide +kernel⟩
theorem n46:∀ i:Fin 3,LN (defScope t_46) ((["_law_found", "_law_due", "_law_k"]:List Str).getD i.1 ""):=by decide +kernel
theorem g46:∀ i:Fin 5,GN (defScope t_46) ((["_law_same_row", "isinstance", "len", "list", "range"]:List Str).getD i.1 ""):=by decide +kernel
theorem ok_46 {f_46:Addr} {d_46:FuncData} (F_46:Fun K "_law_same_rows" "_law_same_rows" t_46 f_46 d_46) {f_45:Addr} {d_45:FuncData} (mg_45:mg "_law_same_row" = some (.ref f_45)) (kp_45:PySem.W.keepIn K (.ref f_45)=true) (bd_45:Binds K d_45 ["_law_found", "_law_due"] []) (bn_isinstance:mg "isinstance" = none) (bn_len:mg "len" = none) (bn_list:mg "list" = none) (bn_range:mg "range" = none) (G_45:FnOk P w K mg base CX0 2 f_45 d_45 ["_law_found", "_law_due"] (dSp K m__law_same_row)):FnOk P w K mg base CX0 3 f_46 d_46 ["_law_found", "_law_due"] (dSp K m__law_same_rows) :=
  jfn_D (g:=s__law_same_rows) (n:=3) (ar:=2) F_46 sc46 rfl rfl fun cdv A outer s H E G H0 hr=>by
    refine jdb_cons (jds_if (jdt_w (jdw_or (jdt_not (jdt_val (jde_isi (T:="list") (g46 1).1 bn_isinstance (g46 3).1 bn_list bt_list ik_list (jde_var 0 (n46 0).v) nd_list nn_list))) (jdw_or1 (jdt_ne (jde_lenV 0 (g46 2).1 bn_len (n46 0).v) (jde_lenV 1 (g46 2).1 bn_len (n46 1).v))))) ?_ ?_) ?_
    · exact jdb_one (jds_ret (jde_bl))
    · exact jdb_nil
    refine jdb_cons (jds_for PassesOwn.never (by rfl) (jdi_range1 (g46 4).1 bn_range (jda_cons (jde_lenV 1 (g46 2).1 bn_len (n46 1).v) (jda_nil))) (jpg_name (i:=2) sc46.nd (by rfl) (n46 2).1) ?_) ?_
    · refine jdb_one (jds_if (jdt_not (jdt_val (jde_call G_45 (hr.mono (by decide)) (g46 0).1 mg_45 kp_45 bd_45 pass0 (jda_cons (jde_ixV 0 (jde_var 2 (n46 2).v) (by intro _ _; rfl) (n46 0).v) (jda_cons (jde_ixV 1 (jde_var 2 (n46 2).v) (by intro _ _; rfl) (n46 1).v) (jda_nil))) (g46 0).2))) ?_ ?_)
      · exact jdb_one (jds_ret (jde_bl))
      · exact jdb_nil
    exact jdb_one (jds_ret (jde_bl))
theorem sc47:FnScope ["_law_found", "_law_due", "_law_k"] ["_law_found", "_law_due"] (defScope t_47):=⟨rfl,rfl,rfl,by decide +kernel,rfl,by decide +kernel,by decide +kernel⟩
theorem n47:∀ i:Fin 3,LN (defScope t_47) ((["_law_found", "_law_due", "_law_k"]:List Str).getD i.1 ""):=by decide +kernel
theorem g47:∀ i:Fin 5,GN (defScope t_47) ((["_law_same_rows", "isinstance", "len", "list", "range"]:List Str).getD i.1 ""):=by decide +kernel
theorem ok_47 {f_47:Addr} {d_47:FuncData} (F_47:Fun K "_law_same_stacks" "_law_same_stacks" t_47 f_47 d_47) {f_46:Addr} {d_46:FuncData} (mg_46:mg "_law_same_rows" = some (.ref f_46)) (kp_46:PySem.W.keepIn K (.ref f_46)=true) (bd_46:Binds K d_46 ["_law_found", "_law_due"] []) (bn_isinstance:mg "isinstance" = none) (bn_len:mg "len" = none) (bn_list:mg "list" = none) (bn_range:mg "range" = none) (G_46:FnOk P w K mg base CX0 3 f_46 d_46 ["_law_found", "_law_due"] (dSp K m__law_same_rows)):FnOk P w K mg base CX0 4 f_47 d_47 ["_law_found", "_law_due"] (dSp K m__law_same_stacks) :=
  jfn_D (g:=s__law_same_stacks) (n:=3) (ar:=2) F_47 sc47 rfl rfl fun cdv A outer s H E G H0 hr=>by
    refine jdb_cons (jds_if (jdt_w (jdw_or (jdt_not (jdt_val (jde_isi (T:="list") (g47 1).1 bn_isinstance (g47 3).1 bn_list bt_list ik_list (jde_var 0 (n47 0).v) nd_list nn_list))) (jdw_or1 (jdt_ne (jde_lenV 0 (g47 2).1 bn_len (n47 0).v) (jde_lenV 1 (g47 2).1 bn_len (n47 1).v))))) ?_ ?_) ?_
    · exact jdb_one (jds_ret (jde_bl))
    · exact jdb_nil
    refine jdb_cons (jds_for PassesOwn.never (by rfl) (jdi_range1 (g47 4).1 bn_range (jda_cons (jde_lenV 1 (g47 2).1 bn_len (n47 1).v) (jda_nil))) (jpg_name (i:=2) sc47.nd (by rfl) (n47 2).1) ?_) ?_
    · refine jdb_one (jds_if (jdt_not (jdt_val (jde_call G_46 (hr.mono (by decide)) (g47 0).1 mg_46 kp_46 bd_46 pass0 (jda_cons (jde_ixV 0 (jde_var 2 (n47 2).v) (by intro _ _; rfl) (n47 0).v) (jda_cons (jde_ixV 1 (jde_var 2 (n47 2).v) (by intro _ _; rfl) (n47 1).v) (jda_nil))) (g47 0).2))) ?_ ?_)
      · exact jdb_one (jds_ret (jde_bl))
      · exact jdb_nil
    exact jdb_one (jds_ret (jde_bl))
theorem sc48:FnScope ["_law_stacks_here"] ["_law_stacks_here"] (defScope t_48):=⟨rfl,rfl,rfl,by decide +kernel,rfl,by decide +kernel,by decide +kernel⟩
theorem n48:∀ i:Fin 1,LN (defScope t_48) ((["_law_stacks_here"]:List Str).getD i.1 ""):=by decide +kernel
theorem ok_48 {f_48:Addr} {d_48:FuncData} (F_48:Fun K "_law_copy" "_law_copy" t_48 f_48 d_48) (bn_list:mg "list" = none):FnOk P w K mg base CX0 1 f_48 d_48 ["_law_stacks_here"] (fSp K m__law_copy) :=
  jfn_F (g:=s__law_copy) (n:=1) (ar:=1) F_48 sc48 rfl rfl fun cdv A outer s H E G H0 hr=>by
    exact jdb_one (jds_retF (jdf_comp (show CompOk _ "_law_stack" [] [] _ from compOk (by rfl) (by decide +kernel) trivial) (by rfl) (jdi_seq (jde_var 0 (n48 0).v)) (fun _ _ _ _ _ _ _=>jde_fr (jdf_list (gl_c (by decide +kernel)) bn_list (jda_cons (jde_var 0 ⟨(vis_cl (by decide +kernel)),(nm 2)⟩) (jda_nil))))))
theorem sc49:FnScope ["_law_script", "_law_stacks_here", "_law_handed", "_law_told", "_law_found", "_law_sacks", "_law_total", "_law_waits", "_law_hour", "_law_lost", "_law_due", "_law_sack", "_law_step"] ["_law_script"] (defScope t_49):=⟨rfl,rfl,rfl,by decide +kernel,rfl,by decide +kernel,by decide +kernel⟩
theorem n49:∀ i:Fin 13,LN (defScope t_49) ((["_law_script", "_law_stacks_here", "_law_handed", "_law_told", "_law_found", "_law_sacks", "_law_total", "_law_waits", "_law_hour", "_law_lost", "_law_due", "_law_sack", "_law_step"]:List Str).getD i.1 ""):=by decide +kernel
theorem g49:∀ i:Fin 12,GN (defScope t_49) ((["_law_copy", "_law_cost", "_law_draws", "_law_is_order", "_law_same_rows", "_law_same_stacks", "_law_stacks", "_law_taken", "dry_on", "range", "sum", "told_order"]:List Str).getD i.1 ""):=by decide +kernel
theorem ok_49 {f_49:Addr} {d_49:FuncData} (F_49:Fun K "law" "law" t_49 f_49 d_49) {f_48:Addr} {d_48:FuncData} (mg_48:mg "_law_copy" = some (.ref f_48)) (kp_48:PySem.W.keepIn K (.ref f_48)=true) (bd_48:Binds K d_48 ["_law_stacks_here"] []) {f_43:Addr} {d_43:FuncData} (mg_43:mg "_law_cost" = some (.ref f_43)) (kp_43:PySem.W.keepIn K (.ref f_43)=true) (bd_43:Binds K d_43 ["_law_sacks"] []) {f_39:Addr} {d_39:FuncData} (mg_39:mg "_law_draws" = some (.ref f_39)) (kp_39:PySem.W.keepIn K (.ref f_39)=true) (bd_39:Binds K d_39 ["_law_script", "_law_many"] []) {f_44:Addr} {d_44:FuncData} (mg_44:mg "_law_is_order" = some (.ref f_44)) (kp_44:PySem.W.keepIn K (.ref f_44)=true) (bd_44:Binds K d_44 ["_law_found", "_law_stacks_here"] []) {f_46:Addr} {d_46:FuncData} (mg_46:mg "_law_same_rows" = some (.ref f_46)) (kp_46:PySem.W.keepIn K (.ref f_46)=true) (bd_46:Binds K d_46 ["_law_found", "_law_due"] []) {f_47:Addr} {d_47:FuncData} (mg_47:mg "_law_same_stacks" = some (.ref f_47)) (kp_47:PySem.W.keepIn K (.ref f_47)=true) (bd_47:Binds K d_47 ["_law_found", "_law_due"] []) {f_41:Addr} {d_41:FuncData} (mg_41:mg "_law_stacks" = some (.ref f_41)) (kp_41:PySem.W.keepIn K (.ref f_41)=true) (bd_41:Binds K d_41 ["_law_draws_here", "_law_most"] []) {f_42:Addr} {d_42:FuncData} (mg_42:mg "_law_taken" = some (.ref f_42)) (kp_42:PySem.W.keepIn K (.ref f_42)=true) (bd_42:Binds K d_42 ["_law_stacks_here", "_law_order"] []) {f_35:Addr} {d_35:FuncData} (mg_35:mg "dry_on" = some (.ref f_35)) (kp_35:PySem.W.keepIn K (.ref f_35)=true) (bd_35:Binds K d_35 ["stacks"] []) {f_26:Addr} {d_26:FuncData} (mg_26:mg "told_order" = some (.ref f_26)) (kp_26:PySem.W.keepIn K (.ref f_26)=true) (bd_26:Binds K d_26 ["stacks"] []) (bn_range:mg "range" = none) (bn_sum:mg "sum" = none) (G_48:FnOk P w K mg base CX0 1 f_48 d_48 ["_law_stacks_here"] (fSp K m__law_copy)) (G_43:FnOk P w K mg base CX0 1 f_43 d_43 ["_law_sacks"] (dSp K m__law_cost)) (G_39:FnOk P w K mg base CX0 2 f_39 d_39 ["_law_script", "_law_many"] (dSp K m__law_draws)) (G_44:FnOk P w K mg base CX0 2 f_44 d_44 ["_law_found", "_law_stacks_here"] (dSp K m__law_is_order)) (G_46:FnOk P w K mg base CX0 3 f_46 d_46 ["_law_found", "_law_due"] (dSp K m__law_same_rows)) (G_47:FnOk P w K mg base CX0 4 f_47 d_47 ["_law_found", "_law_due"] (dSp K m__law_same_stacks)) (G_41:FnOk P w K mg base CX0 2 f_41 d_41 ["_law_draws_here", "_law_most"] (dSp K m__law_stacks)) (G_42:FnOk P w K mg base CX0 1 f_42 d_42 ["_law_stacks_here", "_law_order"] (dSp K m__law_taken)) (G_35:FnOk P w K mg base CX0 8 f_35 d_35 ["stacks"] (dSp K m_dry_on)) (G_26:FnOk P w K mg base CX0 6 f_26 d_26 ["stacks"] (fSp K m_told_order)):FnOk P w K mg base CX0 9 f_49 d_49 ["_law_script"] (dSp K m_law) :=
  jfn_D (g:=s_law) (n:=13) (ar:=1) F_49 sc49 rfl rfl fun cdv A outer s H E G H0 hr=>by
    refine jdb_cons (jds_setE (i:=1) sc49.nd (by rfl) (n49 1).1 (jde_call G_41 (hr.mono (by decide)) (g49 6).1 mg_41 kp_41 bd_41 pass0 (jda_cons (jde_call G_39 (hr.mono (by decide)) (g49 2).1 mg_39 kp_39 bd_39 pass0 (jda_cons (jde_var 0 (n49 0).v) (jda_cons (jde_int) (jda_nil))) (g49 2).2) (jda_cons (jde_int) (jda_nil))) (g49 6).2)) ?_
    refine jdb_cons (jds_setE (i:=2) sc49.nd (by rfl) (n49 2).1 (jde_fr (jdf_call G_48 (hr.mono (by decide)) (g49 0).1 mg_48 kp_48 bd_48 pass0 (jda_cons (jde_var 1 (n49 1).v) (jda_nil)) (g49 0).2))) ?_
    refine jdb_cons (jds_setE (i:=3) sc49.nd (by rfl) (n49 3).1 (jde_fr (jdf_call G_26 (hr.mono (by decide)) (g49 11).1 mg_26 kp_26 bd_26 pass0 (jda_cons (jde_fr (jdf_call G_48 (hr.mono (by decide)) (g49 0).1 mg_48 kp_48 bd_48 pass0 (jda_cons (jde_var 1 (n49 1).v) (jda_nil)) (g49 0).2)) (jda_nil)) (g49 11).2))) ?_
    refine jdb_cons (jds_if (jdt_not (jdt_val (jde_call G_44 (hr.mono (by decide)) (g49 3).1 mg_44 kp_44 bd_44 pass0 (jda_cons (jde_var 3 (n49 3).v) (jda_cons (jde_var 1 (n49 1).v) (jda_nil))) (g49 3).2))) ?_ ?_) ?_
    · exact jdb_one (jds_ret (jde_bl))
    · exact jdb_nil
    refine jdb_cons (jds_setE (i:=4) sc49.nd (by rfl) (n49 4).1 (jde_call G_35 (hr.mono (by decide)) (g49 8).1 mg_35 kp_35 bd_35 pass0 (jda_cons (jde_var 2 (n49 2).v) (jda_nil)) (g49 8).2)) ?_
    refine jdb_cons (jds_setE (i:=5) sc49.nd (by rfl) (n49 5).1 (jde_call G_42 (hr.mono (by decide)) (g49 7).1 mg_42 kp_42 bd_42 pass0 (jda_cons (jde_var 1 (n49 1).v) (jda_cons (jde_var 3 (n49 3).v) (jda_nil))) (g49 7).2)) ?_
    refine jdb_cons (jds_setE (i:=6) sc49.nd (by rfl) (n49 6).1 (jde_call G_43 (hr.mono (by decide)) (g49 1).1 mg_43 kp_43 bd_43 pass0 (jda_cons (jde_var 5 (n49 5).v) (jda_nil)) (g49 1).2)) ?_
    refine jdb_cons (jds_setE (i:=7) sc49.nd (by rfl) (n49 7).1 (jde_sum (by rfl) (g49 10).1 bn_sum (jda_cons (jde_fr (jdf_comp (show CompOk _ "_law_sack" [] [] _ from compOk (by rfl) (by decide +kernel) trivial) (by rfl) (jdi_seq (jde_var 5 (n49 5).v)) (fun _ _ _ _ _ _ _=>jde_ixV 0 (jde_int) (by intro _ _; rfl) ⟨(vis_cl (by decide +kernel)),(nm 1)⟩))) (jda_nil)))) ?_
    refine jdb_cons (jds_setE (i:=8) sc49.nd (by rfl) (n49 8).1 (jde_int)) ?_
    refine jdb_cons (jds_setE (i:=9) sc49.nd (by rfl) (n49 9).1 (jde_int)) ?_
    refine jdb_cons (jds_own (i:=10) (jps_set sc49.nd (by rfl) (n49 10).1 (jdf_lst (jda_nil)))) ?_
    refine jdb_cons (jds_for PassesOwn.never (by rfl) (jdi_seq (jde_var 5 (n49 5).v)) (jpg_name (i:=11) sc49.nd (by rfl) (n49 11).1) ?_) ?_
    · refine jdb_cons (jds_for PassesOwn.never (by rfl) (jdi_range1 (g49 9).1 bn_range (jda_cons (jde_ixV 11 (jde_int) (by intro _ _; rfl) (n49 11).v) (jda_nil))) (jpg_name (i:=12) sc49.nd (by rfl) (n49 12).1) ?_) ?_
      · refine jdb_cons (jds_setE (i:=8) sc49.nd (by rfl) (n49 8).1 (jde_add (jde_var 8 (n49 8).v) (jde_int))) ?_
        exact jdb_one (jds_setE (i:=9) sc49.nd (by rfl) (n49 9).1 (jde_add (jde_var 9 (n49 9).v) (jde_var 7 (n49 7).v)))
      refine jdb_cons (jds_setE (i:=7) sc49.nd (by rfl) (n49 7).1 (jde_sub (jde_var 7 (n49 7).v) (jde_ixV 11 (jde_int) (by intro _ _; rfl) (n49 11).v))) ?_
      exact jdb_one (jds_expr (jde_append 10 (jde_tup (jda_cons (jde_ixV 11 (jde_int) (by intro _ _; rfl) (n49 11).v) (jda_cons (jde_var 8 (n49 8).v) (jda_cons (jde_var 9 (n49 9).v) (jda_cons (jde_sub (jde_var 6 (n49 6).v) (jde_var 9 (n49 9).v)) (jda_nil)))))) (n49 10).v))
    exact jdb_one (jds_ret (jde_and (jde_call G_47 (hr.mono (by decide)) (g49 5).1 mg_47 kp_47 bd_47 pass0 (jda_cons (jde_var 2 (n49 2).v) (jda_cons (jde_var 1 (n49 1).v) (jda_nil))) (g49 5).2) (jde_one (jde_call G_46 (hr.mono (by decide)) (g49 4).1 mg_46 kp_46 bd_46 pass0 (jda_cons (jde_var 4 (n49 4).v) (jda_cons (jde_var 10 (n49 10).v) (jda_nil))) (g49 4).2))))
theorem ok_all {f_1:Addr} {d_1:FuncData} {f_2:Addr} {d_2:FuncData} {f_3:Addr} {d_3:FuncData} {f_4:Addr} {d_4:FuncData} {f_5:Addr} {d_5:FuncData} {f_6:Addr} {d_6:FuncData} {f_7:Addr} {d_7:FuncData} {f_8:Addr} {d_8:FuncData} {f_10:Addr} {d_10:FuncData} {f_11:Addr} {d_11:FuncData} {f_12:Addr} {d_12:FuncData} {f_13:Addr} {d_13:FuncData} {f_14:Addr} {d_14:FuncData} {f_15:Addr} {d_15:FuncData} {f_16:Addr} {d_16:FuncData} {f_23:Addr} {d_23:FuncData} {f_24:Addr} {d_24:FuncData} {f_25:Addr} {d_25:FuncData} {f_26:Addr} {d_26:FuncData} {f_27:Addr} {d_27:FuncData} {f_28:Addr} {d_28:FuncData} {f_29:Addr} {d_29:FuncData} {f_30:Addr} {d_30:FuncData} {f_32:Addr} {d_32:FuncData} {f_33:Addr} {d_33:FuncData} {f_35:Addr} {d_35:FuncData} {f_37:Addr} {d_37:FuncData} {f_38:Addr} {d_38:FuncData} {f_39:Addr} {d_39:FuncData} {f_40:Addr} {d_40:FuncData} {f_41:Addr} {d_41:FuncData} {f_42:Addr} {d_42:FuncData} {f_43:Addr} {d_43:FuncData} {f_44:Addr} {d_44:FuncData} {f_45:Addr} {d_45:FuncData} {f_46:Addr} {d_46:FuncData} {f_47:Addr} {d_47:FuncData} {f_48:Addr} {d_48:FuncData} {f_49:Addr} {d_49:FuncData} (T:Txt K mg f_1 d_1 f_2 d_2 f_3 d_3 f_4 d_4 f_5 d_5 f_6 d_6 f_7 d_7 f_8 d_8 f_10 d_10 f_11 d_11 f_12 d_12 f_13 d_13 f_14 d_14 f_15 d_15 f_16 d_16 f_23 d_23 f_24 d_24 f_25 d_25 f_26 d_26 f_27 d_27 f_28 d_28 f_29 d_29 f_30 d_30 f_32 d_32 f_33 d_33 f_35 d_35 f_37 d_37 f_38 d_38 f_39 d_39 f_40 d_40 f_41 d_41 f_42 d_42 f_43 d_43 f_44 d_44 f_45 d_45 f_46 d_46 f_47 d_47 f_48 d_48 f_49 d_49):FnOk P w K mg base CX0 9 f_49 d_49 ["_law_script"] (dSp K m_law):=by
  have G_1:FnOk P w K mg base CX0 1 f_1 d_1 ["sack"] (dSp K m_sack_number):=ok_1 T.F_1
  have G_2:FnOk P w K mg base CX0 1 f_2 d_2 ["sack"] (dSp K m_sack_hours):=ok_2 T.F_2
  have G_3:FnOk P w K mg base CX0 1 f_3 d_3 ["sack"] (dSp K m_sack_loss):=ok_3 T.F_3
  have G_4:FnOk P w K mg base CX0 1 f_4 d_4 ["stacks"] (dSp K m_sacks_in_all):=ok_4 T.F_4  T.b_len T.b_sum
  have G_5:FnOk P w K mg base CX0 2 f_5 d_5 ["stacks"] (dSp K m_loss_in_all):=ok_5 T.F_5 T.m_sack_loss T.k_3 T.n_3 T.b_sum G_3
  have G_6:FnOk P w K mg base CX0 1 f_6 d_6 ["stacks", "at"] (dSp K m_top_sack):=ok_6 T.F_6
  have G_7:FnOk P w K mg base CX0 1 f_7 d_7 ["stacks", "at", "stack"] (dSp K m_with_stack):=ok_7 T.F_7
  have G_8:FnOk P w K mg base CX0 2 f_8 d_8 ["stacks", "at"] (dSp K m_without_top):=ok_8 T.F_8 T.m_with_stack T.k_7 T.n_7  G_7
  have G_10:FnOk P w K mg base CX0 1 f_10 d_10 ["one", "other"] (dSp K m_share_gap):=ok_10 T.F_10
  have G_11:FnOk P w K mg base CX0 2 f_11 d_11 ["one", "other"] (dSp K m_share_sign):=ok_11 T.F_11 T.m_share_gap T.k_10 T.n_10  G_10
  have G_12:FnOk P w K mg base CX0 2 f_12 d_12 ["sack"] (dSp K m_single_block):=ok_12 T.F_12 T.m_sack_hours T.k_2 T.n_2 T.m_sack_loss T.k_3 T.n_3  G_2 G_3
  have G_13:FnOk P w K mg base CX0 1 f_13 d_13 ["upper", "lower"] (dSp K m_joined_block):=ok_13 T.F_13
  have G_14:FnOk P w K mg base CX0 1 f_14 d_14 ["block"] (dSp K m_block_share):=ok_14 T.F_14
  have G_15:FnOk P w K mg base CX0 3 f_15 d_15 ["upper", "lower"] (dSp K m_has_greater_share):=ok_15 T.F_15 T.m_block_share T.k_14 T.n_14 T.m_share_sign T.k_11 T.n_11  G_14 G_11
  have G_16:FnOk P w K mg base CX0 4 f_16 d_16 ["stack"] (dSp K m_stack_blocks):=ok_16 T.F_16 T.m_has_greater_share T.k_15 T.n_15 T.m_joined_block T.k_13 T.n_13 T.m_single_block T.k_12 T.n_12 T.b_len G_15 G_13 G_12
  have G_23:FnOk P w K mg base CX0 1 f_23 d_23 ["turn"] (dSp K m_turn_share):=ok_23 T.F_23
  have G_24:FnOk P w K mg base CX0 3 f_24 d_24 ["turns", "turn"] (dSp K m_place_of_turn):=ok_24 T.F_24 T.m_share_sign T.k_11 T.n_11 T.m_turn_share T.k_23 T.n_23 T.b_len G_11 G_23
  have G_25:FnOk P w K mg base CX0 5 f_25 d_25 ["stacks"] (dSp K m_block_turns):=ok_25 T.F_25 T.m_place_of_turn T.k_24 T.n_24 T.m_stack_blocks T.k_16 T.n_16 T.b_enumerate G_24 G_16
  have G_26:FnOk P w K mg base CX0 6 f_26 d_26 ["stacks"] (fSp K m_told_order):=ok_26 T.F_26 T.m_block_turns T.k_25 T.n_25  G_25
  have G_27:FnOk P w K mg base CX0 1 f_27 d_27 ["stacks", "at"] (dSp K m_check_known):=ok_27 T.F_27  T.b_len
  have G_28:FnOk P w K mg base CX0 1 f_28 d_28 ["stacks", "order"] (dSp K m_check_whole):=ok_28 T.F_28  T.b_len T.b_sum
  have G_29:FnOk P w K mg base CX0 2 f_29 d_29 ["stacks", "order"] (dSp K m_check_order):=ok_29 T.F_29 T.m_check_known T.k_27 T.n_27 T.m_check_whole T.k_28 T.n_28  G_27 G_28
  have G_30:FnOk P w K mg base CX0 3 f_30 d_30 ["stacks", "order"] (dSp K m_taken_sacks):=ok_30 T.F_30 T.m_check_order T.k_29 T.n_29  G_29
  have G_32:FnOk P w K mg base CX0 4 f_32 d_32 ["stacks", "order"] (dSp K m_order_cost):=ok_32 T.F_32 T.m_sack_hours T.k_2 T.n_2 T.m_sack_loss T.k_3 T.n_3 T.m_taken_sacks T.k_30 T.n_30  G_2 G_3 G_30
  have G_33:FnOk P w K mg base CX0 7 f_33 d_33 ["stacks"] (dSp K m_least_cost):=ok_33 T.F_33 T.m_order_cost T.k_32 T.n_32 T.m_told_order T.k_26 T.n_26  G_32 G_26
  have G_35:FnOk P w K mg base CX0 8 f_35 d_35 ["stacks"] (dSp K m_dry_on):=ok_35 T.F_35 T.m_least_cost T.k_33 T.n_33 T.m_loss_in_all T.k_5 T.n_5 T.m_sack_hours T.k_2 T.n_2 T.m_sack_number T.k_1 T.n_1 T.m_sacks_in_all T.k_4 T.n_4 T.m_told_order T.k_26 T.n_26 T.m_top_sack T.k_6 T.n_6 T.m_without_top T.k_8 T.n_8  G_33 G_5 G_2 G_1 G_4 G_26 G_6 G_8
  have G_37:FnOk P w K mg base CX0 1 f_37 d_37 ["_law_found"] (dSp K m__law_whole):=ok_37 T.F_37  T.b_bool T.b_int T.b_isinstance
  have G_38:FnOk P w K mg base CX0 1 f_38 d_38 ["_law_script", "_law_k"] (dSp K m__law_at):=ok_38 T.F_38  T.b_len
  have G_39:FnOk P w K mg base CX0 2 f_39 d_39 ["_law_script", "_law_many"] (dSp K m__law_draws):=ok_39 T.F_39 T.m__law_at T.k_38 T.n_38 T.b_len T.b_range G_38
  have G_40:FnOk P w K mg base CX0 1 f_40 d_40 ["_law_stack"] (dSp K m__law_more_below):=ok_40 T.F_40  T.b_len
  have G_41:FnOk P w K mg base CX0 2 f_41 d_41 ["_law_draws_here", "_law_most"] (dSp K m__law_stacks):=ok_41 T.F_41 T.m__law_more_below T.k_40 T.n_40 T.b_len T.b_list T.b_min T.b_range G_40
  have G_42:FnOk P w K mg base CX0 1 f_42 d_42 ["_law_stacks_here", "_law_order"] (dSp K m__law_taken):=ok_42 T.F_42
  have G_43:FnOk P w K mg base CX0 1 f_43 d_43 ["_law_sacks"] (dSp K m__law_cost):=ok_43 T.F_43
  have G_44:FnOk P w K mg base CX0 2 f_44 d_44 ["_law_found", "_law_stacks_here"] (dSp K m__law_is_order):=ok_44 T.F_44 T.m__law_whole T.k_37 T.n_37 T.b_isinstance T.b_len T.b_list T.b_range G_37
  have G_45:FnOk P w K mg base CX0 2 f_45 d_45 ["_law_found", "_law_due"] (dSp K m__law_same_row):=ok_45 T.F_45 T.m__law_whole T.k_37 T.n_37 T.b_isinstance T.b_len T.b_range T.b_str T.b_tuple G_37
  have G_46:FnOk P w K mg base CX0 3 f_46 d_46 ["_law_found", "_law_due"] (dSp K m__law_same_rows):=ok_46 T.F_46 T.m__law_same_row T.k_45 T.n_45 T.b_isinstance T.b_len T.b_list T.b_range G_45
  have G_47:FnOk P w K mg base CX0 4 f_47 d_47 ["_law_found", "_law_due"] (dSp K m__law_same_stacks):=ok_47 T.F_47 T.m__law_same_rows T.k_46 T.n_46 T.b_isinstance T.b_len T.b_list T.b_range G_46
  have G_48:FnOk P w K mg base CX0 1 f_48 d_48 ["_law_stacks_here"] (fSp K m__law_copy):=ok_48 T.F_48  T.b_list
  have G_49:FnOk P w K mg base CX0 9 f_49 d_49 ["_law_script"] (dSp K m_law):=ok_49 T.F_49 T.m__law_copy T.k_48 T.n_48 T.m__law_cost T.k_43 T.n_43 T.m__law_draws T.k_39 T.n_39 T.m__law_is_order T.k_44 T.n_44 T.m__law_same_rows T.k_46 T.n_46 T.m__law_same_stacks T.k_47 T.n_47 T.m__law_stacks T.k_41 T.n_41 T.m__law_taken T.k_42 T.n_42 T.m_dry_on T.k_35 T.n_35 T.m_told_order T.k_26 T.n_26 T.b_range T.b_sum G_48 G_43 G_39 G_44 G_46 G_47 G_41 G_42 G_35 G_26
  exact G_49
end
theorem all_mk {l:PySem.W.OpenLaw} {w:World} {K:PySem.W.Frag} {h:Heap} {mg:Str→Option Value} {fa:Addr} (X:K.In h) (G:h.Ns mainGlobals mg) (hfa:mg "law" = some (.ref fa))
    {f_1:Addr} {oc_1 kV_1 dc_1 pm_1 cd_1 ct_1:Value} {od_1 an_1:Option Addr} {sl_1:Array (Option Value)}
    {f_2:Addr} {oc_2 kV_2 dc_2 pm_2 cd_2 ct_2:Value} {od_2 an_2:Option Addr} {sl_2:Array (Option Value)}
    {f_3:Addr} {oc_3 kV_3 dc_3 pm_3 cd_3 ct_3:Value} {od_3 an_3:Option Addr} {sl_3:Array (Option Value)}
    {f_4:Addr} {oc_4 kV_4 dc_4 pm_4 cd_4 ct_4:Value} {od_4 an_4:Option Addr} {sl_4:Array (Option Value)}
    {f_5:Addr} {oc_5 kV_5 dc_5 pm_5 cd_5 ct_5:Value} {od_5 an_5:Option Addr} {sl_5:Array (Option Value)}
    {f_6:Addr} {oc_6 kV_6 dc_6 pm_6 cd_6 ct_6:Value} {od_6 an_6:Option Addr} {sl_6:Array (Option Value)}
    {f_7:Addr} {oc_7 kV_7 dc_7 pm_7 cd_7 ct_7:Value} {od_7 an_7:Option Addr} {sl_7:Array (Option Value)}
    {f_8:Addr} {oc_8 kV_8 dc_8 pm_8 cd_8 ct_8:Value} {od_8 an_8:Option Addr} {sl_8:Array (Option Value)}
    {f_10:Addr} {oc_10 kV_10 dc_10 pm_10 cd_10 ct_10:Value} {od_10 an_10:Option Addr} {sl_10:Array (Option Value)}
    {f_11:Addr} {oc_11 kV_11 dc_11 pm_11 cd_11 ct_11:Value} {od_11 an_11:Option Addr} {sl_11:Array (Option Value)}
    {f_12:Addr} {oc_12 kV_12 dc_12 pm_12 cd_12 ct_12:Value} {od_12 an_12:Option Addr} {sl_12:Array (Option Value)}
    {f_13:Addr} {oc_13 kV_13 dc_13 pm_13 cd_13 ct_13:Value} {od_13 an_13:Option Addr} {sl_13:Array (Option Value)}
    {f_14:Addr} {oc_14 kV_14 dc_14 pm_14 cd_14 ct_14:Value} {od_14 an_14:Option Addr} {sl_14:Array (Option Value)}
    {f_15:Addr} {oc_15 kV_15 dc_15 pm_15 cd_15 ct_15:Value} {od_15 an_15:Option Addr} {sl_15:Array (Option Value)}
    {f_16:Addr} {oc_16 kV_16 dc_16 pm_16 cd_16 ct_16:Value} {od_16 an_16:Option Addr} {sl_16:Array (Option Value)}
    {f_23:Addr} {oc_23 kV_23 dc_23 pm_23 cd_23 ct_23:Value} {od_23 an_23:Option Addr} {sl_23:Array (Option Value)}
    {f_24:Addr} {oc_24 kV_24 dc_24 pm_24 cd_24 ct_24:Value} {od_24 an_24:Option Addr} {sl_24:Array (Option Value)}
    {f_25:Addr} {oc_25 kV_25 dc_25 pm_25 cd_25 ct_25:Value} {od_25 an_25:Option Addr} {sl_25:Array (Option Value)}
    {f_26:Addr} {oc_26 kV_26 dc_26 pm_26 cd_26 ct_26:Value} {od_26 an_26:Option Addr} {sl_26:Array (Option Value)}
    {f_27:Addr} {oc_27 kV_27 dc_27 pm_27 cd_27 ct_27:Value} {od_27 an_27:Option Addr} {sl_27:Array (Option Value)}
    {f_28:Addr} {oc_28 kV_28 dc_28 pm_28 cd_28 ct_28:Value} {od_28 an_28:Option Addr} {sl_28:Array (Option Value)}
    {f_29:Addr} {oc_29 kV_29 dc_29 pm_29 cd_29 ct_29:Value} {od_29 an_29:Option Addr} {sl_29:Array (Option Value)}
    {f_30:Addr} {oc_30 kV_30 dc_30 pm_30 cd_30 ct_30:Value} {od_30 an_30:Option Addr} {sl_30:Array (Option Value)}
    {f_32:Addr} {oc_32 kV_32 dc_32 pm_32 cd_32 ct_32:Value} {od_32 an_32:Option Addr} {sl_32:Array (Option Value)}
    {f_33:Addr} {oc_33 kV_33 dc_33 pm_33 cd_33 ct_33:Value} {od_33 an_33:Option Addr} {sl_33:Array (Option Value)}
    {f_35:Addr} {oc_35 kV_35 dc_35 pm_35 cd_35 ct_35:Value} {od_35 an_35:Option Addr} {sl_35:Array (Option Value)}
    {f_37:Addr} {oc_37 kV_37 dc_37 pm_37 cd_37 ct_37:Value} {od_37 an_37:Option Addr} {sl_37:Array (Option Value)}
    {f_38:Addr} {oc_38 kV_38 dc_38 pm_38 cd_38 ct_38:Value} {od_38 an_38:Option Addr} {sl_38:Array (Option Value)}
    {f_39:Addr} {oc_39 kV_39 dc_39 pm_39 cd_39 ct_39:Value} {od_39 an_39:Option Addr} {sl_39:Array (Option Value)}
    {f_40:Addr} {oc_40 kV_40 dc_40 pm_40 cd_40 ct_40:Value} {od_40 an_40:Option Addr} {sl_40:Array (Option Value)}
    {f_41:Addr} {oc_41 kV_41 dc_41 pm_41 cd_41 ct_41:Value} {od_41 an_41:Option Addr} {sl_41:Array (Option Value)}
    {f_42:Addr} {oc_42 kV_42 dc_42 pm_42 cd_42 ct_42:Value} {od_42 an_42:Option Addr} {sl_42:Array (Option Value)}
    {f_43:Addr} {oc_43 kV_43 dc_43 pm_43 cd_43 ct_43:Value} {od_43 an_43:Option Addr} {sl_43:Array (Option Value)}
    {f_44:Addr} {oc_44 kV_44 dc_44 pm_44 cd_44 ct_44:Value} {od_44 an_44:Option Addr} {sl_44:Array (Option Value)}
    {f_45:Addr} {oc_45 kV_45 dc_45 pm_45 cd_45 ct_45:Value} {od_45 an_45:Option Addr} {sl_45:Array (Option Value)}
    {f_46:Addr} {oc_46 kV_46 dc_46 pm_46 cd_46 ct_46:Value} {od_46 an_46:Option Addr} {sl_46:Array (Option Value)}
    {f_47:Addr} {oc_47 kV_47 dc_47 pm_47 cd_47 ct_47:Value} {od_47 an_47:Option Addr} {sl_47:Array (Option Value)}
    {f_48:Addr} {oc_48 kV_48 dc_48 pm_48 cd_48 ct_48:Value} {od_48 an_48:Option Addr} {sl_48:Array (Option Value)}
    {f_49:Addr} {oc_49 kV_49 dc_49 pm_49 cd_49 ct_49:Value} {od_49 an_49:Option Addr} {sl_49:Array (Option Value)}
    (a_1:PySem.W.nsIn K mainGlobals "sack_number" = some (some (.ref f_1)))
    (l_1:K.lookup f_1=some ⟨oc_1,od_1,.func (PySem.W.fnOf "sack_number" "sack_number" (defArgs t_1) (defBody t_1) (defScope t_1) .none kV_1 dc_1 pm_1 an_1 cd_1 ct_1),sl_1⟩)
    (c_1:PySem.W.codeIn K cd_1 "sack_number" = true)
    (k_1:PySem.W.keepIn K (.ref f_1)=true)
    (a_2:PySem.W.nsIn K mainGlobals "sack_hours" = some (some (.ref f_2)))
    (l_2:K.lookup f_2=some ⟨oc_2,od_2,.func (PySem.W.fnOf "sack_hours" "sack_hours" (defArgs t_2) (defBody t_2) (defScope t_2) .none kV_2 dc_2 pm_2 an_2 cd_2 ct_2),sl_2⟩)
    (c_2:PySem.W.codeIn K cd_2 "sack_hours" = true)
    (k_2:PySem.W.keepIn K (.ref f_2)=true)
    (a_3:PySem.W.nsIn K mainGlobals "sack_loss" = some (some (.ref f_3)))
    (l_3:K.lookup f_3=some ⟨oc_3,od_3,.func (PySem.W.fnOf "sack_loss" "sack_loss" (defArgs t_3) (defBody t_3) (defScope t_3) .none kV_3 dc_3 pm_3 an_3 cd_3 ct_3),sl_3⟩)
    (c_3:PySem.W.codeIn K cd_3 "sack_loss" = true)
    (k_3:PySem.W.keepIn K (.ref f_3)=true)
    (a_4:PySem.W.nsIn K mainGlobals "sacks_in_all" = some (some (.ref f_4)))
    (l_4:K.lookup f_4=some ⟨oc_4,od_4,.func (PySem.W.fnOf "sacks_in_all" "sacks_in_all" (defArgs t_4) (defBody t_4) (defScope t_4) .none kV_4 dc_4 pm_4 an_4 cd_4 ct_4),sl_4⟩)
    (c_4:PySem.W.codeIn K cd_4 "sacks_in_all" = true)
    (k_4:PySem.W.keepIn K (.ref f_4)=true)
    (a_5:PySem.W.nsIn K mainGlobals "loss_in_all" = some (some (.ref f_5)))
    (l_5:K.lookup f_5=some ⟨oc_5,od_5,.func (PySem.W.fnOf "loss_in_all" "loss_in_all" (defArgs t_5) (defBody t_5) (defScope t_5) .none kV_5 dc_5 pm_5 an_5 cd_5 ct_5),sl_5⟩)
    (c_5:PySem.W.codeIn K cd_5 "loss_in_all" = true)
    (k_5:PySem.W.keepIn K (.ref f_5)=true)
    (a_6:PySem.W.nsIn K mainGlobals "top_sack" = some (some (.ref f_6)))
    (l_6:K.lookup f_6=some ⟨oc_6,od_6,.func (PySem.W.fnOf "top_sack" "top_sack" (defArgs t_6) (defBody t_6) (defScope t_6) .none kV_6 dc_6 pm_6 an_6 cd_6 ct_6),sl_6⟩)
    (c_6:PySem.W.codeIn K cd_6 "top_sack" = true)
    (k_6:PySem.W.keepIn K (.ref f_6)=true)
    (a_7:PySem.W.nsIn K mainGlobals "with_stack" = some (some (.ref f_7)))
    (l_7:K.lookup f_7=some ⟨oc_7,od_7,.func (PySem.W.fnOf "with_stack" "with_stack" (defArgs t_7) (defBody t_7) (defScope t_7) .none kV_7 dc_7 pm_7 an_7 cd_7 ct_7),sl_7⟩)
    (c_7:PySem.W.codeIn K cd_7 "with_stack" = true)
    (k_7:PySem.W.keepIn K (.ref f_7)=true)
    (a_8:PySem.W.nsIn K mainGlobals "without_top" = some (some (.ref f_8)))
    (l_8:K.lookup f_8=some ⟨oc_8,od_8,.func (PySem.W.fnOf "without_top" "without_top" (defArgs t_8) (defBody t_8) (defScope t_8) .none kV_8 dc_8 pm_8 an_8 cd_8 ct_8),sl_8⟩)
    (c_8:PySem.W.codeIn K cd_8 "without_top" = true)
    (k_8:PySem.W.keepIn K (.ref f_8)=true)
    (a_10:PySem.W.nsIn K mainGlobals "share_gap" = some (some (.ref f_10)))
    (l_10:K.lookup f_10=some ⟨oc_10,od_10,.func (PySem.W.fnOf "share_gap" "share_gap" (defArgs t_10) (defBody t_10) (defScope t_10) .none kV_10 dc_10 pm_10 an_10 cd_10 ct_10),sl_10⟩)
    (c_10:PySem.W.codeIn K cd_10 "share_gap" = true)
    (k_10:PySem.W.keepIn K (.ref f_10)=true)
    (a_11:PySem.W.nsIn K mainGlobals "share_sign" = some (some (.ref f_11)))
    (l_11:K.lookup f_11=some ⟨oc_11,od_11,.func (PySem.W.fnOf "share_sign" "share_sign" (defArgs t_11) (defBody t_11) (defScope t_11) .none kV_11 dc_11 pm_11 an_11 cd_11 ct_11),sl_11⟩)
    (c_11:PySem.W.codeIn K cd_11 "share_sign" = true)
    (k_11:PySem.W.keepIn K (.ref f_11)=true)
    (a_12:PySem.W.nsIn K mainGlobals "single_block" = some (some (.ref f_12)))
    (l_12:K.lookup f_12=some ⟨oc_12,od_12,.func (PySem.W.fnOf "single_block" "single_block" (defArgs t_12) (defBody t_12) (defScope t_12) .none kV_12 dc_12 pm_12 an_12 cd_12 ct_12),sl_12⟩)
    (c_12:PySem.W.codeIn K cd_12 "single_block" = true)
    (k_12:PySem.W.keepIn K (.ref f_12)=true)
    (a_13:PySem.W.nsIn K mainGlobals "joined_block" = some (some (.ref f_13)))
    (l_13:K.lookup f_13=some ⟨oc_13,od_13,.func (PySem.W.fnOf "joined_block" "joined_block" (defArgs t_13) (defBody t_13) (defScope t_13) .none kV_13 dc_13 pm_13 an_13 cd_13 ct_13),sl_13⟩)
    (c_13:PySem.W.codeIn K cd_13 "joined_block" = true)
    (k_13:PySem.W.keepIn K (.ref f_13)=true)
    (a_14:PySem.W.nsIn K mainGlobals "block_share" = some (some (.ref f_14)))
    (l_14:K.lookup f_14=some ⟨oc_14,od_14,.func (PySem.W.fnOf "block_share" "block_share" (defArgs t_14) (defBody t_14) (defScope t_14) .none kV_14 dc_14 pm_14 an_14 cd_14 ct_14),sl_14⟩)
    (c_14:PySem.W.codeIn K cd_14 "block_share" = true)
    (k_14:PySem.W.keepIn K (.ref f_14)=true)
    (a_15:PySem.W.nsIn K mainGlobals "has_greater_share" = some (some (.ref f_15)))
    (l_15:K.lookup f_15=some ⟨oc_15,od_15,.func (PySem.W.fnOf "has_greater_share" "has_greater_share" (defArgs t_15) (defBody t_15) (defScope t_15) .none kV_15 dc_15 pm_15 an_15 cd_15 ct_15),sl_15⟩)
    (c_15:PySem.W.codeIn K cd_15 "has_greater_share" = true)
    (k_15:PySem.W.keepIn K (.ref f_15)=true)
    (a_16:PySem.W.nsIn K mainGlobals "stack_blocks" = some (some (.ref f_16)))
    (l_16:K.lookup f_16=some ⟨oc_16,od_16,.func (PySem.W.fnOf "stack_blocks" "stack_blocks" (defArgs t_16) (defBody t_16) (defScope t_16) .none kV_16 dc_16 pm_16 an_16 cd_16 ct_16),sl_16⟩)
    (c_16:PySem.W.codeIn K cd_16 "stack_blocks" = true)
    (k_16:PySem.W.keepIn K (.ref f_16)=true)
    (a_23:PySem.W.nsIn K mainGlobals "turn_share" = some (some (.ref f_23)))
    (l_23:K.lookup f_23=some ⟨oc_23,od_23,.func (PySem.W.fnOf "turn_share" "turn_share" (defArgs t_23) (defBody t_23) (defScope t_23) .none kV_23 dc_23 pm_23 an_23 cd_23 ct_23),sl_23⟩)
    (c_23:PySem.W.codeIn K cd_23 "turn_share" = true)
    (k_23:PySem.W.keepIn K (.ref f_23)=true)
    (a_24:PySem.W.nsIn K mainGlobals "place_of_turn" = some (some (.ref f_24)))
    (l_24:K.lookup f_24=some ⟨oc_24,od_24,.func (PySem.W.fnOf "place_of_turn" "place_of_turn" (defArgs t_24) (defBody t_24) (defScope t_24) .none kV_24 dc_24 pm_24 an_24 cd_24 ct_24),sl_24⟩)
    (c_24:PySem.W.codeIn K cd_24 "place_of_turn" = true)
    (k_24:PySem.W.keepIn K (.ref f_24)=true)
    (a_25:PySem.W.nsIn K mainGlobals "block_turns" = some (some (.ref f_25)))
    (l_25:K.lookup f_25=some ⟨oc_25,od_25,.func (PySem.W.fnOf "block_turns" "block_turns" (defArgs t_25) (defBody t_25) (defScope t_25) .none kV_25 dc_25 pm_25 an_25 cd_25 ct_25),sl_25⟩)
    (c_25:PySem.W.codeIn K cd_25 "block_turns" = true)
    (k_25:PySem.W.keepIn K (.ref f_25)=true)
    (a_26:PySem.W.nsIn K mainGlobals "told_order" = some (some (.ref f_26)))
    (l_26:K.lookup f_26=some ⟨oc_26,od_26,.func (PySem.W.fnOf "told_order" "told_order" (defArgs t_26) (defBody t_26) (defScope t_26) .none kV_26 dc_26 pm_26 an_26 cd_26 ct_26),sl_26⟩)
    (c_26:PySem.W.codeIn K cd_26 "told_order" = true)
    (k_26:PySem.W.keepIn K (.ref f_26)=true)
    (a_27:PySem.W.nsIn K mainGlobals "check_known" = some (some (.ref f_27)))
    (l_27:K.lookup f_27=some ⟨oc_27,od_27,.func (PySem.W.fnOf "check_known" "check_known" (defArgs t_27) (defBody t_27) (defScope t_27) .none kV_27 dc_27 pm_27 an_27 cd_27 ct_27),sl_27⟩)
    (c_27:PySem.W.codeIn K cd_27 "check_known" = true)
    (k_27:PySem.W.keepIn K (.ref f_27)=true)
    (a_28:PySem.W.nsIn K mainGlobals "check_whole" = some (some (.ref f_28)))
    (l_28:K.lookup f_28=some ⟨oc_28,od_28,.func (PySem.W.fnOf "check_whole" "check_whole" (defArgs t_28) (defBody t_28) (defScope t_28) .none kV_28 dc_28 pm_28 an_28 cd_28 ct_28),sl_28⟩)
    (c_28:PySem.W.codeIn K cd_28 "check_whole" = true)
    (k_28:PySem.W.keepIn K (.ref f_28)=true)
    (a_29:PySem.W.nsIn K mainGlobals "check_order" = some (some (.ref f_29)))
    (l_29:K.lookup f_29=some ⟨oc_29,od_29,.func (PySem.W.fnOf "check_order" "check_order" (defArgs t_29) (defBody t_29) (defScope t_29) .none kV_29 dc_29 pm_29 an_29 cd_29 ct_29),sl_29⟩)
    (c_29:PySem.W.codeIn K cd_29 "check_order" = true)
    (k_29:PySem.W.keepIn K (.ref f_29)=true)
    (a_30:PySem.W.nsIn K mainGlobals "taken_sacks" = some (some (.ref f_30)))
    (l_30:K.lookup f_30=some ⟨oc_30,od_30,.func (PySem.W.fnOf "taken_sacks" "taken_sacks" (defArgs t_30) (defBody t_30) (defScope t_30) .none kV_30 dc_30 pm_30 an_30 cd_30 ct_30),sl_30⟩)
    (c_30:PySem.W.codeIn K cd_30 "taken_sacks" = true)
    (k_30:PySem.W.keepIn K (.ref f_30)=true)
    (a_32:PySem.W.nsIn K mainGlobals "order_cost" = some (some (.ref f_32)))
    (l_32:K.lookup f_32=some ⟨oc_32,od_32,.func (PySem.W.fnOf "order_cost" "order_cost" (defArgs t_32) (defBody t_32) (defScope t_32) .none kV_32 dc_32 pm_32 an_32 cd_32 ct_32),sl_32⟩)
    (c_32:PySem.W.codeIn K cd_32 "order_cost" = true)
    (k_32:PySem.W.keepIn K (.ref f_32)=true)
    (a_33:PySem.W.nsIn K mainGlobals "least_cost" = some (some (.ref f_33)))
    (l_33:K.lookup f_33=some ⟨oc_33,od_33,.func (PySem.W.fnOf "least_cost" "least_cost" (defArgs t_33) (defBody t_33) (defScope t_33) .none kV_33 dc_33 pm_33 an_33 cd_33 ct_33),sl_33⟩)
    (c_33:PySem.W.codeIn K cd_33 "least_cost" = true)
    (k_33:PySem.W.keepIn K (.ref f_33)=true)
    (a_35:PySem.W.nsIn K mainGlobals "dry_on" = some (some (.ref f_35)))
    (l_35:K.lookup f_35=some ⟨oc_35,od_35,.func (PySem.W.fnOf "dry_on" "dry_on" (defArgs t_35) (defBody t_35) (defScope t_35) .none kV_35 dc_35 pm_35 an_35 cd_35 ct_35),sl_35⟩)
    (c_35:PySem.W.codeIn K cd_35 "dry_on" = true)
    (k_35:PySem.W.keepIn K (.ref f_35)=true)
    (a_37:PySem.W.nsIn K mainGlobals "_law_whole" = some (some (.ref f_37)))
    (l_37:K.lookup f_37=some ⟨oc_37,od_37,.func (PySem.W.fnOf "_law_whole" "_law_whole" (defArgs t_37) (defBody t_37) (defScope t_37) .none kV_37 dc_37 pm_37 an_37 cd_37 ct_37),sl_37⟩)
    (c_37:PySem.W.codeIn K cd_37 "_law_whole" = true)
    (k_37:PySem.W.keepIn K (.ref f_37)=true)
    (a_38:PySem.W.nsIn K mainGlobals "_law_at" = some (some (.ref f_38)))
    (l_38:K.lookup f_38=some ⟨oc_38,od_38,.func (PySem.W.fnOf "_law_at" "_law_at" (defArgs t_38) (defBody t_38) (defScope t_38) .none kV_38 dc_38 pm_38 an_38 cd_38 ct_38),sl_38⟩)
    (c_38:PySem.W.codeIn K cd_38 "_law_at" = true)
    (k_38:PySem.W.keepIn K (.ref f_38)=true)
    (a_39:PySem.W.nsIn K mainGlobals "_law_draws" = some (some (.ref f_39)))
    (l_39:K.lookup f_39=some ⟨oc_39,od_39,.func (PySem.W.fnOf "_law_draws" "_law_draws" (defArgs t_39) (defBody t_39) (defScope t_39) .none kV_39 dc_39 pm_39 an_39 cd_39 ct_39),sl_39⟩)
    (c_39:PySem.W.codeIn K cd_39 "_law_draws" = true)
    (k_39:PySem.W.keepIn K (.ref f_39)=true)
    (a_40:PySem.W.nsIn K mainGlobals "_law_more_below" = some (some (.ref f_40)))
    (l_40:K.lookup f_40=some ⟨oc_40,od_40,.func (PySem.W.fnOf "_law_more_below" "_law_more_below" (defArgs t_40) (defBody t_40) (defScope t_40) .none kV_40 dc_40 pm_40 an_40 cd_40 ct_40),sl_40⟩)
    (c_40:PySem.W.codeIn K cd_40 "_law_more_below" = true)
    (k_40:PySem.W.keepIn K (.ref f_40)=true)
    (a_41:PySem.W.nsIn K mainGlobals "_law_stacks" = some (some (.ref f_41)))
    (l_41:K.lookup f_41=some ⟨oc_41,od_41,.func (PySem.W.fnOf "_law_stacks" "_law_stacks" (defArgs t_41) (defBody t_41) (defScope t_41) .none kV_41 dc_41 pm_41 an_41 cd_41 ct_41),sl_41⟩)
    (c_41:PySem.W.codeIn K cd_41 "_law_stacks" = true)
    (k_41:PySem.W.keepIn K (.ref f_41)=true)
    (a_42:PySem.W.nsIn K mainGlobals "_law_taken" = some (some (.ref f_42)))
    (l_42:K.lookup f_42=some ⟨oc_42,od_42,.func (PySem.W.fnOf "_law_taken" "_law_taken" (defArgs t_42) (defBody t_42) (defScope t_42) .none kV_42 dc_42 pm_42 an_42 cd_42 ct_42),sl_42⟩)
    (c_42:PySem.W.codeIn K cd_42 "_law_taken" = true)
    (k_42:PySem.W.keepIn K (.ref f_42)=true)
    (a_43:PySem.W.nsIn K mainGlobals "_law_cost" = some (some (.ref f_43)))
    (l_43:K.lookup f_43=some ⟨oc_43,od_43,.func (PySem.W.fnOf "_law_cost" "_law_cost" (defArgs t_43) (defBody t_43) (defScope t_43) .none kV_43 dc_43 pm_43 an_43 cd_43 ct_43),sl_43⟩)
    (c_43:PySem.W.codeIn K cd_43 "_law_cost" = true)
    (k_43:PySem.W.keepIn K (.ref f_43)=true)
    (a_44:PySem.W.nsIn K mainGlobals "_law_is_order" = some (some (.ref f_44)))
    (l_44:K.lookup f_44=some ⟨oc_44,od_44,.func (PySem.W.fnOf "_law_is_order" "_law_is_order" (defArgs t_44) (defBody t_44) (defScope t_44) .none kV_44 dc_44 pm_44 an_44 cd_44 ct_44),sl_44⟩)
    (c_44:PySem.W.codeIn K cd_44 "_law_is_order" = true)
    (k_44:PySem.W.keepIn K (.ref f_44)=true)
    (a_45:PySem.W.nsIn K mainGlobals "_law_same_row" = some (some (.ref f_45)))
    (l_45:K.lookup f_45=some ⟨oc_45,od_45,.func (PySem.W.fnOf "_law_same_row" "_law_same_row" (defArgs t_45) (defBody t_45) (defScope t_45) .none kV_45 dc_45 pm_45 an_45 cd_45 ct_45),sl_45⟩)
    (c_45:PySem.W.codeIn K cd_45 "_law_same_row" = true)
    (k_45:PySem.W.keepIn K (.ref f_45)=true)
    (a_46:PySem.W.nsIn K mainGlobals "_law_same_rows" = some (some (.ref f_46)))
    (l_46:K.lookup f_46=some ⟨oc_46,od_46,.func (PySem.W.fnOf "_law_same_rows" "_law_same_rows" (defArgs t_46) (defBody t_46) (defScope t_46) .none kV_46 dc_46 pm_46 an_46 cd_46 ct_46),sl_46⟩)
    (c_46:PySem.W.codeIn K cd_46 "_law_same_rows" = true)
    (k_46:PySem.W.keepIn K (.ref f_46)=true)
    (a_47:PySem.W.nsIn K mainGlobals "_law_same_stacks" = some (some (.ref f_47)))
    (l_47:K.lookup f_47=some ⟨oc_47,od_47,.func (PySem.W.fnOf "_law_same_stacks" "_law_same_stacks" (defArgs t_47) (defBody t_47) (defScope t_47) .none kV_47 dc_47 pm_47 an_47 cd_47 ct_47),sl_47⟩)
    (c_47:PySem.W.codeIn K cd_47 "_law_same_stacks" = true)
    (k_47:PySem.W.keepIn K (.ref f_47)=true)
    (a_48:PySem.W.nsIn K mainGlobals "_law_copy" = some (some (.ref f_48)))
    (l_48:K.lookup f_48=some ⟨oc_48,od_48,.func (PySem.W.fnOf "_law_copy" "_law_copy" (defArgs t_48) (defBody t_48) (defScope t_48) .none kV_48 dc_48 pm_48 an_48 cd_48 ct_48),sl_48⟩)
    (c_48:PySem.W.codeIn K cd_48 "_law_copy" = true)
    (k_48:PySem.W.keepIn K (.ref f_48)=true)
    (a_49:PySem.W.nsIn K mainGlobals "law" = some (some (.ref f_49)))
    (l_49:K.lookup f_49=some ⟨oc_49,od_49,.func (PySem.W.fnOf "law" "law" (defArgs t_49) (defBody t_49) (defScope t_49) .none kV_49 dc_49 pm_49 an_49 cd_49 ct_49),sl_49⟩)
    (c_49:PySem.W.codeIn K cd_49 "law" = true)
    (k_49:PySem.W.keepIn K (.ref f_49)=true)
    (z_bool:PySem.W.nsIn K mainGlobals "bool" = some none)
    (z_enumerate:PySem.W.nsIn K mainGlobals "enumerate" = some none)
    (z_int:PySem.W.nsIn K mainGlobals "int" = some none)
    (z_isinstance:PySem.W.nsIn K mainGlobals "isinstance" = some none)
    (z_len:PySem.W.nsIn K mainGlobals "len" = some none)
    (z_list:PySem.W.nsIn K mainGlobals "list" = some none)
    (z_min:PySem.W.nsIn K mainGlobals "min" = some none)
    (z_range:PySem.W.nsIn K mainGlobals "range" = some none)
    (z_str:PySem.W.nsIn K mainGlobals "str" = some none)
    (z_sum:PySem.W.nsIn K mainGlobals "sum" = some none)
    (z_tuple:PySem.W.nsIn K mainGlobals "tuple" = some none)
    (good:∀ ns:List Int,ns.length≤63→m_law [.lst (ns.map D.int)]=some (.bl true)) :
    ∃ fd:FuncData,(∀ (s:Shared) (v:Value),BindsTo s fd ⟨[v],[]⟩ [("_law_script",v)])∧∀ base:Heap,K.In base→base.Ns mainGlobals mg→FnOk l.prog w K mg base CX0 9 fa fd ["_law_script"] (spTrue K):=by
  have e:=hfa.symm.trans (PySem.W.mg_of X G a_49)
  cases e
  have F_1:=fun_mk (st:=t_1) l_1 c_1 k_1
  have n_1:=F_1.binds (ps:=["sack"]) fun _ _ _ _ _ _ us hl=>match us,hl with | [_],_=>rfl
  have F_2:=fun_mk (st:=t_2) l_2 c_2 k_2
  have n_2:=F_2.binds (ps:=["sack"]) fun _ _ _ _ _ _ us hl=>match us,hl with | [_],_=>rfl
  have F_3:=fun_mk (st:=t_3) l_3 c_3 k_3
  have n_3:=F_3.binds (ps:=["sack"]) fun _ _ _ _ _ _ us hl=>match us,hl with | [_],_=>rfl
  have F_4:=fun_mk (st:=t_4) l_4 c_4 k_4
  have n_4:=F_4.binds (ps:=["stacks"]) fun _ _ _ _ _ _ us hl=>match us,hl with | [_],_=>rfl
  have F_5:=fun_mk (st:=t_5) l_5 c_5 k_5
  have n_5:=F_5.binds (ps:=["stacks"]) fun _ _ _ _ _ _ us hl=>match us,hl with | [_],_=>rfl
  have F_6:=fun_mk (st:=t_6) l_6 c_6 k_6
  have n_6:=F_6.binds (ps:=["stacks", "at"]) fun _ _ _ _ _ _ us hl=>match us,hl with | [_,_],_=>rfl
  have F_7:=fun_mk (st:=t_7) l_7 c_7 k_7
  have n_7:=F_7.binds (ps:=["stacks", "at", "stack"]) fun _ _ _ _ _ _ us hl=>match us,hl with | [_,_,_],_=>rfl
  have F_8:=fun_mk (st:=t_8) l_8 c_8 k_8
  have n_8:=F_8.binds (ps:=["stacks", "at"]) fun _ _ _ _ _ _ us hl=>match us,hl with | [_,_],_=>rfl
  have F_10:=fun_mk (st:=t_10) l_10 c_10 k_10
  have n_10:=F_10.binds (ps:=["one", "other"]) fun _ _ _ _ _ _ us hl=>match us,hl with | [_,_],_=>rfl
  have F_11:=fun_mk (st:=t_11) l_11 c_11 k_11
  have n_11:=F_11.binds (ps:=["one", "other"]) fun _ _ _ _ _ _ us hl=>match us,hl with | [_,_],_=>rfl
  have F_12:=fun_mk (st:=t_12) l_12 c_12 k_12
  have n_12:=F_12.binds (ps:=["sack"]) fun _ _ _ _ _ _ us hl=>match us,hl with | [_],_=>rfl
  have F_13:=fun_mk (st:=t_13) l_13 c_13 k_13
  have n_13:=F_13.binds (ps:=["upper", "lower"]) fun _ _ _ _ _ _ us hl=>match us,hl with | [_,_],_=>rfl
  have F_14:=fun_mk (st:=t_14) l_14 c_14 k_14
  have n_14:=F_14.binds (ps:=["block"]) fun _ _ _ _ _ _ us hl=>match us,hl with | [_],_=>rfl
  have F_15:=fun_mk (st:=t_15) l_15 c_15 k_15
  have n_15:=F_15.binds (ps:=["upper", "lower"]) fun _ _ _ _ _ _ us hl=>match us,hl with | [_,_],_=>rfl
  have F_16:=fun_mk (st:=t_16) l_16 c_16 k_16
  have n_16:=F_16.binds (ps:=["stack"]) fun _ _ _ _ _ _ us hl=>match us,hl with | [_],_=>rfl
  have F_23:=fun_mk (st:=t_23) l_23 c_23 k_23
  have n_23:=F_23.binds (ps:=["turn"]) fun _ _ _ _ _ _ us hl=>match us,hl with | [_],_=>rfl
  have F_24:=fun_mk (st:=t_24) l_24 c_24 k_24
  have n_24:=F_24.binds (ps:=["turns", "turn"]) fun _ _ _ _ _ _ us hl=>match us,hl with | [_,_],_=>rfl
  have F_25:=fun_mk (st:=t_25) l_25 c_25 k_25
  have n_25:=F_25.binds (ps:=["stacks"]) fun _ _ _ _ _ _ us hl=>match us,hl with | [_],_=>rfl
  have F_26:=fun_mk (st:=t_26) l_26 c_26 k_26
  have n_26:=F_26.binds (ps:=["stacks"]) fun _ _ _ _ _ _ us hl=>match us,hl with | [_],_=>rfl
  have F_27:=fun_mk (st:=t_27) l_27 c_27 k_27
  have n_27:=F_27.binds (ps:=["stacks", "at"]) fun _ _ _ _ _ _ us hl=>match us,hl with | [_,_],_=>rfl
  have F_28:=fun_mk (st:=t_28) l_28 c_28 k_28
  have n_28:=F_28.binds (ps:=["stacks", "order"]) fun _ _ _ _ _ _ us hl=>match us,hl with | [_,_],_=>rfl
  have F_29:=fun_mk (st:=t_29) l_29 c_29 k_29
  have n_29:=F_29.binds (ps:=["stacks", "order"]) fun _ _ _ _ _ _ us hl=>match us,hl with | [_,_],_=>rfl
  have F_30:=fun_mk (st:=t_30) l_30 c_30 k_30
  have n_30:=F_30.binds (ps:=["stacks", "order"]) fun _ _ _ _ _ _ us hl=>match us,hl with | [_,_],_=>rfl
  have F_32:=fun_mk (st:=t_32) l_32 c_32 k_32
  have n_32:=F_32.binds (ps:=["stacks", "order"]) fun _ _ _ _ _ _ us hl=>match us,hl with | [_,_],_=>rfl
  have F_33:=fun_mk (st:=t_33) l_33 c_33 k_33
  have n_33:=F_33.binds (ps:=["stacks"]) fun _ _ _ _ _ _ us hl=>match us,hl with | [_],_=>rfl
  have F_35:=fun_mk (st:=t_35) l_35 c_35 k_35
  have n_35:=F_35.binds (ps:=["stacks"]) fun _ _ _ _ _ _ us hl=>match us,hl with | [_],_=>rfl
  have F_37:=fun_mk (st:=t_37) l_37 c_37 k_37
  have n_37:=F_37.binds (ps:=["_law_found"]) fun _ _ _ _ _ _ us hl=>match us,hl with | [_],_=>rfl
  have F_38:=fun_mk (st:=t_38) l_38 c_38 k_38
  have n_38:=F_38.binds (ps:=["_law_script", "_law_k"]) fun _ _ _ _ _ _ us hl=>match us,hl with | [_,_],_=>rfl
  have F_39:=fun_mk (st:=t_39) l_39 c_39 k_39
  have n_39:=F_39.binds (ps:=["_law_script", "_law_many"]) fun _ _ _ _ _ _ us hl=>match us,hl with | [_,_],_=>rfl
  have F_40:=fun_mk (st:=t_40) l_40 c_40 k_40
  have n_40:=F_40.binds (ps:=["_law_stack"]) fun _ _ _ _ _ _ us hl=>match us,hl with | [_],_=>rfl
  have F_41:=fun_mk (st:=t_41) l_41 c_41 k_41
  have n_41:=F_41.binds (ps:=["_law_draws_here", "_law_most"]) fun _ _ _ _ _ _ us hl=>match us,hl with | [_,_],_=>rfl
  have F_42:=fun_mk (st:=t_42) l_42 c_42 k_42
  have n_42:=F_42.binds (ps:=["_law_stacks_here", "_law_order"]) fun _ _ _ _ _ _ us hl=>match us,hl with | [_,_],_=>rfl
  have F_43:=fun_mk (st:=t_43) l_43 c_43 k_43
  have n_43:=F_43.binds (ps:=["_law_sacks"]) fun _ _ _ _ _ _ us hl=>match us,hl with | [_],_=>rfl
  have F_44:=fun_mk (st:=t_44) l_44 c_44 k_44
  have n_44:=F_44.binds (ps:=["_law_found", "_law_stacks_here"]) fun _ _ _ _ _ _ us hl=>match us,hl with | [_,_],_=>rfl
  have F_45:=fun_mk (st:=t_45) l_45 c_45 k_45
  have n_45:=F_45.binds (ps:=["_law_found", "_law_due"]) fun _ _ _ _ _ _ us hl=>match us,hl with | [_,_],_=>rfl
  have F_46:=fun_mk (st:=t_46) l_46 c_46 k_46
  have n_46:=F_46.binds (ps:=["_law_found", "_law_due"]) fun _ _ _ _ _ _ us hl=>match us,hl with | [_,_],_=>rfl
  have F_47:=fun_mk (st:=t_47) l_47 c_47 k_47
  have n_47:=F_47.binds (ps:=["_law_found", "_law_due"]) fun _ _ _ _ _ _ us hl=>match us,hl with | [_,_],_=>rfl
  have F_48:=fun_mk (st:=t_48) l_48 c_48 k_48
  have n_48:=F_48.binds (ps:=["_law_stacks_here"]) fun _ _ _ _ _ _ us hl=>match us,hl with | [_],_=>rfl
  have F_49:=fun_mk (st:=t_49) l_49 c_49 k_49
  have n_49:=F_49.binds (ps:=["_law_script"]) fun _ _ _ _ _ _ us hl=>match us,hl with | [_],_=>rfl
  have T:Txt K mg _ _ _ _ _ _ _ _ _ _ _ _ _ _ _ _ _ _ _ _ _ _ _ _ _ _ _ _ _ _ _ _ _ _ _ _ _ _ _ _ _ _ _ _ _ _ _ _ _ _ _ _ _ _ _ _ _ _ _ _ _ _ _ _ _ _ _ _ _ _ _ _ _ _ _ _ _ _:=⟨F_1,PySem.W.mg_of X G a_1,k_1,n_1,F_2,PySem.W.mg_of X G a_2,k_2,n_2,F_3,PySem.W.mg_of X G a_3,k_3,n_3,F_4,PySem.W.mg_of X G a_4,k_4,n_4,F_5,PySem.W.mg_of X G a_5,k_5,n_5,F_6,PySem.W.mg_of X G a_6,k_6,n_6,F_7,PySem.W.mg_of X G a_7,k_7,n_7,F_8,PySem.W.mg_of X G a_8,k_8,n_8,F_10,PySem.W.mg_of X G a_10,k_10,n_10,F_11,PySem.W.mg_of X G a_11,k_11,n_11,F_12,PySem.W.mg_of X G a_12,k_12,n_12,F_13,PySem.W.mg_of X G a_13,k_13,n_13,F_14,PySem.W.mg_of X G a_14,k_14,n_14,F_15,PySem.W.mg_of X G a_15,k_15,n_15,F_16,PySem.W.mg_of X G a_16,k_16,n_16,F_23,PySem.W.mg_of X G a_23,k_23,n_23,F_24,PySem.W.mg_of X G a_24,k_24,n_24,F_25,PySem.W.mg_of X G a_25,k_25,n_25,F_26,PySem.W.mg_of X G a_26,k_26,n_26,F_27,PySem.W.mg_of X G a_27,k_27,n_27,F_28,PySem.W.mg_of X G a_28,k_28,n_28,F_29,PySem.W.mg_of X G a_29,k_29,n_29,F_30,PySem.W.mg_of X G a_30,k_30,n_30,F_32,PySem.W.mg_of X G a_32,k_32,n_32,F_33,PySem.W.mg_of X G a_33,k_33,n_33,F_35,PySem.W.mg_of X G a_35,k_35,n_35,F_37,PySem.W.mg_of X G a_37,k_37,n_37,F_38,PySem.W.mg_of X G a_38,k_38,n_38,F_39,PySem.W.mg_of X G a_39,k_39,n_39,F_40,PySem.W.mg_of X G a_40,k_40,n_40,F_41,PySem.W.mg_of X G a_41,k_41,n_41,F_42,PySem.W.mg_of X G a_42,k_42,n_42,F_43,PySem.W.mg_of X G a_43,k_43,n_43,F_44,PySem.W.mg_of X G a_44,k_44,n_44,F_45,PySem.W.mg_of X G a_45,k_45,n_45,F_46,PySem.W.mg_of X G a_46,k_46,n_46,F_47,PySem.W.mg_of X G a_47,k_47,n_47,F_48,PySem.W.mg_of X G a_48,k_48,n_48,F_49,PySem.W.mg_of X G a_49,k_49,n_49,PySem.W.mg_none_of X G z_bool,PySem.W.mg_none_of X G z_enumerate,PySem.W.mg_none_of X G z_int,PySem.W.mg_none_of X G z_isinstance,PySem.W.mg_none_of X G z_len,PySem.W.mg_none_of X G z_list,PySem.W.mg_none_of X G z_min,PySem.W.mg_none_of X G z_range,PySem.W.mg_none_of X G z_str,PySem.W.mg_none_of X G z_sum,PySem.W.mg_none_of X G z_tuple⟩
  exact ⟨_,fun s v=>.of_eq rfl,fun base _ _=>law_D (ok_all T) good⟩
theorem walk {l:PySem.W.OpenLaw} {q:Program} {loose:List Str} {XP:(Str→Option Value)→Heap→Prop} {YP:World→Heap→Prop} {d:DefRec} {K:Params→PySem.W.Frag} (hn:l.most=some 63) (hdf:d.params.defaults=[])
    (hY:∀ (w:World) (h:Heap),YP w h→(K w.params).In h)
    (F:∀ (w:World) (mg:Str→Option Value) (fa:Addr) (h:Heap),(K w.params).In h→h.Ns mainGlobals mg→mg d.name=some (.ref fa) →
      ∃ fd:FuncData,(∀ (s:Shared) (u:Value),BindsTo s fd ⟨[u],[]⟩ [("_law_script",u)])∧∀ base:Heap,(K w.params).In base→base.Ns mainGlobals mg→FnOk l.prog w (K w.params) mg base CX0 9 fa fd ["_law_script"] (spTrue (K w.params))) :
    PySem.W.WalkO q loose XP YP l.row.toRowW d [] (fun f vs=>PySem.call f vs) :=
  L2.walk_of (n:=63) (k:=9) (x:="_law_script") (CX:=fun _=>CX0) (sp:=fun w=>spTrue (K w.params)) hn (by decide) hdf ⟨rfl,by decide,by decide⟩ hY F (fun _ _ a ns hl _ hS=>⟨a,ns,rfl,hS,hl,fun _=>rfl⟩) fun _ _ _ _ _ z=>z
end S_rotstacks_k16_dry_on
set_option Elab.async false
set_option linter.all false
set_option maxRecDepth 100000
set_option maxHeartbeats 8000000
namespace S_rotstacks_k16_dry_on
open PySem L2 LB
theorem inner (w h l:Int) (v0 v1 v2 v3 v4 v5 v6 v10 v11:Option Sl):∀ (ds:List D) (v12:Option Sl),∃ w12,forL 12 b_law_0 ds [v0,v1,v2,v3,v4,v5,v6,some (.sh (.int w)),some (.sh (.int h)),some (.sh (.int l)),v10,v11,v12]=some (.nx,[v0,v1,v2,v3,v4,v5,v6,some (.sh (.int w)),some (.sh (.int (h + ds.length))),some (.sh (.int (l + ds.length * w))),v10,v11,w12]):=by
  intro ds
  induction ds generalizing h l with
  | nil=>intro v12; exact ⟨v12,by unfold forL; simp⟩
  | cons d ds ih =>
    intro v12
    obtain ⟨w12,e⟩:=ih (h + 1) (l + w) (some (.sh d))
    refine ⟨w12,?_⟩
    have hb:b_law_0 [v0,v1,v2,v3,v4,v5,v6,some (.sh (.int w)),some (.sh (.int h)),some (.sh (.int l)),v10,v11,some (.sh d)]=some (.nx,[v0,v1,v2,v3,v4,v5,v6,some (.sh (.int w)),some (.sh (.int (h + 1))),some (.sh (.int (l + w))),v10,v11,some (.sh d)]):=by
      simp only [b_law_0,sSeq,sSet,fBin,fVar,fC,dAddI,List.set_cons_zero,List.set_cons_succ,List.getElem?_cons_zero,List.getElem?_cons_succ,Option.bind_some,Option.map_some]
    unfold forL
    simp only [List.set_cons_zero,List.set_cons_succ]
    rw [hb,Option.bind_some]
    dsimp only
    rw [e,List.length_cons]
    have e1:h + 1 + (ds.length:Int)=h + ((ds.length + 1:Nat):Int):=by omega
    have e2:l + w + (ds.length:Int) * w=l + ((ds.length + 1:Nat):Int) * w:=by rw [Int.natCast_add,Int.add_mul]; omega
    rw [e1,e2]
def rowsR (tot W h l:Int):List Sk→List (List Int)
  | []=>[]
  | x::r=>[x.1,h + x.2.1,l + x.2.1 * W,tot - (l + x.2.1 * W)]::rowsR tot (W - x.2.2) (h + x.2.1) (l + x.2.1 * W) r
theorem rows_eq:∀ (T:List Sk) (h l:Int),rowsR (l + costR 0 T) (lss T) h l T=dryR h l T
  | [],_,_=>rfl
  | x::r,h,l=>by
    have e1:costR 0 (x::r)=x.2.1 * lss (x::r) + costR 0 r:=by
      have:=costR_shift x.2.1 r 0
      rw [costR,this,lss_cons]
      rw [Int.zero_add,Int.mul_add,Int.mul_comm x.2.2 x.2.1]
      omega
    have e2:l + costR 0 (x::r) - (l + x.2.1 * lss (x::r))=costR 0 r:=by omega
    have e3:l + costR 0 (x::r)=(l + x.2.1 * lss (x::r)) + costR 0 r:=by omega
    have e4:lss (x::r) - x.2.2=lss r:=by rw [lss_cons]; omega
    rw [rowsR,dryR,e2,e4,e3,rows_eq r]
theorem outer (tot:Int) (v0 v1 v2 v3 v4 v5:Option Sl):∀ (T:List Sk) (W h l:Int) (M:List D) (v11 v12:Option Sl),(∀ x∈T,GoodS x)→M.length + T.length≤1000 →
    ∃ w7 w8 w9 w11 w12,forL 11 b_law_1 (T.map sD) [v0,v1,v2,v3,v4,v5,some (.sh (.int tot)),some (.sh (.int W)),some (.sh (.int h)),some (.sh (.int l)),some (.ow M),v11,v12]=some (.nx,[v0,v1,v2,v3,v4,v5,some (.sh (.int tot)),w7,w8,w9,some (.ow (M++(rowsR tot W h l T).map iT)),w11,w12])
  | [],W,h,l,M,v11,v12,_,_=>⟨some (.sh (.int W)),some (.sh (.int h)),some (.sh (.int l)),v11,v12,by unfold forL; simp [rowsR]⟩
  | x::T,W,h,l,M,v11,v12,hg,hM=>by
    obtain ⟨_,_,g1,g2,_⟩:=hg x (by simp)
    have hb:Bnd (-(2 ^ 62)) (2 ^ 62) x.2.1:=⟨by omega,by omega⟩
    obtain ⟨w12,hin⟩:=inner W h l v0 v1 v2 v3 v4 v5 (some (.sh (.int tot))) (some (.ow M)) (some (.sh (sD x))) (rngD 0 x.2.1.toNat) v12
    have hlen:((rngD 0 x.2.1.toNat).length:Int)=x.2.1:=by simp [rngD]; omega
    rw [hlen] at hin
    have f1:Few (M.length + 1):=few (by simp at hM; omega)
    obtain ⟨w7,w8,w9,w11,w12',ih⟩:=outer tot v0 v1 v2 v3 v4 v5 T (W - x.2.2) (h + x.2.1) (l + x.2.1 * W) (M++[iT [x.1,h + x.2.1,l + x.2.1 * W,tot - (l + x.2.1 * W)]]) (some (.sh (sD x))) w12 (fun y hy=>hg y (by simp [hy])) (by simp at hM ⊢; omega)
    refine ⟨w7,w8,w9,w11,w12',?_⟩
    rw [List.map_cons]
    unfold forL
    have a1:atI [D.int x.1,.int x.2.1,.int x.2.2] 1=some (.int x.2.1):=rfl
    have a0:atI [D.int x.1,.int x.2.1,.int x.2.2] 0=some (.int x.1):=rfl
    have a2:atI [D.int x.1,.int x.2.1,.int x.2.2] 2=some (.int x.2.2):=rfl
    have hstep:b_law_1 [v0,v1,v2,v3,v4,v5,some (.sh (.int tot)),some (.sh (.int W)),some (.sh (.int h)),some (.sh (.int l)),some (.ow M),some (.sh (sD x)),v12]=some (.nx,[v0,v1,v2,v3,v4,v5,some (.sh (.int tot)),some (.sh (.int (W - x.2.2))),some (.sh (.int (h + x.2.1))),some (.sh (.int (l + x.2.1 * W))),some (.ow (M++[D.tup [D.int x.1,.int (h + x.2.1),.int (l + x.2.1 * W),.int (tot - (l + x.2.1 * W))]])),some (.sh (sD x)),w12]):=by
      have hr1:iR1 [.int x.2.1]=some (rngD 0 x.2.1.toNat):=by show (if Bnd (-(2 ^ 62)) (2 ^ 62) x.2.1 then some (rngD 0 x.2.1.toNat) else none)=_; rw [if_pos hb]
      have f4:(([D.int x.1,.int (h + x.2.1),.int (l + x.2.1 * W),.int (tot - (l + x.2.1 * W))]:List D).length≤64)=True:=by simp
      unfold sD at *
      simp only [b_law_1,sSeq,sFor,sSet,sDrop,fCallF,fAppend,appSl,fTup,fBin,fIxV,ixSl,fCons,fNil,fVar,fC,dSub,List.set_cons_zero,List.set_cons_succ,List.getElem?_cons_zero,List.getElem?_cons_succ,Option.bind_some,Option.map_some,a0,a1,a2,hr1,hin,f1,f4,if_true]
    simp only [List.set_cons_zero,List.set_cons_succ]
    rw [hstep,Option.bind_some]
    dsimp only
    have ih':forL 11 b_law_1 (T.map sD) [v0,v1,v2,v3,v4,v5,some (.sh (.int tot)),some (.sh (.int (W - x.2.2))),some (.sh (.int (h + x.2.1))),some (.sh (.int (l + x.2.1 * W))),some (.ow (M++[D.tup [D.int x.1,.int (h + x.2.1),.int (l + x.2.1 * W),.int (tot - (l + x.2.1 * W))]])),some (.sh (sD x)),w12]=_:=ih
    rw [ih']
    simp [rowsR]
theorem dryR_row:∀ (T:List Sk) (h l:Int),∀ r∈dryR h l T,r.length≤1000
  | [],_,_,r,hr=>by cases hr
  | x::T,h,l,r,hr=>by
    rw [dryR] at hr
    rcases List.mem_cons.mp hr with rfl | hr
    · simp
    · exact dryR_row T _ _ r hr
theorem good (ns:List Int) (hn:ns.length≤63):m_law [.lst (ns.map D.int)]=some (.bl true):=by
  obtain ⟨cs,hcl,hd⟩:=draws_ok ns 15 (by omega)
  obtain ⟨ss,hs,hst⟩:=stacks_ok cs 14 (by omega) (by omega)
  rw [ssD_L] at hst
  have hd:m__law_draws [.lst (ns.map D.int),.int 15]=some (.lst (cs.map D.int)):=hd
  have hst:m__law_stacks [.lst (cs.map D.int),.int 14]=some (ssL ss):=hst
  have hl5:=hs.many
  have hsl:∀ s∈ss,s.length≤14:=fun s h=>Nat.le_trans (List.sublist_flatten_of_mem h).length_le hs.tot
  have hcp:=copy_ok ss (by omega)
  have hss:=same_stacks_ok ss (by omega) fun s h=>Nat.le_trans (hsl s h) (by omega)
  obtain ⟨ts,ok,hbt⟩:=block_turns_ok ss hs.good hs.tot
  have htold:=told_order_ok ok hbt hs.tot
  have hw:=ok.whole
  have hwl:(toldN ts).length≤14:=by rw [hw.len]; exact hs.tot
  have hiso:=is_order_ok hw (by omega)
  have hdry:=dry_on_ok ok hs.good hs.tot (by omega)
  have htk:=taken_law_ok hw (by omega) (by omega)
  have hTg:∀ x∈tk ss (toldN ts),GoodS x:=fun x hx=>hs.good x (hw.sk x hx)
  have hTl:(tk ss (toldN ts)).length≤14:=by rw [tk_len]; exact hwl
  have hlaw:=law_cost_ok (tk ss (toldN ts)) hTg
  have c:=compL_map (te:=fIxV 0 (fC (.int 2))) (base:=[]) sD (fun x:Sk=>D.int x.2.2) (tk ss (toldN ts)) fun x _=>⟨_,by unfold sD; simp only [fIxV,ixSl,fC,List.getElem?_cons_zero,Option.bind_some,dIx,show atI [D.int x.1,.int x.2.1,.int x.2.2] 2=some (.int x.2.2) from rfl,Option.map_some]; rfl⟩
  have hb:=bSum_h (fun x:Sk=>x.2.2) (tk ss (toldN ts))
  have hf:Few ((tk ss (toldN ts)).map sD).length:=few (by rw [List.length_map]; omega)
  have hlst:D.lst (ss.map fun s=>D.lst (s.map sD))=ssL ss:=rfl
  have hrw:=same_rows_ok (fun r:List Int=>r) (dryR 0 0 (tk ss (toldN ts))) (by rw [dryR_len]; omega) (dryR_row _ 0 0)
  have heq:=rows_eq (tk ss (toldN ts)) 0 0
  rw [Int.zero_add] at heq
  obtain ⟨w7,w8,w9,w11,w12,hout⟩:=outer (costR 0 (tk ss (toldN ts))) (some (.sh (.lst (ns.map D.int)))) (some (.sh (ssL ss))) (some (.sh (ssL ss))) (some (.sh (.lst (iD (toldN ts))))) (some (.sh (.lst ((dryR 0 0 (tk ss (toldN ts))).map iT)))) (some (.sh (.lst ((tk ss (toldN ts)).map sD)))) (tk ss (toldN ts)) (lss (tk ss (toldN ts))) 0 0 [] none none hTg (by simp; omega)
  rw [heq,List.nil_append] at hout
  have hb:bSum [.lst ((tk ss (toldN ts)).map fun x=>D.int x.2.2)]=some (.int (lss (tk ss (toldN ts)))):=hb
  have hrw:m__law_same_rows [.lst ((dryR 0 0 (tk ss (toldN ts))).map iT),.lst ((dryR 0 0 (tk ss (toldN ts))).map iT)]=some (.bl true):=hrw
  refine runD_rt' rfl ?_
  show ∃ e',s_law [some (.sh (.lst (ns.map D.int))),none,none,none,none,none,none,none,none,none,none,none,none]=some (Fl.rt (D.bl true),e')
  generalize costR 0 (tk ss (toldN ts))=C at *
  generalize lss (tk ss (toldN ts))=LS at *
  generalize (tk ss (toldN ts)).map (fun x:Sk=>D.int x.2.2)=TL at *
  generalize (dryR 0 0 (tk ss (toldN ts))).map iT=R at *
  generalize (tk ss (toldN ts)).map sD=TT at *
  generalize iD (toldN ts)=T at *
  generalize cs.map D.int=CS at *
  generalize (ss.map fun s:List Sk=>D.lst (s.map sD))=fD at *
  refine ⟨[some (.sh (.lst (ns.map D.int))),some (.sh (ssL ss)),some (.sh (ssL ss)),some (.sh (.lst T)),some (.sh (.lst R)),some (.sh (.lst TT)),some (.sh (.int C)),w7,w8,w9,some (.sh (.lst R)),w11,w12],?_⟩
  simp only [s_law,sSeq,sSet,sOwn,sFor,sIf,sRet,sNil,fCall,fCallF,fComp,fiS,fCons,fNil,fVar,fC,fLst,fDisp,fNot,fTst,fAndV,List.getElem?_cons_zero,List.getElem?_cons_succ,Option.bind_some,Option.map_some,List.set_cons_zero,List.set_cons_succ,hd,hst,htold,htk,hlaw,hcp,hlst,hiso,hdry,hf,c,hb,hout,hss,hrw,List.map_nil,List.length_nil,Nat.zero_le,Bool.not_true,if_true,Bool.false_eq_true,if_false]
end S_rotstacks_k16_dry_on
set_option Elab.async false
def PySem.W.Fast.tw16082722128075330953:Unit:=()
def PySem.W.Fast.tw17154547059684345405:Unit:=()
def PySem.W.Fast.tw3250963899360946606:Unit:=()
def PySem.W.Fast.tw16171114976608408287:Unit:=()
def PySem.W.Fast.tw16538370087201423335:Unit:=()
def PySem.W.Fast.tw17568441026109273675:Unit:=()
def PySem.W.Fast.tw4251261066208385303:Unit:=()
def PySem.W.Fast.tw6304847689230008862:Unit:=()
def PySem.W.Fast.tw2650307764776729689:Unit:=()
def PySem.W.Fast.tw14884114422521813045:Unit:=()
def PySem.W.Fast.tw15930301692206854608:Unit:=()
def PySem.W.Fast.tw9342698057312483451:Unit:=()
def PySem.W.Fast.tw11774726940363395520:Unit:=()
def PySem.W.Fast.tw5849561947679789608:Unit:=()
def PySem.W.Fast.tw9571784391588358826:Unit:=()
def PySem.W.Fast.tw10556794178947342468:Unit:=()
def PySem.W.Fast.tw7579594167890710035:Unit:=()
def PySem.W.Fast.tw7373524675731985867:Unit:=()
def PySem.W.Fast.tw13426265244879520315:Unit:=()
def PySem.W.Fast.tw702030052440897153:Unit:=()
def PySem.W.Fast.tw8885132170178606498:Unit:=()
def PySem.W.Fast.tw12244419058819710506:Unit:=()
def PySem.W.Fast.tw8056562432438096278:Unit:=()
def PySem.W.Fast.tw3133338114964413891:Unit:=()
def PySem.W.Fast.tw12233107870357936280:Unit:=()
def PySem.W.Fast.tw16672548842237735385:Unit:=()
def PySem.W.Fast.tw7724934963603749738:Unit:=()
def PySem.W.Fast.tw17512632318634170063:Unit:=()
def PySem.W.Fast.tw10507638045270578698:Unit:=()
def PySem.W.Fast.tw17783396817587120332:Unit:=()
def PySem.W.Fast.tw9738144326730385432:Unit:=()
def PySem.W.Fast.tw6819847560310057123:Unit:=()
def PySem.W.Fast.tw12723990973296936196:Unit:=()
def PySem.W.Fast.tw15101703225191419016:Unit:=()
def PySem.W.Fast.tw13878039797141225892:Unit:=()
def PySem.W.Fast.tw6301200288615597653:Unit:=()
def PySem.W.Fast.tw6329388999740587187:Unit:=()
def PySem.W.Fast.tw17117680521749369464:Unit:=()
def PySem.W.Fast.tw4813380065393606678:Unit:=()
def PySem.W.Fast.tw18101798209598944203:Unit:=()
def PySem.W.Fast.tw2592345767764769703:Unit:=()
def PySem.W.Fast.tw7451547967295740357:Unit:=()
def PySem.W.Fast.tw11478349887165626165:Unit:=()
def PySem.W.Fast.tw14753941567473912589:Unit:=()
def PySem.W.Fast.tw15360340917855129194:Unit:=()
def PySem.W.Fast.tw299707025892071508:Unit:=()
def PySem.W.Fast.tw14551915647790894089:Unit:=()
def PySem.W.Fast.tw8200532417927364251:Unit:=()
def PySem.W.Fast.tw5885601801435907774:Unit:=()
def PySem.W.Fast.tw14761388700515012338:Unit:=()
def PySem.W.Fast.tw4725134877343299102:Unit:=()
def PySem.W.Fast.tw32174048160800702:Unit:=()
def PySem.W.Fast.tw6404476154763414458:Unit:=()
def PySem.W.Fast.tw122229756134066067:Unit:=()
def PySem.W.Fast.tw15249158161170190316:Unit:=()
def PySem.W.Fast.tw4395021260655818751:Unit:=()
def PySem.W.Fast.tw386907161921748675:Unit:=()
def PySem.W.Fast.tw96581875190590831:Unit:=()
def PySem.W.Fast.tw10989872291679663875:Unit:=()
def PySem.W.Fast.tw6649798819210593077:Unit:=()
def PySem.W.Fast.tw13850393773948764408:Unit:=()
def PySem.W.Fast.tw972872470683448373:Unit:=()
def PySem.W.Fast.tw11824406957011168580:Unit:=()
def PySem.W.Fast.tw10180576077445569860:Unit:=()
def PySem.W.Fast.tw8992133381388618367:Unit:=()
def PySem.W.Fast.tw14626296641318583653:Unit:=()
def PySem.W.Fast.tw14230690331507383450:Unit:=()
def PySem.W.Fast.tw3393696095564819871:Unit:=()
def PySem.W.Fast.tw6026597669274437258:Unit:=()
def PySem.W.Fast.tw3130631740922971071:Unit:=()
def PySem.W.Fast.tw14694205914050710311:Unit:=()
def PySem.W.Fast.tw6180749124305458371:Unit:=()
def PySem.W.Fast.tw6767175454561617237:Unit:=()
def PySem.W.Fast.tw4418767383416999866:Unit:=()
def PySem.W.Fast.tw11681888592992298026:Unit:=()
def PySem.W.Fast.tw12619386014207093086:Unit:=()
def PySem.W.Fast.tw11682757324114150690:Unit:=()
def PySem.W.Fast.tw3678269208930203806:Unit:=()
def PySem.W.Fast.tw2691275976795375233:Unit:=()
def PySem.W.Fast.tw11083073141363184540:Unit:=()
def PySem.W.Fast.tw4534110420188181459:Unit:=()
def PySem.W.Fast.tw14133964398275962446:Unit:=()
def PySem.W.Fast.tw8484202558105965905:Unit:=()
def PySem.W.Fast.tw9701264475811033580:Unit:=()
def PySem.W.Fast.tw1473476142410882515:Unit:=()
def PySem.W.Fast.tw7577030698082962942:Unit:=()
def PySem.W.Fast.tw16408694574703613102:Unit:=()
def PySem.W.Fast.tw17499123755533432792:Unit:=()
def PySem.W.Fast.tw17000580636107754075:Unit:=()
def PySem.W.Fast.tw9650393417958462041:Unit:=()
def PySem.W.Fast.tw15629713473700881741:Unit:=()
def PySem.W.Fast.tw4128494226225468827:Unit:=()
def PySem.W.Fast.tw3328970835033458015:Unit:=()
def PySem.W.Fast.tw16987610168812364715:Unit:=()
def PySem.W.Fast.tw6709200014840312109:Unit:=()
open PySem PySem.W PyProof.Rows
set_option maxRecDepth 100000 in
set_option maxHeartbeats 0 in
theorem PySem.Challenge.cw_rotstacks_k16_dry_on_holds : PySem.Challenge.rw_rotstacks_k16_dry_on.Holds := by
  w_on; o_law; k_head; (case hw=>w_witness2)
  k_fill
  refine S_rotstacks_k16_dry_on.walk (l:=PySem.Challenge.rw_rotstacks_k16_dry_on) rfl rfl (fun w h Y=>PySem.W.kIn_of Y) ?F
  case F =>
    intro w mg fa h KX G hmg
    refine' S_rotstacks_k16_dry_on.all_mk KX G hmg ?a_1 ?l_1 ?c_1 ?k_1 ?a_2 ?l_2 ?c_2 ?k_2 ?a_3 ?l_3 ?c_3 ?k_3 ?a_4 ?l_4 ?c_4 ?k_4 ?a_5 ?l_5 ?c_5 ?k_5 ?a_6 ?l_6 ?c_6 ?k_6 ?a_7 ?l_7 ?c_7 ?k_7 ?a_8 ?l_8 ?c_8 ?k_8 ?a_10 ?l_10 ?c_10 ?k_10 ?a_11 ?l_11 ?c_11 ?k_11 ?a_12 ?l_12 ?c_12 ?k_12 ?a_13 ?l_13 ?c_13 ?k_13 ?a_14 ?l_14 ?c_14 ?k_14 ?a_15 ?l_15 ?c_15 ?k_15 ?a_16 ?l_16 ?c_16 ?k_16 ?a_23 ?l_23 ?c_23 ?k_23 ?a_24 ?l_24 ?c_24 ?k_24 ?a_25 ?l_25 ?c_25 ?k_25 ?a_26 ?l_26 ?c_26 ?k_26 ?a_27 ?l_27 ?c_27 ?k_27 ?a_28 ?l_28 ?c_28 ?k_28 ?a_29 ?l_29 ?c_29 ?k_29 ?a_30 ?l_30 ?c_30 ?k_30 ?a_32 ?l_32 ?c_32 ?k_32 ?a_33 ?l_33 ?c_33 ?k_33 ?a_35 ?l_35 ?c_35 ?k_35 ?a_37 ?l_37 ?c_37 ?k_37 ?a_38 ?l_38 ?c_38 ?k_38 ?a_39 ?l_39 ?c_39 ?k_39 ?a_40 ?l_40 ?c_40 ?k_40 ?a_41 ?l_41 ?c_41 ?k_41 ?a_42 ?l_42 ?c_42 ?k_42 ?a_43 ?l_43 ?c_43 ?k_43 ?a_44 ?l_44 ?c_44 ?k_44 ?a_45 ?l_45 ?c_45 ?k_45 ?a_46 ?l_46 ?c_46 ?k_46 ?a_47 ?l_47 ?c_47 ?k_47 ?a_48 ?l_48 ?c_48 ?k_48 ?a_49 ?l_49 ?c_49 ?k_49 ?z_bool ?z_enumerate ?z_int ?z_isinstance ?z_len ?z_list ?z_min ?z_range ?z_str ?z_sum ?z_tuple S_rotstacks_k16_dry_on.good
    (case a_1=>k_is)
    (case l_1=>k_is)
    (case c_1=>k_is)
    (case k_1=>k_is)
    (case a_2=>k_is)
    (case l_2=>k_is)
    (case c_2=>k_is)
    (case k_2=>k_is)
    (case a_3=>k_is)
    (case l_3=>k_is)
    (case c_3=>k_is)
    (case k_3=>k_is)
    (case a_4=>k_is)
    (case l_4=>k_is)
    (case c_4=>k_is)
    (case k_4=>k_is)
    (case a_5=>k_is)
    (case l_5=>k_is)
    (case c_5=>k_is)
    (case k_5=>k_is)
    (case a_6=>k_is)
    (case l_6=>k_is)
    (case c_6=>k_is)
    (case k_6=>k_is)
    (case a_7=>k_is)
    (case l_7=>k_is)
    (case c_7=>k_is)
    (case k_7=>k_is)
    (case a_8=>k_is)
    (case l_8=>k_is)
    (case c_8=>k_is)
    (case k_8=>k_is)
    (case a_10=>k_is)
    (case l_10=>k_is)
    (case c_10=>k_is)
    (case k_10=>k_is)
    (case a_11=>k_is)
    (case l_11=>k_is)
    (case c_11=>k_is)
    (case k_11=>k_is)
    (case a_12=>k_is)
    (case l_12=>k_is)
    (case c_12=>k_is)
    (case k_12=>k_is)
    (case a_13=>k_is)
    (case l_13=>k_is)
    (case c_13=>k_is)
    (case k_13=>k_is)
    (case a_14=>k_is)
    (case l_14=>k_is)
    (case c_14=>k_is)
    (case k_14=>k_is)
    (case a_15=>k_is)
    (case l_15=>k_is)
    (case c_15=>k_is)
    (case k_15=>k_is)
    (case a_16=>k_is)
    (case l_16=>k_is)
    (case c_16=>k_is)
    (case k_16=>k_is)
    (case a_23=>k_is)
    (case l_23=>k_is)
    (case c_23=>k_is)
    (case k_23=>k_is)
    (case a_24=>k_is)
    (case l_24=>k_is)
    (case c_24=>k_is)
    (case k_24=>k_is)
    (case a_25=>k_is)
    (case l_25=>k_is)
    (case c_25=>k_is)
    (case k_25=>k_is)
    (case a_26=>k_is)
    (case l_26=>k_is)
    (case c_26=>k_is)
    (case k_26=>k_is)
    (case a_27=>k_is)
    (case l_27=>k_is)
    (case c_27=>k_is)
    (case k_27=>k_is)
    (case a_28=>k_is)
    (case l_28=>k_is)
    (case c_28=>k_is)
    (case k_28=>k_is)
    (case a_29=>k_is)
    (case l_29=>k_is)
    (case c_29=>k_is)
    (case k_29=>k_is)
    (case a_30=>k_is)
    (case l_30=>k_is)
    (case c_30=>k_is)
    (case k_30=>k_is)
    (case a_32=>k_is)
    (case l_32=>k_is)
    (case c_32=>k_is)
    (case k_32=>k_is)
    (case a_33=>k_is)
    (case l_33=>k_is)
    (case c_33=>k_is)
    (case k_33=>k_is)
    (case a_35=>k_is)
    (case l_35=>k_is)
    (case c_35=>k_is)
    (case k_35=>k_is)
    (case a_37=>k_is)
    (case l_37=>k_is)
    (case c_37=>k_is)
    (case k_37=>k_is)
    (case a_38=>k_is)
    (case l_38=>k_is)
    (case c_38=>k_is)
    (case k_38=>k_is)
    (case a_39=>k_is)
    (case l_39=>k_is)
    (case c_39=>k_is)
    (case k_39=>k_is)
    (case a_40=>k_is)
    (case l_40=>k_is)
    (case c_40=>k_is)
    (case k_40=>k_is)
    (case a_41=>k_is)
    (case l_41=>k_is)
    (case c_41=>k_is)
    (case k_41=>k_is)
    (case a_42=>k_is)
    (case l_42=>k_is)
    (case c_42=>k_is)
    (case k_42=>k_is)
    (case a_43=>k_is)
    (case l_43=>k_is)
    (case c_43=>k_is)
    (case k_43=>k_is)
    (case a_44=>k_is)
    (case l_44=>k_is)
    (case c_44=>k_is)
    (case k_44=>k_is)
    (case a_45=>k_is)
    (case l_45=>k_is)
    (case c_45=>k_is)
    (case k_45=>k_is)
    (case a_46=>k_is)
    (case l_46=>k_is)
    (case c_46=>k_is)
    (case k_46=>k_is)
    (case a_47=>k_is)
    (case l_47=>k_is)
    (case c_47=>k_is)
    (case k_47=>k_is)
    (case a_48=>k_is)
    (case l_48=>k_is)
    (case c_48=>k_is)
    (case k_48=>k_is)
    (case a_49=>k_is)
    (case l_49=>k_is)
    (case c_49=>k_is)
    (case k_49=>k_is)
    (case z_bool=>k_is)
    (case z_enumerate=>k_is)
    (case z_int=>k_is)
    (case z_isinstance=>k_is)
    (case z_len=>k_is)
    (case z_list=>k_is)
    (case z_min=>k_is)
    (case z_range=>k_is)
    (case z_str=>k_is)
    (case z_sum=>k_is)
    (case z_tuple=>k_is)
