import PyProof.Rows.All
import Wide.All
import OpenK.AllK
import Wide.FinOn
import Lean
import PyProof.EqAt
import PyProof.EqKinds
import PyProof.TupleCall
import PyProof.CollectIter
import PyProof.TupleOfStr
import PyProof.TupleOfSeq
import PySem.Challenge.RW_wearplan_k28_chances_of_fall
set_option compiler.extract_closed false
set_option bootstrap.genMatcherCode false
set_option genSizeOf false
set_option genSizeOfSpec false
set_option linter.all false
set_option linter.unusedVariables false
open PyProof.Rows in
local macro_rules | `(tactic| walk_at "v3")=>`(tactic| first | exact Or.inl rfl | exact Or.inr (Or.inl rfl) | exact Or.inr (Or.inr rfl))
open PyProof.Rows in
local macro_rules | `(tactic| walk_at "v2")=>`(tactic| first | exact Or.inl rfl | exact Or.inr rfl)
open PyProof.Rows in
local macro_rules | `(tactic| walk_at "v1")=>`(tactic| first | exact .inl rfl | exact .inr rfl)
set_option Elab.async false
set_option linter.all false
set_option maxRecDepth 100000
namespace L2
open PySem PySem.Spec PyProof.Rows
noncomputable abbrev Key:=Sum Int Str
noncomputable def keyIs:Key→Value→Bool
  | .inl k,v=>Value.isInt k v
  | .inr x,v=>Value.isStrOf x v
noncomputable def keyH (w:World):Key→Int
  | .inl k=>hashInt k
  | .inr x=>hashStr w x
theorem keyIs_shape:∀ {k:Key} {v:Value},keyIs k v=true→(∃ i t,k=Sum.inl i∧v=Value.int i t)∨(∃ x t,k=Sum.inr x∧v=Value.str x t)
  | .inl i,v,h=>by
    obtain ⟨t,e⟩:=Value.isInt_shape (k:=i) (v:=v) h
    exact .inl ⟨i,t,rfl,e⟩
  | .inr x,v,h=>by
    obtain ⟨t,e⟩:=Value.isStrOf_shape (x:=x) (v:=v) h
    exact .inr ⟨x,t,rfl,e⟩
theorem keyIs_int (i:Int) (t:Tok):keyIs (.inl i) (.int i t)=true:=by simp [keyIs,Value.isInt]
theorem keyIs_str (x:Str) (t:Tok):keyIs (.inr x) (.str x t)=true:=by simp [keyIs,Value.isStrOf]
theorem key_ll (a b:Int):decide ((Sum.inl a:Key)=Sum.inl b)=(a == b):=by
  by_cases e:a=b
  · subst e; simp
  · have h:¬ (Sum.inl a:Key)=Sum.inl b:=fun q=>e (Sum.inl.inj q)
    rw [decide_eq_false h]
    exact (beq_eq_false_iff_ne.mpr e).symm
theorem key_rr (a b:Str):decide ((Sum.inr a:Key)=Sum.inr b)=decide (a=b):=by
  by_cases e:a=b
  · subst e; simp
  · have h:¬ (Sum.inr a:Key)=Sum.inr b:=fun q=>e (Sum.inr.inj q)
    rw [decide_eq_false h,decide_eq_false e]
theorem key_lr (a:Int) (b:Str):decide ((Sum.inl a:Key)=Sum.inr b)=false:=decide_eq_false (fun q=>nomatch q)
theorem key_rl (a:Str) (b:Int):decide ((Sum.inr a:Key)=Sum.inl b)=false:=decide_eq_false (fun q=>nomatch q)
noncomputable def mixKind (prog:Program) (w:World):PySem.KeyKind prog w Key where
  is:=keyIs
  hash:=keyH w
  inj:=fun v a b ha hb=>by
    rcases keyIs_shape ha with ⟨i,t,rfl,rfl⟩ | ⟨x,t,rfl,rfl⟩
    · rcases keyIs_shape hb with ⟨j,u,rfl,e⟩ | ⟨y,u,rfl,e⟩
      · injection e with e1 _; rw [e1]
      · exact nomatch e
    · rcases keyIs_shape hb with ⟨j,u,rfl,e⟩ | ⟨y,u,rfl,e⟩
      · exact nomatch e
      · injection e with e1 _; rw [e1]
  byValue:=fun k v h=>by
    rcases keyIs_shape h with ⟨i,t,rfl,rfl⟩ | ⟨x,t,rfl,rfl⟩ <;> rfl
  pyHash:=fun hv h=>by
    rcases keyIs_shape hv with ⟨i,t,rfl,rfl⟩ | ⟨x,t,rfl,rfl⟩
    · exact wpAny_pyHash_int h
    · exact wpAny_pyHash_str h
  eqBool:=fun hu hv h=>by
    rcases keyIs_shape hu with ⟨i,t,rfl,rfl⟩ | ⟨x,t,rfl,rfl⟩
    · rcases keyIs_shape hv with ⟨j,u,rfl,rfl⟩ | ⟨y,u,rfl,rfl⟩
      · rw [key_ll] at h; exact wpAny_eqBool_int h
      · rw [key_lr] at h; exact SeqAt.EqAt.int_str i t y u _ _ _ _ h
    · rcases keyIs_shape hv with ⟨j,u,rfl,rfl⟩ | ⟨y,u,rfl,rfl⟩
      · rw [key_rl] at h; exact SeqAt.EqAt.str_int x t j u _ _ _ _ h
      · rw [key_rr] at h; exact wpAny_eqBool_str h
  «strs»:=fun k x t v h=>by
    rcases keyIs_shape h with ⟨i,u,rfl,e⟩ | ⟨y,u,rfl,e⟩
    · exact nomatch e
    · injection e with e1 _
      subst e1
      cases v <;> rfl
theorem mixKind_int (prog:Program) (w:World) (i:Int) (t:Tok):(mixKind prog w).is (.inl i) (.int i t)=true:=keyIs_int i t
theorem mixKind_str (prog:Program) (w:World) (x:Str) (t:Tok):(mixKind prog w).is (.inr x) (.str x t)=true:=keyIs_str x t
end L2
namespace L2
open PySem PySem.Spec PyProof.Rows
inductive V where
  | non | bl (b:Bool) | int (i:Int) | str (x:Str) | byt (b:Array UInt8) | flt (b:UInt64) | ref (a:Addr) | ty (n:String)
  deriving DecidableEq
noncomputable def RelV:V→Value→Prop
  | .non,u=>u=Value.none
  | .bl b,u=>u=Value.bool b
  | .int i,u=>∃ t,u=Value.int i t
  | .str x,u=>∃ t,u=Value.str x t
  | .byt b,u=>∃ t,u=Value.bytes b t
  | .flt b,u=>∃ t,u=Value.float b t
  | .ref a,u=>u=Value.ref a
  | .ty n,u=>u=Value.type n
noncomputable abbrev Vals:List V→List Value→Prop:=Paired RelV
theorem Vals.length {xs:List V} {us:List Value} (r:Vals xs us):xs.length=us.length:=Paired.length r
theorem Vals.get:∀ {xs:List V} {us:List Value} {i:Nat} {x:V},Vals xs us→xs[i]?=some x→∃ u,us[i]?=some u∧RelV x u
  | _,_,_,_,.nil,e=>by simp at e
  | _,_,0,_,.cons r _,e=>by simp at e; subst e; exact ⟨_,rfl,r⟩
  | _,_,i + 1,x,.cons _ t,e=>by
    obtain ⟨u,h1,h2⟩:=Vals.get (i:=i) (x:=x) t (by simpa using e)
    exact ⟨u,by simpa using h1,h2⟩
theorem Vals.set {x:V} {u:Value} (r:RelV x u):∀ {xs:List V} {us:List Value} (i:Nat),Vals xs us→Vals (xs.set i x) (us.set i u)
  | _,_,_,.nil=>.nil
  | _,_,0,.cons _ t=>.cons r t
  | _,_,i + 1,.cons q t=>.cons q (Vals.set r i t)
theorem Vals.append:∀ {xs ys:List V} {us ws:List Value},Vals xs us→Vals ys ws→Vals (xs++ys) (us++ws)
  | _,_,_,_,.nil,s=>s
  | _,_,_,_,.cons r t,s=>.cons r (Vals.append t s)
noncomputable def RelO:Option V→Option Value→Prop
  | some v,some u=>RelV v u
  | none,none=>True
  | _,_=>False
noncomputable def KV {κ:Type}:List (κ×V)→List (κ×Value)→Prop:=Paired fun (p:κ×V) (q:κ×Value)=>p.1=q.1∧RelV p.2 q.2
noncomputable def kV:Key→V
  | .inl i=>.int i
  | .inr x=>.str x
inductive HO where
  | lst (xs:List V)
  | tup (xs:List V)
  | dK (kvs:List (Key×V)) | dT (kvs:List (List Key×V))
  | set (S:Int→Bool) (n:Nat)
  | ins (C dx:Addr) (fs:List (Str×V))
  | own (x:Addr)
  | xd (fs:List (Str×V))
  | met (f x:Addr)
  | rng (lo hi:Int)
  | frz (o:Obj) (u:HO)
  | tbl (ps:Array Value)
  | ext (φ:Heap→Prop)
noncomputable abbrev Hp:=Addr→Option HO
noncomputable def upd (H:Hp) (a:Addr) (o:HO):Hp:=fun b=>if b=a then some o else H b
theorem upd_same {H:Hp} {a:Addr} {o:HO}:upd H a o a=some o:=by unfold upd; rw [if_pos rfl]
theorem upd_ne {H:Hp} {a b:Addr} {o:HO} (h:b≠a):upd H a o b=H b:=by unfold upd; rw [if_neg h]
theorem upd_upd {H:Hp} {a:Addr} {o u:HO}:upd (upd H a o) a u=upd H a u:=by
  funext b; unfold upd; split <;> rfl
theorem ne_of {H:Hp} {a b:Addr} {o u:HO} (h:H a=some o) (h':H b=some u) (d:o≠u):a≠b:=by
  intro e; subst e; rw [h] at h'; exact d (Option.some.inj h')
theorem ne_of_none {H:Hp} {a b:Addr} {o:HO} (h:H a=some o) (h':H b=none):a≠b:=by
  intro e; subst e; rw [h] at h'; cases h'
section
variable (P:Program) (w:World)
noncomputable def ObjOk (H:Hp) (h:Heap) (a:Addr):HO→Prop
  | .lst xs=>xs.length≤sizeLine∧∃ (its:List Value) (n:Nat),Vals xs its∧h.get? a=some { cls:=.type "list",data:=.seq its.toArray n }
  | .tup xs=>xs.length≤sizeLine∧∃ its:List Value,Vals xs its∧IsTup h a its.toArray
  | .dK kvs=>kvs.length≤sizeLine∧(a == sysModules)=false∧∃ vs,KV kvs vs∧h.DictOf (mixKind P w) a vs
  | .dT kvs=>kvs.length≤sizeLine∧(a == sysModules)=false∧∃ xs:List (List Key×Addr×Value),
      Paired (fun (p:List Key×V) (q:List Key×Addr×Value)=>p.1=q.1∧H q.2.1=some (.tup (p.1.map kV))∧RelV p.2 q.2.2) kvs xs ∧
      ∃ o es ep,h.get? a=some o∧o.ExactDict∧o.data=.dict es ep∧es.toList=xs.map (entryOfKey (tupleKind (mixKind P w)))∧(xs.map (·.1)).Nodup
  | .set S n=>h.SetOf (intKind P w) a S n
  | .ins C dx fs=>H dx=some (.own a)∧fs.length≤1000∧dx≠a∧h.get? a=some (PySem.W.instObj C dx) ∧
      ∃ mA,h.Ns1 dx mA∧(∀ f,RelO (fs.lookup f) (mA f))∧PySem.Within mA (fs.map (·.1))
  | .own _=>∃ o,h.get? a=some o
  | .xd fs=>∃ mA,h.Ns1 a mA∧∀ f,RelO (fs.lookup f) (mA f)
  | .rng lo hi=>∃ t u v,h.get? a=some { cls:=.type "range",data:=.fields #[.int lo t,.int hi u,.int 1 v] }
  | .frz o u=>h.get? a=some o∧ObjOk H h a u
  | .tbl ps=>h.get? a=some { cls:=.none,data:=.fields ps }
  | .met f x=>h.get? a=some (PySem.W.methodObj (.ref f) (.ref x))
  | .ext φ=>φ h∧(∃ o,h.get? a=some o)∧∀ h1 h2:Heap,φ h1→(∀ o,h1.get? a=some o→h2.get? a=some o)→φ h2
noncomputable def HOk (H:Hp) (h:Heap):Prop:=∀ a o,H a=some o→ObjOk P w H h a o
end
section
variable {P:Program} {w:World} {H H':Hp} {h h':Heap} {a:Addr} {o:HO}
theorem ObjOk.lt (x:ObjOk P w H h a o):a < h.objs.size:=by
  cases o with
  | lst xs=>obtain ⟨_,_,_,_,e⟩:=x; exact Heap.lt_size e
  | tup xs=>obtain ⟨_,_,_,p⟩:=x; exact p.lt
  | dK kvs=>obtain ⟨_,_,_,_,o,_,_,e,_⟩:=x; exact Heap.lt_size e
  | dT kvs=>obtain ⟨_,_,_,_,o,_,_,e,_⟩:=x; exact Heap.lt_size e
  | set S n=>obtain ⟨o,_,_,_,e,_⟩:=x; exact Heap.lt_size e
  | ins C dx fs=>obtain ⟨_,_,_,e,_⟩:=x; exact Heap.lt_size e
  | own y=>obtain ⟨_,e⟩:=x; exact Heap.lt_size e
  | xd fs=>obtain ⟨_,⟨_,_,_,e,_⟩,_⟩:=x; exact Heap.lt_size e
  | rng lo hi=>obtain ⟨_,_,_,e⟩:=x; exact Heap.lt_size e
  | frz ob u=>obtain ⟨e,_⟩:=x; exact Heap.lt_size e
  | tbl ps=>exact Heap.lt_size (show h.get? a=some _ from x)
  | met f y=>exact Heap.lt_size (show h.get? a=some _ from x)
  | ext φ=>obtain ⟨_,⟨_,e⟩,_⟩:=x; exact Heap.lt_size e
theorem Paired.mapP {α β:Type} {F G:α→β→Prop}:∀ {l₁:List α} {l₂:List β},Paired F l₁ l₂→(∀ a b,F a b→G a b)→Paired G l₁ l₂
  | _,_,.nil,_=>.nil
  | _,_,.cons r t,f=>.cons (f _ _ r) (Paired.mapP t f)
theorem ObjOk.stay (x:ObjOk P w H h a o) (k:∀ b u,(b=a∨H b=some (.own a))→h.get? b=some u→h'.get? b=some u)
    (ho:∀ b,H b=some (.own a)→H' b=some (.own a)) (ht:∀ b xs,H b=some (.tup xs)→H' b=some (.tup xs)):ObjOk P w H' h' a o:=by
  induction o with
  | lst xs=>obtain ⟨z,its,n,r,e⟩:=x; exact ⟨z,its,n,r,k _ _ (.inl rfl) e⟩
  | tup xs=>obtain ⟨z,its,r,ob,e,c⟩:=x; exact ⟨z,its,r,ob,k _ _ (.inl rfl) e,c⟩
  | dK kvs=>obtain ⟨z,y,vs,r,ob,es,ep,e,c⟩:=x; exact ⟨z,y,vs,r,ob,es,ep,k _ _ (.inl rfl) e,c⟩
  | dT kvs =>
    obtain ⟨z,y,xs,r,ob,es,ep,e,c⟩:=x
    exact ⟨z,y,xs,Paired.mapP r fun p q z=>⟨z.1,ht _ _ z.2.1,z.2.2⟩,ob,es,ep,k _ _ (.inl rfl) e,c⟩
  | set S n=>obtain ⟨ob,es,ep,t,e,c⟩:=x; exact ⟨ob,es,ep,t,k _ _ (.inl rfl) e,c⟩
  | ins C dx fs =>
    obtain ⟨d,z,ne,e,mA,⟨od,es,ep,e2,c⟩,r⟩:=x
    exact ⟨ho _ d,z,ne,k _ _ (.inl rfl) e,mA,⟨od,es,ep,k _ _ (.inr d) e2,c⟩,r⟩
  | own y=>obtain ⟨ob,e⟩:=x; exact ⟨ob,k _ _ (.inl rfl) e⟩
  | xd fs=>obtain ⟨mA,⟨od,es,ep,e,c⟩,r⟩:=x; exact ⟨mA,⟨od,es,ep,k _ _ (.inl rfl) e,c⟩,r⟩
  | rng lo hi=>obtain ⟨t,u,v,e⟩:=x; exact ⟨t,u,v,k _ _ (.inl rfl) e⟩
  | frz ob u ih=>obtain ⟨e,q⟩:=x; exact ⟨k _ _ (.inl rfl) e,ih q⟩
  | tbl ps =>
    have e:h.get? a=some { cls:=.none,data:=.fields ps }:=x
    show h'.get? a=some { cls:=.none,data:=.fields ps }
    exact k a _ (.inl rfl) e
  | met f y =>
    have e:h.get? a=some (PySem.W.methodObj (.ref f) (.ref y)):=x
    show h'.get? a=some (PySem.W.methodObj (.ref f) (.ref y))
    exact k a _ (.inl rfl) e
  | ext φ=>obtain ⟨p,⟨o,e⟩,st⟩:=x; exact ⟨st _ _ p fun o q=>k _ _ (.inl rfl) q,⟨o,k _ _ (.inl rfl) e⟩,st⟩
theorem HOk.lt (x:HOk P w H h) (e:H a=some o):a < h.objs.size:=(x a o e).lt
theorem HOk.fresh (x:HOk P w H h) (e:h.objs.size≤a):H a=none:=by
  cases q:H a with
  | none=>rfl
  | some u=>exact absurd (Nat.lt_of_lt_of_le (x.lt q) e) (Nat.lt_irrefl _)
theorem HOk.kept (x:HOk P w H h) (k:∀ b u,h.get? b=some u→h'.get? b=some u):HOk P w H h':=fun a o e =>
  (x a o e).stay (fun b u _ q=>k b u q) (fun _ q=>q) fun _ _ q=>q
theorem HOk.laid (x:HOk P w H h) (k:∀ b u,h.get? b=some u→h'.get? b=some u) (hp:h.objs.size≤a) (new:ObjOk P w (upd H a o) h' a o):HOk P w (upd H a o) h':=fun b u e=>by
  have hn:=x.fresh hp
  by_cases hb:b=a
  · subst hb; rw [upd_same] at e; cases e; exact new
  · rw [upd_ne hb] at e
    exact (x b u e).stay (fun c v _ q=>k c v q) (fun c q=>by rw [upd_ne (ne_of_none q hn)]; exact q) fun c xs q=>by rw [upd_ne (ne_of_none q hn)]; exact q
end
noncomputable def Rd (H:Hp) (a:Addr) (u:HO):Prop:=H a=some u∨∃ o,H a=some (.frz o u)
theorem Rd.ok {P:Program} {w:World} {H:Hp} {h:Heap} {a:Addr} {u:HO} (r:Rd H a u) (x:HOk P w H h):ObjOk P w H h a u:=by
  rcases r with r | ⟨o,r⟩
  · exact x a u r
  · obtain ⟨_,q⟩:=x a _ r
    exact q
noncomputable def Mut:Option HO→Prop
  | some (.lst _)=>True
  | some (.dK _)=>True
  | some (.dT _)=>True
  | some (.set _ _)=>True
  | some (.ins _ _ _)=>True
  | some (.ext _)=>True
  | _=>False
section
variable {P:Program} {w:World} {H:Hp} {h h':Heap} {x e:Addr} {o':HO}
theorem HOk.write (ok:HOk P w H h) (mu:Mut (H x)) (he:e=x∨H e=some (.own x)) (k:∀ b u,b≠e→h.get? b=some u→h'.get? b=some u) (heo:∃ u,h'.get? e=some u)
    (new:ObjOk P w (upd H x o') h' x o'):HOk P w (upd H x o') h':=fun b u q=>by
  have nown:∀ c y,H c=some (.own y)→c≠x:=fun c y r z=>by subst z; rw [r] at mu; exact mu
  have ntup:∀ c xs,H c=some (.tup xs)→c≠x:=fun c xs r z=>by subst z; rw [r] at mu; exact mu
  by_cases hb:b=x
  · subst hb; rw [upd_same] at q; cases q; exact new
  · rw [upd_ne hb] at q
    by_cases hbe:b=e
    · have q':H b=some (.own x):=by
        rcases he with z | z
        · exact absurd (hbe.trans z) hb
        · rw [hbe]; exact z
      rw [q] at q'; cases q'
      obtain ⟨v,hv⟩:=heo
      exact ⟨v,by rw [hbe]; exact hv⟩
    · refine (ok b u q).stay (fun c v hc r=>k c v ?_ r) (fun c r=>by rw [upd_ne (nown c b r)]; exact r) fun c xs r=>by rw [upd_ne (ntup c xs r)]; exact r
      rcases hc with rfl | hc
      · exact hbe
      · rintro rfl
        rcases he with z | z
        · exact nown c b hc z
        · rw [hc] at z; cases z; exact hb rfl
end
structure Un (fs ex:List Addr) (H H':Hp) (h h':Heap):Prop where
  keep:∀ b o,h.get? b=some o→H b=none→b ∉ fs→b ∉ ex→h'.get? b=some o
  slot:∀ b o,h.get? b=some o→H b=none→b∈fs→b ∉ ex→∃ sl,h'.get? b=some { o with slots:=sl }
  free:∀ b o,h.get? b=some o→H b=none→b ∉ ex→H' b=none
  there:∀ b o,h.get? b=some o→b ∉ ex→∃ o',h'.get? b=some o'
  tups:∀ b xs,H b=some (.tup xs)→H' b=some (.tup xs)
  frzs:∀ b o u,H b=some (.frz o u)→H' b=some (.frz o u)
  tbls:∀ b ps,H b=some (.tbl ps)→∃ more,H' b=some (.tbl (ps++more))
section
variable {fs fs' ex ex':List Addr} {H H1 H2:Hp} {h h1 h2 h':Heap} {a x e:Addr} {o:HO}
theorem Un.any (u:Un fs ex H H1 h h1) {b:Addr} {ob:Obj} (q:h.get? b=some ob) (n:H b=none) (hx:b ∉ ex):∃ sl,h1.get? b=some { ob with slots:=sl }:=by
  by_cases hb:b∈fs
  · exact u.slot b ob q n hb hx
  · exact ⟨ob.slots,u.keep b ob q n hb hx⟩
theorem Un.kept (k:∀ b u,h.get? b=some u→h'.get? b=some u):Un fs ex H H h h' :=
  ⟨fun b ob q _ _ _=>k b ob q,fun b ob q _ _ _=>⟨ob.slots,k b ob q⟩,fun _ _ _ n _=>n,fun b ob q _=>⟨ob,k b ob q⟩,fun _ _ q=>q,fun _ _ _ q=>q,fun _ ps q=>⟨#[],by rw [q]; simp⟩⟩
theorem Un.refl:Un fs ex H H h h:=Un.kept fun _ _ q=>q
theorem Un.laid (k:∀ b u,h.get? b=some u→h'.get? b=some u) (hp:h.objs.size≤a) (hn:H a=none):Un fs ex H (upd H a o) h h' where
  keep:=fun b u q _ _ _=>k b u q
  slot:=fun b u q _ _ _=>⟨u.slots,k b u q⟩
  free:=fun b u q n _=>by rw [upd_ne (Nat.ne_of_lt (Nat.lt_of_lt_of_le (Heap.lt_size q) hp))]; exact n
  there:=fun b u q _=>⟨u,k b u q⟩
  tups:=fun b xs q=>by rw [upd_ne (ne_of_none q hn)]; exact q
  frzs:=fun b u xs q=>by rw [upd_ne (ne_of_none q hn)]; exact q
  tbls:=fun b ps q=>⟨#[],by rw [upd_ne (ne_of_none q hn),q]; simp⟩
theorem Un.write (mu:Mut (H x)) (he:e=x∨H e=some (.own x)) (k:∀ b u,b≠e→h.get? b=some u→h'.get? b=some u) (heo:∃ u,h'.get? e=some u):Un fs ex H (upd H x o) h h':=by
  have hx:∀ b,H b=none→b≠x:=fun b n z=>by subst z; rw [n] at mu; exact mu
  have hb:∀ b,H b=none→b≠e:=fun b n z=>by
    subst z
    rcases he with r | r
    · exact hx b n r
    · rw [n] at r; cases r
  have hm:∀ b u,H b=some u→¬ Mut (some u)→b≠x:=fun b u q nm z=>by subst z; rw [q] at mu; exact nm mu
  refine ⟨fun b u q n _ _=>k b u (hb b n) q,fun b u q n _ _=>⟨u.slots,k b u (hb b n) q⟩,fun b u q n _=>by rw [upd_ne (hx b n)]; exact n,fun b u q _=>?_,
    fun b xs q=>by rw [upd_ne (hm b _ q fun z=>z)]; exact q,fun b u xs q=>by rw [upd_ne (hm b _ q fun z=>z)]; exact q,fun b ps q=>⟨#[],by rw [upd_ne (hm b _ q fun z=>z),q]; simp⟩⟩
  by_cases hbe:b=e
  · subst hbe; exact heo
  · exact ⟨u,k b u hbe q⟩
end
noncomputable def trk (h:Heap) (H:Hp):List Addr:=(List.range h.objs.size).filter fun a=>(H a).isSome
noncomputable def hidT (h:Heap) (H:Hp):Heap:=PySem.W.hideAll h (trk h H)
theorem hidT_size (h:Heap) (H:Hp):(hidT h H).objs.size=h.objs.size:=PySem.W.hideAll_size _ _
theorem hidT_get {h:Heap} {H:Hp} {b:Addr} {o:Obj} (e:h.get? b=some o) (n:H b=none):(hidT h H).get? b=some o :=
  PySem.W.hideAll_get _ e fun hm=>by
    have q:(H b).isSome=true:=(List.mem_filter.mp hm).2
    rw [n] at q; simp at q
theorem of_hidT {h:Heap} {H:Hp} {b:Addr} {o:Obj} (e:(hidT h H).get? b=some o):h.get? b=some o∧H b=none:=by
  have e':h.get? b=some o:=PySem.W.of_hideAll (trk h H) e
  refine ⟨e',?_⟩
  cases q:H b with
  | none=>rfl
  | some x =>
    have hm:b∈trk h H:=List.mem_filter.mpr ⟨List.mem_range.mpr (Heap.lt_size e'),by simp [q]⟩
    have z:(hidT h H).get? b=none:=PySem.W.hideAll_none (trk h H) hm
    rw [z] at e; cases e
noncomputable def allNews (g h:Heap) (L:Addr):List (Addr×Obj):=(List.range h.objs.size).filterMap fun a=>if a=L∨(g.get? a).isSome=true then none else (h.get? a).map fun o=>(a,o)
noncomputable def rest (g h:Heap) (L d:Addr):List (Addr×Obj):=(allNews g h L).filter fun p=>decide (p.1≠d)
end L2
namespace L2
open PySem PySem.Spec PyProof.Rows
structure Mod (K:PySem.W.Frag) (mg:Str→Option Value) (base:Heap):Prop where
  kin:K.In base
  glob:base.Ns mainGlobals mg
  blt:∃ mb,base.Ns builtinsNs mb∧∀ x:Str,x ≠ "__name__" → mb x=bootBuiltins x
  nolimit:base.NoLimit
structure Cx where
  prog:Program
  w:World
  K:PySem.W.Frag
  mg:Str→Option Value
  base:Heap
  A:Around
  N:List Str
  s₀:Shared
  H₀:Hp
  env:Env
  outer:List Env
  stack:List Env
  ex:List Addr
  fn:Str→Bool
  calm:Bool
  pn:List (Addr×Obj)
  xe:Value→Shared→Prop
noncomputable def frs (l:List Env):List Addr:=l.filterMap (·.frame)
noncomputable abbrev Cx.fs (X:Cx):List Addr:=frs X.outer
noncomputable def Vis (sc:Scope) (x:Str):Prop:=sc.names.lookup x=some .local∨sc.names.lookup x=some .cell∨sc.names.lookup x=some .free
noncomputable def Loc (sc:Scope) (x:Str):Prop:=sc.names.lookup x=some .local∨sc.names.lookup x=some .cell
noncomputable def Look (env:Env) (h:Heap) (m:Str→Option Value) (x:Str) (u:Value):Prop :=
  (env.kindOf x=some .local∧m x=some u)∨((env.kindOf x=some .cell∨env.kindOf x=some .free)∧∃ c,env.cells.lookup x=some c∧h.IsCell c (some u))
structure Cx.Ok (X:Cx):Prop where
  mod:Mod X.K X.mg X.base
  kind:X.env.scope.kind=.function
  glob:X.env.globals=mainGlobals
  blt:X.env.builtins=builtinsNs
  above:X.s₀.heap.objs.size≤X.env.locals
  inj:∀ x y c,X.env.cells.lookup x=some c→X.env.cells.lookup y=some c→x=y
  has:∀ x,(X.env.kindOf x=some .cell∨X.env.kindOf x=some .free)→∃ c,X.env.cells.lookup x=some c
  cab:∀ x c,X.fn x=true→X.env.cells.lookup x=some c→X.s₀.heap.objs.size≤c
  hd:X.calm=true→X.A.handled=none
  frames:X.A.frames=some X.stack
  stk:X.stack=X.outer∨(X.stack=X.env :: X.outer∧X.env.frame=some X.env.locals)
  exf:∀ b∈X.ex,b≠X.env.locals∧∀ x c,X.env.cells.lookup x=some c→c≠b
  bs:∀ b o,X.base.get? b=some o→X.s₀.heap.get? b=some o∧X.H₀ b=none
  bsz:X.base.objs.size≤X.s₀.heap.objs.size
  noex:∀ b o,X.base.get? b=some o→b ∉ X.ex
  exfs:∀ b∈X.ex,b ∉ X.fs
  funs:X.s₀.heap.FunFrames X.base X.outer
  frf:∀ b∈X.fs,X.H₀ b=none
structure Inv (X:Cx) (pins:List (Addr×Obj)) (σ:List (Option V)) (H:Hp) (s:Shared):Prop where
  ok:X.Ok
  os:s.os=X.s₀.os
  bare:AllBare s.gens
  base:Un X.fs X.ex X.H₀ H X.s₀.heap s.heap
  loc:∃ m,s.heap.Ns X.env.locals m∧∀ (i:Nat) (x:Str) (v:V),X.N[i]?=some x→σ[i]?=some (some v)→Vis X.env.scope x→∃ u,RelV v u∧Look X.env s.heap m x u
  cell:∀ x c,X.env.cells.lookup x=some c→∃ v,s.heap.IsCell c v
  free:H X.env.locals=none
  freeC:∀ x c,X.env.cells.lookup x=some c→H c=none
  pin:∀ p∈X.pn++pins,s.heap.get? p.1=some p.2∧H p.1=none∧p.1≠X.env.locals∧p.1 ∉ X.fs∧∀ v,p.2.data≠.cell v
  hok:HOk X.prog X.w H s.heap
  len:σ.length=X.N.length
section
variable {X:Cx} {pins:List (Addr×Obj)} {σ:List (Option V)} {H H':Hp} {s:Shared} {h':Heap}
theorem Cx.Ok.nofr (ok:X.Ok) {b:Addr} {o:Obj} (e:X.base.get? b=some o):b ∉ X.fs:=fun hb=>by
  have:=(ok.funs.mem hb).1
  rw [e] at this; cases this
theorem Inv.bs (I:Inv X pins σ H s):∀ b o,X.base.get? b=some o→s.heap.get? b=some o∧H b=none:=fun b o e =>
  ⟨I.base.keep b o (I.ok.bs b o e).1 (I.ok.bs b o e).2 (I.ok.nofr e) (I.ok.noex b o e),I.base.free b o (I.ok.bs b o e).1 (I.ok.bs b o e).2 (I.ok.noex b o e)⟩
theorem Inv.bk (I:Inv X pins σ H s):∀ b o,X.base.get? b=some o→s.heap.get? b=some o:=fun b o e=>(I.bs b o e).1
theorem Inv.mod (I:Inv X pins σ H s):Mod X.K X.mg X.base:=I.ok.mod
theorem Inv.kIn (I:Inv X pins σ H s):X.K.In s.heap:=I.ok.mod.kin.keeps I.bk
theorem Inv.fr (I:Inv X pins σ H s):∃ m,Fr X.base X.env.locals s.heap m :=
  let ⟨m,hn,_⟩:=I.loc
  ⟨m,hn,I.bk,Nat.le_trans I.ok.bsz I.ok.above⟩
theorem Inv.lt (I:Inv X pins σ H s):X.env.locals < s.heap.objs.size:=let ⟨_,hn,_⟩:=I.loc; hn.lt
theorem Inv.sz (I:Inv X pins σ H s):X.s₀.heap.objs.size≤s.heap.objs.size:=Nat.le_trans I.ok.above (Nat.le_of_lt I.lt)
theorem Inv.nofs (I:Inv X pins σ H s) {a:Addr} (h:s.heap.objs.size≤a):a ∉ X.fs:=fun hb=>by
  obtain ⟨_,o,ho,_⟩:=I.ok.funs.mem hb
  exact absurd (Nat.lt_of_lt_of_le (Heap.lt_size ho) (Nat.le_trans I.sz h)) (Nat.lt_irrefl _)
theorem Inv.cne (I:Inv X pins σ H s):∀ x c,X.env.cells.lookup x=some c→c≠X.env.locals:=fun x c e z=>by
  obtain ⟨v,o,ho,hd⟩:=I.cell x c e
  obtain ⟨m,⟨o',es,ep,ho',hd',_⟩,_⟩:=I.loc
  rw [z,ho'] at ho; cases ho; rw [hd'] at hd; cases hd
theorem Inv.funs (I:Inv X pins σ H s):s.heap.FunFrames X.base X.outer:=by
  have all:∀ (l:List Env),(∀ b∈frs l,b∈X.fs)→X.s₀.heap.FunFrames X.base l→s.heap.FunFrames X.base l:=by
    intro l
    induction l with
    | nil=>intro _ _; trivial
    | cons env r ih =>
      intro hs hl
      obtain ⟨hk,⟨L,o,hf,hn,ho,hd⟩,hr⟩:=hl
      have hL:L∈X.fs:=hs L (by unfold frs; rw [List.filterMap_cons,hf]; exact List.mem_cons_self)
      obtain ⟨sl,e⟩:=I.base.slot L o ho (I.ok.frf L hL) hL fun z=>I.ok.exfs L z hL
      exact ⟨hk,⟨L,_,hf,hn,e,hd⟩,ih (fun b hb=>hs b (by unfold frs; rw [List.filterMap_cons,hf]; exact List.mem_cons_of_mem _ hb)) hr⟩
  exact all X.outer (fun _ hb=>hb) I.ok.funs
theorem Inv.stack (I:Inv X pins σ H s):s.heap.FunFrames X.base X.stack:=by
  rcases I.ok.stk with e | ⟨e,hf⟩
  · rw [e]; exact I.funs
  · rw [e]
    obtain ⟨m,hn,_⟩:=I.loc
    refine .cons (by rw [I.ok.kind]; decide) hf hn ?_ I.funs
    exact Heap.get?_none_of_le (Nat.le_trans I.ok.bsz I.ok.above)
theorem Inv.stkSub (I:Inv X pins σ H s):∀ b∈frs X.stack,b∈X.env.locals :: X.fs:=fun b hb=>by
  rcases I.ok.stk with e | ⟨e,hf⟩
  · rw [e] at hb; exact List.mem_cons_of_mem _ hb
  · rw [e] at hb
    unfold frs at hb
    rw [List.filterMap_cons,hf] at hb
    exact hb
theorem Inv.stkFree (I:Inv X pins σ H s):∀ b∈frs X.stack,H b=none:=fun b hb=>by
  rcases List.mem_cons.mp (I.stkSub b hb) with e | hb
  · rw [e]; exact I.free
  · obtain ⟨_,o,ho,_⟩:=I.ok.funs.mem hb
    exact I.base.free b o ho (I.ok.frf b hb) fun z=>I.ok.exfs b z hb
theorem Inv.step {g':Array GenState} {t':Nat} {d':Drawn} {ch:List Addr} (I:Inv X pins σ H s)
    (hch:∀ b∈ch,(b∈X.ex∨X.s₀.heap.objs.size≤b)∧b≠X.env.locals∧(∀ x c,X.env.cells.lookup x=some c→c≠b)∧∀ p∈X.pn++pins,p.1≠b)
    (keep:∀ b o,b≠X.env.locals→b ∉ X.fs→b ∉ ch→s.heap.get? b=some o→H b=none→h'.get? b=some o)
    (slot:∀ b o,b≠X.env.locals→b∈X.fs→b ∉ ch→s.heap.get? b=some o→H b=none→∃ sl,h'.get? b=some { o with slots:=sl }) (free:∀ b o,b ∉ ch→s.heap.get? b=some o→H b=none→H' b=none)
    (there:∀ b o,b ∉ ch→s.heap.get? b=some o→∃ o',h'.get? b=some o')
    (tups:∀ b xs,H b=some (.tup xs)→H' b=some (.tup xs)) (frzs:∀ b o u,H b=some (.frz o u)→H' b=some (.frz o u)) (tbls:∀ b ps,H b=some (.tbl ps)→∃ more,H' b=some (.tbl (ps++more)))
    (ns:∀ m,s.heap.Ns X.env.locals m→h'.Ns X.env.locals m) (hok:HOk X.prog X.w H' h') (hg:AllBare g') :
    Inv X pins σ H' { s with heap:=h',gens:=g',drawn:=d',toks:=t' }:=by
  have neL:∀ b o,X.s₀.heap.get? b=some o→b≠X.env.locals:=fun b o e=>Nat.ne_of_lt (Nat.lt_of_lt_of_le (Heap.lt_size e) I.ok.above)
  have neC:∀ b o,X.s₀.heap.get? b=some o→b ∉ X.ex→b ∉ ch:=fun b o e hx hb=>by
    rcases (hch b hb).1 with z | z
    · exact hx z
    · exact absurd (Nat.lt_of_lt_of_le (Heap.lt_size e) z) (Nat.lt_irrefl _)
  have cellK:∀ x c,X.env.cells.lookup x=some c→∀ v,s.heap.IsCell c v→h'.IsCell c v:=fun x c e v ⟨o,ho,hd⟩=>by
    have nch:c ∉ ch:=fun z=>(hch c z).2.2.1 x c e rfl
    by_cases hc:c∈X.fs
    · obtain ⟨sl,q⟩:=slot c o (I.cne x c e) hc nch ho (I.freeC x c e)
      exact ⟨_,q,hd⟩
    · exact ⟨o,keep c o (I.cne x c e) hc nch ho (I.freeC x c e),hd⟩
  refine ⟨I.ok,I.os,hg,⟨fun b o e n hb hx=>?_,fun b o e n hb hx=>?_,fun b o e n hx=>?_,fun b o e hx=>?_,fun b xs e=>tups b xs (I.base.tups b xs e),fun b o xs e=>frzs b o xs (I.base.frzs b o xs e),fun b ps e=>?_⟩,?_,fun x c e=>?_,?_,fun x c e=>?_,fun p hp=>?_,hok,I.len⟩
  · exact keep b o (neL b o e) hb (neC b o e hx) (I.base.keep b o e n hb hx) (I.base.free b o e n hx)
  · obtain ⟨sl,e1⟩:=I.base.slot b o e n hb hx
    obtain ⟨sl',e2⟩:=slot b _ (neL b o e) hb (neC b o e hx) e1 (I.base.free b o e n hx)
    exact ⟨sl',e2⟩
  · obtain ⟨o',e1⟩:=I.base.there b o e hx
    exact free b o' (neC b o e hx) e1 (I.base.free b o e n hx)
  · obtain ⟨o',e1⟩:=I.base.there b o e hx
    exact there b o' (neC b o e hx) e1
  · obtain ⟨m1,e1⟩:=I.base.tbls b ps e
    obtain ⟨m2,e2⟩:=tbls b _ e1
    exact ⟨m1++m2,by rw [e2,Array.append_assoc]⟩
  · obtain ⟨m,hn,hl⟩:=I.loc
    refine ⟨m,ns m hn,fun i x v e1 e2 e3=>?_⟩
    obtain ⟨u,r,l⟩:=hl i x v e1 e2 e3
    refine ⟨u,r,?_⟩
    rcases l with l | ⟨k,c,e,z⟩
    · exact .inl l
    · exact .inr ⟨k,c,e,cellK x c e _ z⟩
  · obtain ⟨v,z⟩:=I.cell x c e
    exact ⟨v,cellK x c e v z⟩
  · obtain ⟨m,⟨o,_,_,ho,_⟩,_⟩:=I.loc
    exact free _ o (fun z=>(hch _ z).2.1 rfl) ho I.free
  · obtain ⟨v,o,ho,hd⟩:=I.cell x c e
    exact free c o (fun z=>(hch c z).2.2.1 x c e rfl) ho (I.freeC x c e)
  · obtain ⟨e,n,ne,nf,d⟩:=I.pin p hp
    have nch:p.1 ∉ ch:=fun z=>(hch p.1 z).2.2.2 p hp rfl
    exact ⟨keep p.1 p.2 ne nf nch e n,free p.1 p.2 nch e n,ne,nf,d⟩
theorem Inv.un {t':Nat} (I:Inv X pins σ H s) (u:Un X.fs [] H H' s.heap h') (hok:HOk X.prog X.w H' h'):Inv X pins σ H' { s with heap:=h',toks:=t' }:=by
  obtain ⟨m,⟨o,es,ep,ho,r⟩,_⟩:=id I.loc
  obtain ⟨sl,hL⟩:=u.any ho I.free (by simp)
  exact I.step (g':=s.gens) (d':=s.drawn) (ch:=[]) (fun _ z=>nomatch z) (fun b o _ hb _ e n=>u.keep b o e n hb (by simp)) (fun b o _ hb _ e n=>u.slot b o e n hb (by simp)) (fun b o _ e n=>u.free b o e n (by simp)) (fun b o _ e=>u.there b o e (by simp)) u.tups u.frzs u.tbls (fun m' hm=>by
    obtain ⟨o',es',ep',ho',r'⟩:=hm
    rw [ho] at ho'; cases ho'
    exact ⟨_,es',ep',hL,r'⟩) hok I.bare
theorem Inv.call {g':Array GenState} {t':Nat} {d':Drawn} {ch:List Addr} (I:Inv X pins σ H s) (u:Un (frs X.stack) ch H H' s.heap h') (hok:HOk X.prog X.w H' h') (hg:AllBare g')
    (hch:∀ b∈ch,(b∈X.ex∨X.s₀.heap.objs.size≤b)∧b≠X.env.locals∧(∀ x c,X.env.cells.lookup x=some c→c≠b)∧∀ p∈X.pn++pins,p.1≠b) :
    Inv X pins σ H' { s with heap:=h',gens:=g',drawn:=d',toks:=t' }:=by
  obtain ⟨m,⟨o,es,ep,ho,r⟩,_⟩:=id I.loc
  obtain ⟨sl,hL⟩:=u.any ho I.free fun z=>(hch _ z).2.1 rfl
  exact I.step (ch:=ch) hch (fun b o hL hb hc e n=>u.keep b o e n (fun z=>(List.mem_cons.mp (I.stkSub b z)).elim hL hb) hc) (fun b o _ _ hc e n=>u.any e n hc) (fun b o hc e n=>u.free b o e n hc) (fun b o hc e=>u.there b o e hc) u.tups u.frzs u.tbls (fun m' hm=>by
    obtain ⟨o',es',ep',ho',r'⟩:=hm
    rw [ho] at ho'; cases ho'
    exact ⟨_,es',ep',hL,r'⟩) hok hg
theorem Inv.turned {t':Nat} {it:Addr} (I:Inv X pins σ H s) (k:∀ b o,b≠it→s.heap.get? b=some o→h'.get? b=some o) (hn:H it=none) (hL:it≠X.env.locals)
    (h1:it∈X.ex∨X.s₀.heap.objs.size≤it) (h2:∀ x c,X.env.cells.lookup x=some c→c≠it) (h3:∀ p∈X.pn++pins,p.1≠it):Inv X pins σ H { s with heap:=h',toks:=t' }:=by
  have nit:∀ b u,H b=some u→b≠it:=fun b u e z=>by rw [z,hn] at e; cases e
  refine I.step (g':=s.gens) (d':=s.drawn) (ch:=[it]) (fun b hb=>?_) (fun b o _ _ hc e _=>k b o (fun z=>hc (by simp [z])) e) (fun b o _ _ hc e _=>⟨o.slots,k b o (fun z=>hc (by simp [z])) e⟩) (fun _ _ _ _ n=>n)
    (fun b o hc e=>⟨o,k b o (fun z=>hc (by simp [z])) e⟩) (fun _ _ e=>e) (fun _ _ _ e=>e) (fun b ps e=>⟨#[],by rw [e]; simp⟩) (fun m hm=>?_) (fun b u e=>?_) I.bare
  · have e:b=it:=by simpa using hb
    subst e
    exact ⟨h1,hL,h2,h3⟩
  · obtain ⟨o,es,ep,ho,r⟩:=hm
    exact ⟨o,es,ep,k _ o (Ne.symm hL) ho,r⟩
  · refine (I.hok b u e).stay (fun c v hc q=>k c v ?_ q) (fun _ q=>q) fun _ _ q=>q
    rcases hc with z | z
    · rw [z]; exact nit b u e
    · exact nit c _ z
theorem Inv.tok (I:Inv X pins σ H s) (t:Nat):Inv X pins σ H { s with toks:=t }:=I.un (h':=s.heap) (t':=t) Un.refl I.hok
theorem Inv.kept {t':Nat} (I:Inv X pins σ H s) (k:∀ b u,s.heap.get? b=some u→h'.get? b=some u):Inv X pins σ H { s with heap:=h',toks:=t' }:=I.un (Un.kept k) (I.hok.kept k)
theorem Inv.laid {a:Addr} {o:HO} {t':Nat} (I:Inv X pins σ H s) (k:∀ b u,s.heap.get? b=some u→h'.get? b=some u) (hp:s.heap.objs.size≤a) (new:ObjOk X.prog X.w (upd H a o) h' a o) :
    Inv X pins σ (upd H a o) { s with heap:=h',toks:=t' }:=I.un (Un.laid k hp (I.hok.fresh hp)) (I.hok.laid k hp new)
theorem Inv.write {x e:Addr} {o:HO} {t':Nat} (I:Inv X pins σ H s) (mu:Mut (H x)) (he:e=x∨H e=some (.own x)) (k:∀ b u,b≠e→s.heap.get? b=some u→h'.get? b=some u) (heo:∃ u,h'.get? e=some u)
    (new:ObjOk X.prog X.w (upd H x o) h' x o):Inv X pins σ (upd H x o) { s with heap:=h',toks:=t' }:=I.un (Un.write mu he k heo) (I.hok.write mu he k heo new)
theorem Inv.weak {σ':List (Option V)} (I:Inv X pins σ H s) (hl:σ'.length=σ.length) (w:∀ (i:Nat) v,σ'[i]?=some (some v)→σ[i]?=some (some v)):Inv X pins σ' H s :=
  ⟨I.ok,I.os,I.bare,I.base,let ⟨m,hn,hl'⟩:=I.loc; ⟨m,hn,fun i x v e1 e2 e3=>hl' i x v e1 (w i v e2) e3⟩,I.cell,I.free,I.freeC,I.pin,I.hok,hl.trans I.len⟩
theorem Inv.pins_of {pins':List (Addr×Obj)} (I:Inv X pins σ H s) (h:∀ p∈pins',s.heap.get? p.1=some p.2∧H p.1=none∧p.1≠X.env.locals∧p.1 ∉ X.fs∧∀ v,p.2.data≠.cell v):Inv X pins' σ H s :=
  ⟨I.ok,I.os,I.bare,I.base,I.loc,I.cell,I.free,I.freeC,fun p hp=>(List.mem_append.mp hp).elim (fun z=>I.pin p (List.mem_append_left _ z)) (h p),I.hok,I.len⟩
theorem nodup_ix {N:List Str} (hN:N.Nodup) {i j:Nat} {x:Str} (a:N[i]?=some x) (b:N[j]?=some x):i=j:=by
  obtain ⟨h1,e1⟩:=List.getElem?_eq_some_iff.mp a
  obtain ⟨h2,e2⟩:=List.getElem?_eq_some_iff.mp b
  exact (List.getElem_inj hN).mp (e1.trans e2.symm)
theorem store_ok2 {M:Model} {A:Around} {E:Value→Shared→Prop} {i:Nat} {x:Str} {v:V} {u:Value} {Q:Unit→Shared→Prop} (I:Inv X pins σ H s) (hN:X.N.Nodup) (hi:X.N[i]?=some x) (hx:Loc X.env.scope x) (r:RelV v u)
    (h:∀ s',Inv X pins (σ.set i (some v)) H s'→(∃ a,Heap.SameBut a s.heap s'.heap∧(a=X.env.locals∨X.env.cells.lookup x=some a))→Q () s') (hf:X.fn x=true∨X.env.scope.names.lookup x=some .local:=by first | exact .inl rfl | exact .inr rfl | assumption):wpAny M A (storeName X.env x u) Q E s:=by
  obtain ⟨m,hn,hl⟩:=id I.loc
  have hcls:(X.env.scope.kind == .class || (X.env.scope.kind == .module && X.env.locals != X.env.globals))=false:=by rw [I.ok.kind]; rfl
  have hiσ:i < σ.length:=by rw [I.len]; exact (List.getElem?_eq_some_iff.mp hi).1
  have cne:=I.cne
  have tracked:∀ {a:Addr} {h':Heap},(∃ o,s.heap.get? a=some o∧H a=none)→Heap.SameBut a s.heap h'→HOk X.prog X.w H h':=fun {a h'} ha hs b ob e=>by
    obtain ⟨_,_,hfree⟩:=ha
    refine (I.hok b ob e).stay (fun c w' hc q=>(hs.2 c ?_).trans q) (fun _ q=>q) fun _ _ q=>q
    rintro rfl
    rcases hc with rfl | hc
    · rw [hfree] at e; cases e
    · rw [hfree] at hc; cases hc
  rcases hx with hk | hk
  · refine wpAny_storeName_local hk hn (fun h' hn' hs=>?_) hcls
    obtain ⟨oL,_,_,hoL,_⟩:=id hn
    refine h _ ⟨I.ok,I.os,I.bare,⟨fun b o e n hb hx=>?_,fun b o e n hb hx=>?_,I.base.free,fun b o e hx=>?_,I.base.tups,I.base.frzs,I.base.tbls⟩,⟨_,hn',fun j y v' e1 e2 e3=>?_⟩,fun y c e=>?_,I.free,I.freeC,fun p hp=>?_,tracked ⟨oL,hoL,I.free⟩ hs,by simpa using I.len⟩ ⟨_,hs,.inl rfl⟩
    · exact (hs.2 b (Nat.ne_of_lt (Nat.lt_of_lt_of_le (Heap.lt_size e) I.ok.above))).trans (I.base.keep b o e n hb hx)
    · obtain ⟨sl,e1⟩:=I.base.slot b o e n hb hx
      exact ⟨sl,(hs.2 b (Nat.ne_of_lt (Nat.lt_of_lt_of_le (Heap.lt_size e) I.ok.above))).trans e1⟩
    · obtain ⟨o',e1⟩:=I.base.there b o e hx
      exact ⟨o',(hs.2 b (Nat.ne_of_lt (Nat.lt_of_lt_of_le (Heap.lt_size e) I.ok.above))).trans e1⟩
    · by_cases hj:j=i
      · subst hj
        rw [hi] at e1; cases e1
        rw [List.getElem?_set_self hiσ] at e2
        cases e2
        exact ⟨u,r,.inl ⟨hk,by simp⟩⟩
      · rw [List.getElem?_set_ne (Ne.symm hj)] at e2
        obtain ⟨u',r',q⟩:=hl j y v' e1 e2 e3
        refine ⟨u',r',?_⟩
        rcases q with ⟨k,e⟩ | ⟨k,c,e,z⟩
        · refine .inl ⟨k,?_⟩
          have:y≠x:=fun e=>hj (nodup_ix hN e1 (e ▸ hi))
          simp [this,e]
        · exact .inr ⟨k,c,e,z.sameBut hs (cne y c e)⟩
    · obtain ⟨w',z⟩:=I.cell y c e
      exact ⟨w',z.sameBut hs (cne y c e)⟩
    · obtain ⟨e,n,ne,nf,d⟩:=I.pin p hp
      exact ⟨(hs.2 p.1 ne).trans e,n,ne,nf,d⟩
  · have hfn:X.fn x=true:=by
      rcases hf with z | z
      · exact z
      · rw [z] at hk; cases hk
    obtain ⟨c,hc⟩:=I.ok.has x (.inl hk)
    obtain ⟨w',z⟩:=I.cell x c hc
    refine wpAny_storeName_cell I.ok.kind hk hc z (fun h' hc' hs=>?_)
    obtain ⟨oc,hoc,hocd⟩:=id z
    refine h { s with heap:=h' } ⟨I.ok,I.os,I.bare,⟨fun b o e n hb hx=>?_,fun b o e n hb hx=>?_,I.base.free,fun b o e hx=>?_,I.base.tups,I.base.frzs,I.base.tbls⟩,⟨m,hn.sameBut hs (Ne.symm (cne x c hc)),fun j y v' e1 e2 e3=>?_⟩,fun y c' e=>?_,I.free,I.freeC,fun p hp=>?_,tracked ⟨oc,hoc,I.freeC x c hc⟩ hs,by simpa using I.len⟩ ⟨c,hs,.inr hc⟩
    · exact (hs.2 b (Nat.ne_of_lt (Nat.lt_of_lt_of_le (Heap.lt_size e) (I.ok.cab x c hfn hc)))).trans (I.base.keep b o e n hb hx)
    · obtain ⟨sl,e1⟩:=I.base.slot b o e n hb hx
      exact ⟨sl,(hs.2 b (Nat.ne_of_lt (Nat.lt_of_lt_of_le (Heap.lt_size e) (I.ok.cab x c hfn hc)))).trans e1⟩
    · obtain ⟨o',e1⟩:=I.base.there b o e hx
      exact ⟨o',(hs.2 b (Nat.ne_of_lt (Nat.lt_of_lt_of_le (Heap.lt_size e) (I.ok.cab x c hfn hc)))).trans e1⟩
    · by_cases hj:j=i
      · subst hj
        rw [hi] at e1; cases e1
        rw [List.getElem?_set_self hiσ] at e2
        cases e2
        exact ⟨u,r,.inr ⟨.inl hk,c,hc,hc'⟩⟩
      · rw [List.getElem?_set_ne (Ne.symm hj)] at e2
        obtain ⟨u',r',q⟩:=hl j y v' e1 e2 e3
        refine ⟨u',r',?_⟩
        rcases q with q | ⟨k,c',e,z'⟩
        · exact .inl q
        · refine .inr ⟨k,c',e,z'.sameBut hs ?_⟩
          rintro rfl
          exact hj (nodup_ix hN e1 (I.ok.inj _ _ _ e hc ▸ hi))
    · by_cases hcc:c'=c
      · subst hcc; exact ⟨_,hc'⟩
      · obtain ⟨w2,z2⟩:=I.cell y c' e
        exact ⟨w2,z2.sameBut hs hcc⟩
    · obtain ⟨e,n,ne,nf,d⟩:=I.pin p hp
      refine ⟨(hs.2 p.1 ?_).trans e,n,ne,nf,d⟩
      intro q
      rw [q,hoc] at e
      have q':oc=p.2:=Option.some.inj e
      exact d w' (by rw [← q']; exact hocd)
theorem store_ok {M:Model} {A:Around} {E:Value→Shared→Prop} {i:Nat} {x:Str} {v:V} {u:Value} {Q:Unit→Shared→Prop} (I:Inv X pins σ H s) (hN:X.N.Nodup) (hi:X.N[i]?=some x) (hx:Loc X.env.scope x) (r:RelV v u)
    (h:∀ s',Inv X pins (σ.set i (some v)) H s'→Q () s') (hf:X.fn x=true∨X.env.scope.names.lookup x=some .local:=by first | exact .inl rfl | exact .inr rfl | assumption):wpAny M A (storeName X.env x u) Q E s :=
  store_ok2 I hN hi hx r (fun s' I' _=>h s' I') hf
theorem Inv.call' {s':Shared} {ch:List Addr} (I:Inv X pins σ H s) (ho:s'.os=s.os) (u:Un (frs X.stack) ch H H' s.heap s'.heap) (hok:HOk X.prog X.w H' s'.heap) (hg:AllBare s'.gens)
    (hch:∀ b∈ch,(b∈X.ex∨X.s₀.heap.objs.size≤b)∧b≠X.env.locals∧(∀ x c,X.env.cells.lookup x=some c→c≠b)∧∀ p∈X.pn++pins,p.1≠b):Inv X pins σ H' s':=by
  obtain ⟨h',g',d',t',o'⟩:=s'
  have e:o'=s.os:=ho
  subst e
  exact I.call (g':=g') (t':=t') (d':=d') u hok hg hch
end
noncomputable abbrev XK:=Value→Option Addr→Hp→Prop
noncomputable abbrev St:=List (Option V)
noncomputable abbrev VK:=V→Hp→Prop
noncomputable abbrev TE:=St→Hp→VK→Prop
noncomputable abbrev TT:=St→Hp→(Bool→Hp→Prop)→Prop
noncomputable abbrev TA:=St→Hp→(List V→Hp→Prop)→Prop
structure Ends where
  nx:St→Hp→Prop
  rt:VK
  bk:St→Hp→Prop:=fun _ _=>False
  ct:St→Hp→Prop:=fun _ _=>False
noncomputable abbrev TS:=Ends→St→Hp→Prop
noncomputable def EP (X:Cx) (pins:List (Addr×Obj)) (σ:St) (Q:VK) (u:Value) (s':Shared):Prop:=∃ v H',Inv X pins σ H' s'∧RelV v u∧Q v H'
noncomputable def TP (X:Cx) (pins:List (Addr×Obj)) (σ:St) (Q:Bool→Hp→Prop) (b:Bool) (s':Shared):Prop:=∃ H',Inv X pins σ H' s'∧Q b H'
noncomputable def AP (X:Cx) (pins:List (Addr×Obj)) (σ:St) (Q:List V→Hp→Prop) (us:List Value) (s':Shared):Prop:=∃ vs H',Inv X pins σ H' s'∧Vals vs us∧Q vs H'
noncomputable def SP (X:Cx) (pins:List (Addr×Obj)) (D:Ends) (f:Flow) (s':Shared):Prop :=
  match f with
  | .next=>∃ σ' H',Inv X pins σ' H' s'∧D.nx σ' H'
  | .brk=>∃ σ' H',Inv X pins σ' H' s'∧D.bk σ' H'
  | .cont=>∃ σ' H',Inv X pins σ' H' s'∧D.ct σ' H'
  | .ret u=>∃ v σ' H',Inv X pins σ' H' s'∧RelV v u∧D.rt v H'
noncomputable def PE (X:Cx) (e:Expr) (t:TE):Prop :=
  ∀ (pins:List (Addr×Obj)) (s:Shared) (σ:St) (H:Hp) (Q:VK),Inv X pins σ H s→t σ H Q→wpAny (model X.prog X.w) X.A (eval e X.env) (EP X pins σ Q) X.xe s
noncomputable def PT (X:Cx) (e:Expr) (t:TT):Prop :=
  ∀ (pins:List (Addr×Obj)) (s:Shared) (σ:St) (H:Hp) (Q:Bool→Hp→Prop),Inv X pins σ H s→t σ H Q→wpAny (model X.prog X.w) X.A (isTrue e X.env (eval e X.env)) (TP X pins σ Q) X.xe s
noncomputable def PW (X:Cx) (e:Expr) (t:TT):Prop :=
  ∀ (whole:Sem Value) (pins:List (Addr×Obj)) (s:Shared) (σ:St) (H:Hp) (Q:Bool→Hp→Prop),Inv X pins σ H s→t σ H Q→wpAny (model X.prog X.w) X.A (isTrue e X.env whole) (TP X pins σ Q) X.xe s
theorem PW.pt {X:Cx} {e:Expr} {t:TT} (h:PW X e t):PT X e t:=h _
noncomputable def PA (X:Cx) (es:List Expr) (t:TA):Prop :=
  ∀ (pos:Pos) (pins:List (Addr×Obj)) (s:Shared) (σ:St) (H:Hp) (Q:List V→Hp→Prop),Inv X pins σ H s→t σ H Q→wpAny (model X.prog X.w) X.A (spliced (backTo pos (starEach es X.env))) (AP X pins σ Q) X.xe s
noncomputable def PS (X:Cx) (st:Stmt) (t:TS):Prop :=
  ∀ (pins:List (Addr×Obj)) (s:Shared) (σ:St) (H:Hp) (D:Ends),Inv X pins σ H s→t D σ H→wpAny (model X.prog X.w) X.A (exec st X.env) (SP X pins D) X.xe s
noncomputable def PSs (X:Cx) (st:List Stmt) (t:TS):Prop :=
  ∀ (pins:List (Addr×Obj)) (s:Shared) (σ:St) (H:Hp) (D:Ends),Inv X pins σ H s→t D σ H→wpAny (model X.prog X.w) X.A (execs st X.env) (SP X pins D) X.xe s
theorem thn {α:Type} {t:Sem α} {Q Q':α→Shared→Prop} {M:Model} {A:Around} {E:Value→Shared→Prop} {s:Shared} (h:wpAny M A t Q E s) (hQ:∀ a s,Q a s→Q' a s):wpAny M A t Q' E s:=wpAny_mono h hQ fun _ _ x=>x
end L2
namespace L2
open PySem PySem.Spec PyProof.Rows
section
variable {X:Cx}
theorem bin {a b:Expr} {ta tb:TE} (ha:PE X a ta) (hb:PE X b tb) {pins:List (Addr×Obj)} {s:Shared} {σ:St} {H:Hp} {R:V→V→Hp→Prop} (I:Inv X pins σ H s) (h:ta σ H fun x H1=>tb σ H1 fun y H2=>R x y H2)
    {α:Type} {Q:α→Shared→Prop} {f:Value→Value→Sem α}
    (hf:∀ v u s2 x y H2,Inv X pins σ H2 s2→RelV x v→RelV y u→R x y H2→wpAny (model X.prog X.w) X.A (f v u) Q X.xe s2) :
    wpAny (model X.prog X.w) X.A (eval a X.env) (fun v s₁=>wpAny (model X.prog X.w) X.A (eval b X.env) (fun u s₂=>wpAny (model X.prog X.w) X.A (f v u) Q X.xe s₂) X.xe s₁) X.xe s:=by
  refine thn (ha pins s σ H _ I h) fun v s1 ⟨x,H1,I1,r1,q1⟩=>?_
  refine thn (hb pins s1 σ H1 _ I1 q1) fun u s2 ⟨y,H2,I2,r2,q2⟩=>?_
  exact hf v u s2 x y H2 I2 r1 r2 q2
noncomputable def tVar (i:Nat):TE:=fun σ H Q=>∃ v,σ[i]?=some (some v)∧Q v H
noncomputable def tC (v:V):TE:=fun _ H Q=>Q v H
theorem pe_var {i:Nat} {x:Str} {pos:Pos} (hN:X.N[i]?=some x) (hv:Vis X.env.scope x) (hd:(x == ("__debug__" : Str))=false:=by decide) (hcd:(x == ("__classdict__" : Str))=false:=by decide):PE X (.Name x pos) (tVar i):=by
  intro pins s σ H Q I h
  obtain ⟨v,e,h⟩:=h
  obtain ⟨m,hn,hl⟩:=I.loc
  obtain ⟨u,r,l⟩:=hl i x v hN e hv
  have fin:EP X pins σ Q u s:=⟨v,H,I,r,h⟩
  rcases l with ⟨hk,hm⟩ | ⟨hk,c,hc,hcell⟩
  · exact wpAny_Name (wpAny_loadName_local I.ok.kind hk hn hm fin) hd
  · rcases hk with hk | hk
    · exact wpAny_Name (wpAny_loadName_cell I.ok.kind hk hc hcell fin) hd
    · exact wpAny_Name (wpAny_loadName_free I.ok.kind hk hc hcell fin hcd) hd
theorem pe_int {i j pos}:PE X (.Constant (.int i) j pos) (tC (.int i)):=fun _ _ _ H _ I h=>wpAny_Constant_int ⟨.int i,H,I.tok _,⟨_,rfl⟩,h⟩
theorem pe_bl {b j pos}:PE X (.Constant (.bool b) j pos) (tC (.bl b)):=fun _ _ _ H _ I h=>Constant_bool ⟨.bl b,H,I,rfl,h⟩
theorem pe_non {j pos}:PE X (.Constant .none j pos) (tC .non):=fun _ _ _ H _ I h=>Constant_none ⟨.non,H,I,rfl,h⟩
theorem pe_str {x j pos}:PE X (.Constant (.str x) j pos) (tC (.str x)):=fun _ _ _ H _ I h=>Calls.Constant_str ⟨.str x,H,I.tok _,⟨_,rfl⟩,h⟩
noncomputable def Gl (X:Cx) (x:Str):Prop:=X.env.kindOf x=some .globalImplicit
theorem ld_glob {E:Value→Shared→Prop} {pins:List (Addr×Obj)} {s:Shared} {σ:St} {H:Hp} {x:Str} {u:Value} {pos:Pos} {Q:Value→Shared→Prop} (I:Inv X pins σ H s) (hg:Gl X x) (hm:X.mg x=some u) (h:Q u s)
    (hd:(x == ("__debug__" : Str))=false:=by decide):wpAny (model X.prog X.w) X.A (eval (.Name x pos) X.env) Q E s :=
  Calls.Name_function_global I.ok.kind hg (Calls.loadGlobal_global (by rw [I.ok.glob]; exact I.mod.glob.keeps I.bk) hm h) hd
theorem ld_blt {E:Value→Shared→Prop} {pins:List (Addr×Obj)} {s:Shared} {σ:St} {H:Hp} {x:Str} {u:Value} {pos:Pos} {Q:Value→Shared→Prop} (I:Inv X pins σ H s) (hg:Gl X x) (hm:X.mg x=none) (hv:bootBuiltins x=some u) (h:Q u s)
    (hn:x ≠ "__name__" := by decide) (hd:(x == ("__debug__" : Str))=false:=by decide):wpAny (model X.prog X.w) X.A (eval (.Name x pos) X.env) Q E s:=by
  obtain ⟨mb,h1,h2⟩:=I.mod.blt
  exact Calls.Name_function_global I.ok.kind hg (Calls.loadGlobal_builtin (by rw [I.ok.glob]; exact I.mod.glob.keeps I.bk) hm (by rw [I.ok.blt]; exact h1.keeps I.bk) ((h2 x hn).trans hv) h) hd
theorem pe_glob {x:Str} {v:V} {u:Value} {pos:Pos} (hg:Gl X x) (hm:X.mg x=some u) (r:RelV v u) (hd:(x == ("__debug__" : Str))=false:=by decide):PE X (.Name x pos) (tC v) :=
  fun _ _ _ H _ I h=>ld_glob I hg hm ⟨v,H,I,r,h⟩ hd
theorem pe_bltn {x:Str} {v:V} {u:Value} {pos:Pos} (hg:Gl X x) (hm:X.mg x=none) (hv:bootBuiltins x=some u) (r:RelV v u) (hn:x ≠ "__name__" := by decide) (hd:(x == ("__debug__" : Str))=false:=by decide):PE X (.Name x pos) (tC v) :=
  fun _ _ _ H _ I h=>ld_blt I hg hm hv ⟨v,H,I,r,h⟩ hn hd
variable {a b:Expr} {ta tb:TE} {pos:Pos}
noncomputable def PC (X:Cx) (op:CmpOp) (a b:Expr) (t:TE):Prop :=
  ∀ (pins:List (Addr×Obj)) (s:Shared) (σ:St) (H:Hp) (Q:VK),Inv X pins σ H s→t σ H Q →
    wpAny (model X.prog X.w) X.A (eval a X.env) (fun v s₁=>wpAny (model X.prog X.w) X.A (eval b X.env) (fun u s₂=>wpAny (model X.prog X.w) X.A (compareOp op v u) (EP X pins σ Q) X.xe s₂) X.xe s₁) X.xe s
theorem nobehind (b:Expr) {op:CmpOp} (h:op≠.In) (h2:op≠.NotIn):behindInMarks op b=false:=by
  have e1:(op == CmpOp.In)=false:=by cases op <;> first | rfl | exact absurd rfl h
  have e2:(op == CmpOp.NotIn)=false:=by cases op <;> first | rfl | exact absurd rfl h2
  cases b <;> simp [behindInMarks,e1,e2]
noncomputable def tB (t:TE):TT:=fun σ H Q=>t σ H fun x H1=>∃ c,x=.bl c∧Q c H1
theorem pt_cmp {op:CmpOp} {t:TE} (h:PC X op a b t) (h1:behindInMarks op b=false:=by first | exact nobehind _ (by decide) (by decide) | rfl):PT X (.Compare a [op] [b] pos) (tB t):=by
  intro pins s σ H Q I hw
  refine wpAny_isTrue_Compare1 (thn (h pins s σ H _ I hw) fun v s1 h1=>thn h1 fun u s2 h2=>thn h2 fun c s3 ⟨x,H1,I1,r1,q1⟩=>?_) h1
  obtain ⟨d,rfl,q⟩:=q1
  cases r1
  exact wpAny_truthy_bool ⟨H1,I1,q⟩
theorem pt_val {e:Expr} {t:TE} (h:PE X e t) (he:∀ whole,isTrue e X.env whole=(do let v ← whole; standAt e.pos; holding [v] (truthy v)):=by intro _; rfl):PT X e (tB t):=by
  intro pins s σ H Q I hw
  refine isTrue_plain (thn (h pins s σ H _ I hw) fun v s1 ⟨x,H1,I1,r1,q1⟩=>?_) (he _)
  obtain ⟨d,rfl,q⟩:=q1
  cases r1
  exact wpAny_truthy_bool ⟨H1,I1,q⟩
variable {tA tB':TT} {rest:List Expr}
noncomputable def tAnd (t u:TT):TT:=fun σ H Q=>t σ H fun c H1=>if c=true then u σ H1 Q else Q false H1
noncomputable def tOr (t u:TT):TT:=fun σ H Q=>t σ H fun c H1=>if c=true then Q true H1 else u σ H1 Q
noncomputable def tNot (t:TT):TT:=fun σ H Q=>t σ H fun c H1=>Q (!c) H1
theorem pw_and1 (ha:PT X a tA):PW X (.BoolOp .And [a] pos) tA:=by
  intro wh pins s σ H Q I h
  refine isTrue_and (thn (ha pins s σ H Q I h) fun c s1 e=>?_)
  cases c with
  | true=>exact isTrue_and_nil e
  | false=>exact e
theorem pw_or1 (ha:PT X a tA):PW X (.BoolOp .Or [a] pos) tA:=by
  intro wh pins s σ H Q I h
  refine isTrue_or (thn (ha pins s σ H Q I h) fun c s1 e=>?_)
  cases c with
  | false=>exact isTrue_or_nil e
  | true=>exact e
theorem pw_and (ha:PT X a tA) (hb:PW X (.BoolOp .And (b :: rest) pos) tB'):PW X (.BoolOp .And (a :: b :: rest) pos) (tAnd tA tB'):=by
  intro wh pins s σ H Q I h
  refine isTrue_and (thn (ha pins s σ H _ I h) fun c s1 ⟨H1,I1,q1⟩=>?_)
  cases c with
  | true=>exact hb wh pins s1 σ H1 Q I1 q1
  | false=>exact ⟨H1,I1,q1⟩
theorem pw_or (ha:PT X a tA) (hb:PW X (.BoolOp .Or (b :: rest) pos) tB'):PW X (.BoolOp .Or (a :: b :: rest) pos) (tOr tA tB'):=by
  intro wh pins s σ H Q I h
  refine isTrue_or (thn (ha pins s σ H _ I h) fun c s1 ⟨H1,I1,q1⟩=>?_)
  cases c with
  | true=>exact ⟨H1,I1,q1⟩
  | false=>exact hb wh pins s1 σ H1 Q I1 q1
theorem pt_not (ha:PT X a tA):PT X (.UnaryOp .Not a pos) (tNot tA):=by
  intro pins s σ H Q I h
  exact isTrue_not (ha pins s σ H (fun c H1=>Q (!c) H1) I h)
noncomputable def tAndV (ta tb:TE):TE:=fun σ H Q=>ta σ H fun x H1=>∃ c,x=.bl c∧if c=true then tb σ H1 Q else Q (.bl false) H1
noncomputable def tNotV (ta:TE):TE:=fun σ H Q=>ta σ H fun x H1=>∃ c,x=.bl c∧Q (.bl (!c)) H1
theorem pe_one {op} {t:TE} (h:PE X a t):PE X (.BoolOp op [a] pos) t:=fun pins s σ H Q I hw=>BoolOp_one (h pins s σ H Q I hw)
theorem pe_and (ha:PE X a ta) (hb:PE X (.BoolOp .And (b :: rest) pos) tb):PE X (.BoolOp .And (a :: b :: rest) pos) (tAndV ta tb):=by
  intro pins s σ H Q I h
  refine BoolOp_and (thn (ha pins s σ H _ I h) fun v s1 ⟨x,H1,I1,r1,q1⟩=>?_)
  obtain ⟨c,rfl,q1⟩:=q1
  cases r1
  refine wpAny_truthy_bool ?_
  cases c with
  | true=>exact hb pins s1 σ H1 Q I1 q1
  | false=>exact ⟨.bl false,H1,I1,rfl,q1⟩
theorem pe_not (ha:PE X a ta):PE X (.UnaryOp .Not a pos) (tNotV ta):=by
  intro pins s σ H Q I h
  refine UnaryOp_ (thn (ha pins s σ H _ I h) fun v s1 ⟨x,H1,I1,r1,q1⟩=>?_)
  obtain ⟨c,rfl,q1⟩:=q1
  cases r1
  exact not_of (wpAny_truthy_bool ⟨.bl (!c),H1,I1,rfl,q1⟩)
noncomputable def tIf (t:TT) (ta tb:TE):TE:=fun σ H Q=>t σ H fun c H1=>if c=true then ta σ H1 Q else tb σ H1 Q
theorem pe_ifExp {c:Expr} (hc:PT X c tA) (ha:PE X a ta) (hb:PE X b tb):PE X (.IfExp c a b pos) (tIf tA ta tb):=by
  intro pins s σ H Q I h
  refine wpAny_IfExp (thn (hc pins s σ H _ I h) fun d s1 ⟨H1,I1,q1⟩=>?_)
  cases d with
  | true=>exact ha pins s1 σ H1 Q I1 q1
  | false=>exact hb pins s1 σ H1 Q I1 q1
end
end L2
namespace L2
open PySem PySem.Spec PyProof.Rows
noncomputable def SqL (K:PySem.W.Frag) (H:Hp) (a:Addr) (xs:List V):Prop :=
  Rd H a (.lst xs) ∨
    ∃ (o:Obj) (its:Array Value) (n:Nat),K.lookup a=some o∧o.cls=.type "list" ∧ o.dict=none∧o.data=.seq its n∧its.size≤sizeLine∧Vals xs its.toList
noncomputable def SqT (K:PySem.W.Frag) (H:Hp) (a:Addr) (xs:List V):Prop :=
  Rd H a (.tup xs) ∨
    ∃ (o:Obj) (its:Array Value) (n:Nat),K.lookup a=some o∧o.cls=.type "tuple" ∧ o.data=.seq its n∧its.size≤sizeLine∧Vals xs its.toList
noncomputable def absV:Value→Option V
  | .none=>some .non
  | .bool b=>some (.bl b)
  | .int i _=>some (.int i)
  | .str x _=>some (.str x)
  | .bytes b _=>some (.byt b)
  | .float b _=>some (.flt b)
  | .ref a=>some (.ref a)
  | .type n=>some (.ty n)
  | _=>none
theorem RelV.abs {x:V} {u:Value} (r:RelV x u):absV u=some x:=by
  cases x with
  | non=>cases r; rfl
  | bl _=>cases r; rfl
  | int _=>obtain ⟨t,rfl⟩:=r; rfl
  | str _=>obtain ⟨t,rfl⟩:=r; rfl
  | byt _=>obtain ⟨t,rfl⟩:=r; rfl
  | flt _=>obtain ⟨t,rfl⟩:=r; rfl
  | ref _=>cases r; rfl
  | ty _=>cases r; rfl
theorem RelV.inj {x y:V} {u:Value} (r:RelV x u) (q:RelV y u):x=y:=Option.some.inj (r.abs.symm.trans q.abs)
theorem Vals.inj:∀ {xs ys:List V} {us:List Value},Vals xs us→Vals ys us→xs=ys
  | _,_,_,.nil,.nil=>rfl
  | _,_,_,.cons r t,.cons r' t'=>by rw [r.inj r',Vals.inj t t']
section
variable {X:Cx} {pins:List (Addr×Obj)} {σ:St} {H:Hp} {s:Shared} {a:Addr} {xs ys:List V}
theorem SqL.of {K:PySem.W.Frag} (h:H a=some (.lst xs)):SqL K H a xs:=.inl (.inl h)
theorem SqT.of {K:PySem.W.Frag} (h:H a=some (.tup xs)):SqT K H a xs:=.inl (.inl h)
theorem Inv.list (I:Inv X pins σ H s) (h:SqL X.K H a xs):∃ its:List Value,Vals xs its∧PlainL s.heap a its.toArray∧xs.length≤sizeLine:=by
  rcases h with h | ⟨o,its,n,hk,hc,hd,hs,hz,r⟩
  · obtain ⟨z,its,n,r,e⟩:=h.ok I.hok
    exact ⟨its,r,⟨_,n,e,rfl,rfl,rfl⟩,z⟩
  · refine ⟨its.toList,r,⟨o,n,I.kIn a o hk,hc,hd,by simpa using hs⟩,?_⟩
    have e:=r.length
    simp only [Array.length_toList] at e
    omega
theorem Inv.tuple (I:Inv X pins σ H s) (h:SqT X.K H a xs):∃ its:List Value,Vals xs its∧IsTup s.heap a its.toArray∧xs.length≤sizeLine:=by
  rcases h with h | ⟨o,its,n,hk,hc,hs,hz,r⟩
  · obtain ⟨z,its,r,p⟩:=h.ok I.hok
    exact ⟨its,r,p,z⟩
  · refine ⟨its.toList,r,⟨o,I.kIn a o hk,hc,n,by simpa using hs⟩,?_⟩
    have e:=r.length
    simp only [Array.length_toList] at e
    omega
theorem Inv.list_inj (I:Inv X pins σ H s) (h:SqL X.K H a xs) (h':SqL X.K H a ys):xs=ys:=by
  obtain ⟨its,r,⟨o,n,e,_,_,d⟩,_⟩:=I.list h
  obtain ⟨its',r',⟨o',n',e',_,_,d'⟩,_⟩:=I.list h'
  rw [e] at e'; cases e'
  rw [d] at d'
  injection d' with d1 _
  have:its=its':=by simpa using congrArg Array.toList d1
  subst this
  exact r.inj r'
theorem Inv.tuple_inj (I:Inv X pins σ H s) (h:SqT X.K H a xs) (h':SqT X.K H a ys):xs=ys:=by
  obtain ⟨its,r,⟨o,e,_,n,d⟩,_⟩:=I.tuple h
  obtain ⟨its',r',⟨o',e',_,n',d'⟩,_⟩:=I.tuple h'
  rw [e] at e'; cases e'
  rw [d] at d'
  injection d' with d1 _
  have:its=its':=by simpa using congrArg Array.toList d1
  subst this
  exact r.inj r'
end
noncomputable abbrev Cx.wish (X:Cx) (E:Value→Shared→Prop):Cx:={ X with xe:=E }
noncomputable abbrev Cx.nox (X:Cx):Cx:=X.wish fun _ _=>False
theorem Cx.Ok.wish {X:Cx} (ok:X.Ok) (E:Value→Shared→Prop):(X.wish E).Ok :=
  ⟨ok.mod,ok.kind,ok.glob,ok.blt,ok.above,ok.inj,ok.has,ok.cab,ok.hd,ok.frames,ok.stk,ok.exf,ok.bs,ok.bsz,ok.noex,ok.exfs,ok.funs,ok.frf⟩
theorem Cx.Ok.unwish {X:Cx} {E:Value→Shared→Prop} (ok:(X.wish E).Ok):X.Ok :=
  ⟨ok.mod,ok.kind,ok.glob,ok.blt,ok.above,ok.inj,ok.has,ok.cab,ok.hd,ok.frames,ok.stk,ok.exf,ok.bs,ok.bsz,ok.noex,ok.exfs,ok.funs,ok.frf⟩
section
variable {X:Cx} {pins:List (Addr×Obj)} {σ:St} {H:Hp} {s:Shared} {E:Value→Shared→Prop}
theorem Inv.wish (I:Inv X pins σ H s) (E:Value→Shared→Prop):Inv (X.wish E) pins σ H s:=⟨I.ok.wish E,I.os,I.bare,I.base,I.loc,I.cell,I.free,I.freeC,I.pin,I.hok,I.len⟩
theorem Inv.unwish (I:Inv (X.wish E) pins σ H s):Inv X pins σ H s:=⟨I.ok.unwish,I.os,I.bare,I.base,I.loc,I.cell,I.free,I.freeC,I.pin,I.hok,I.len⟩
theorem SP.unwish {D:Ends} {f:Flow} {s':Shared} (h:SP (X.wish E) pins D f s'):SP X pins D f s':=by
  cases f with
  | next=>obtain ⟨σ',H',I,q⟩:=h; exact ⟨σ',H',I.unwish,q⟩
  | brk=>obtain ⟨σ',H',I,q⟩:=h; exact ⟨σ',H',I.unwish,q⟩
  | cont=>obtain ⟨σ',H',I,q⟩:=h; exact ⟨σ',H',I.unwish,q⟩
  | ret u=>obtain ⟨v,σ',H',I,r,q⟩:=h; exact ⟨v,σ',H',I.unwish,r,q⟩
theorem PSs.nox {st:List Stmt} {t:TS} (h:PSs X.nox st t):PSs X st t:=fun pins s σ H D I hw =>
  wpAny_mono (h pins s σ H D (I.wish _) hw) (fun _ _ q=>q.unwish) fun _ _ z=>False.elim z
end
section
variable {X:Cx} {st:Stmt} {rest:List Stmt} {t u:TS} {e:Expr} {te:TE} {pos:Pos}
noncomputable def tNext:TS:=fun D σ H=>D.nx σ H
noncomputable def tSeq (t u:TS):TS:=fun D σ H=>t { D with nx:=u D } σ H
theorem pss_nil:PSs X [] tNext:=fun _ _ σ H _ I h=>wpAny_execs_nil ⟨σ,H,I,h⟩
theorem pss_cons (h1:PS X st t) (h2:PSs X rest u):PSs X (st :: rest) (tSeq t u):=by
  intro pins s σ H D I h
  refine wpAny_execs_cons (thn (h1 pins s σ H { D with nx:=u D } I h) fun f s1 q=>?_)
  cases f with
  | next =>
    obtain ⟨σ',H',I',q⟩:=q
    exact h2 pins s1 σ' H' D I' q
  | ret v=>exact q
  | brk=>exact q
  | cont=>exact q
theorem pss_one (h1:PS X st t):PSs X [st] t:=by
  intro pins s σ H D I h
  refine wpAny_execs_cons (thn (h1 pins s σ H D I h) fun f s1 q=>?_)
  cases f with
  | next=>exact wpAny_execs_nil q
  | ret v=>exact q
  | brk=>exact q
  | cont=>exact q
theorem Inv.quiet {pins:List (Addr×Obj)} {σ:St} {H:Hp} {s:Shared} (I:Inv X pins σ H s):interactive X.env=false:=by simp [interactive,I.ok.kind]
noncomputable def tDrop (te:TE):TS:=fun D σ H=>te σ H fun _ H1=>D.nx σ H1
theorem ps_expr (he:PE X e te) (hs:swapsWith e none pos.line X.env=pure false:=by rfl):PS X (.Expr e pos) (tDrop te):=by
  intro pins s σ H D I h
  exact wpAny_Expr_any (thn (he pins s σ H _ I h) fun v s1 ⟨x,H1,I1,r1,q1⟩=>⟨σ,H1,I1,q1⟩) I.quiet hs
noncomputable def tRet (te:TE):TS:=fun D σ H=>te σ H D.rt
theorem ps_ret (he:PE X e te):PS X (.Return (some e) pos) (tRet te):=by
  intro pins s σ H D I h
  exact wpAny_Return_some (thn (he pins s σ H _ I h) fun v s1 ⟨x,H1,I1,r1,q1⟩=>⟨x,σ,H1,I1,r1,q1⟩)
noncomputable def tIfS (c:TT) (t u:TS):TS:=fun D σ H=>c σ H fun b H1=>if b=true then t D σ H1 else u D σ H1
theorem ps_if {c:Expr} {a b:List Stmt} {tc:TT} (hc:PT X c tc) (ha:PSs X a t) (hb:PSs X b u):PS X (.If c a b pos) (tIfS tc t u):=by
  intro pins s σ H D I h
  refine wpAny_If (thn (hc pins s σ H _ I h) fun d s1 ⟨H1,I1,q1⟩=>?_)
  cases d with
  | true=>exact ha pins s1 σ H1 D I1 q1
  | false=>exact hb pins s1 σ H1 D I1 q1
end
noncomputable abbrev TG:=V→St→Hp→(St→Hp→Prop)→Prop
noncomputable abbrev TGs:=List V→St→Hp→(St→Hp→Prop)→Prop
noncomputable def PG (X:Cx) (target:Expr) (t:TG):Prop :=
  ∀ (pins:List (Addr×Obj)) (s:Shared) (σ:St) (H:Hp) (v:V) (u:Value) (Q:St→Hp→Prop),Inv X pins σ H s→RelV v u→t v σ H Q →
    wpAny (model X.prog X.w) X.A (assign target X.env u) (fun _ s'=>∃ σ' H',Inv X pins σ' H' s'∧Q σ' H') X.xe s
noncomputable def PGs (X:Cx) (ts:List Expr) (t:TGs):Prop :=
  ∀ (pins:List (Addr×Obj)) (s:Shared) (σ:St) (H:Hp) (vs:List V) (us:List Value) (Q:St→Hp→Prop),Inv X pins σ H s→Vals vs us→t vs σ H Q →
    wpAny (model X.prog X.w) X.A (assignInOrder ((assignEach ts X.env).map (·.2)) us) (fun _ s'=>∃ σ' H',Inv X pins σ' H' s'∧Q σ' H') X.xe s
noncomputable abbrev TSet:=V→V→V→Hp→(Hp→Prop)→Prop
noncomputable def PSet (X:Cx) (t:TSet):Prop :=
  ∀ (pins:List (Addr×Obj)) (s:Shared) (σ:St) (H:Hp) (o i v:V) (ov iv u:Value) (Q:Hp→Prop),Inv X pins σ H s→RelV o ov→RelV i iv→RelV v u→t o i v H Q →
    wpAny (model X.prog X.w) X.A (setItem ov iv u) (fun _ s'=>∃ H',Inv X pins σ H' s'∧Q H') X.xe s
noncomputable abbrev TIp:=V→V→Hp→VK→Prop
noncomputable def PIp (X:Cx) (op:Operator) (t:TIp):Prop :=
  ∀ (pins:List (Addr×Obj)) (s:Shared) (σ:St) (H:Hp) (x y:V) (v u:Value) (Q:VK),Inv X pins σ H s→RelV x v→RelV y u→t x y H Q →
    wpAny (model X.prog X.w) X.A (inplaceOp op v u) (EP X pins σ Q) X.xe s
section
variable {X:Cx} {pos:Pos}
noncomputable def gName (i:Nat):TG:=fun v σ H Q=>Q (σ.set i (some v)) H
theorem pg_name {i:Nat} {x:Str} (hN:X.N.Nodup) (hi:X.N[i]?=some x) (hx:Loc X.env.scope x) (hf:X.fn x=true∨X.env.scope.names.lookup x=some .local:=by first | exact .inl rfl | exact .inr rfl | assumption):PG X (.Name x pos) (gName i):=by
  intro pins s σ H v u Q I r h
  exact wpAny_assign_Name (store_ok I hN hi hx r (fun s' I'=>⟨_,H,I',h⟩) hf)
noncomputable def gNil:TGs:=fun vs σ H Q=>vs=[]∧Q σ H
noncomputable def gCons (t:TG) (u:TGs):TGs:=fun vs σ H Q=>∃ v r,vs=v :: r∧t v σ H fun σ' H'=>u r σ' H' Q
theorem pgs_nil:PGs X [] gNil:=by
  intro pins s σ H vs us Q I r h
  obtain ⟨e,h⟩:=h
  subst e
  cases r
  exact assignInOrder_nil ⟨σ,H,I,h⟩
theorem pgs_cons {e:Expr} {es:List Expr} {t:TG} {u:TGs} (h1:PG X e t) (h2:PGs X es u)
    (hs:(assignEach (e :: es) X.env).map (·.2)=assign e X.env :: (assignEach es X.env).map (·.2):=by rfl):PGs X (e :: es) (gCons t u):=by
  intro pins s σ H vs us Q I r h
  obtain ⟨v,vr,e1,h⟩:=h
  subst e1
  cases r with
  | cons r rr =>
    rw [hs]
    refine assignInOrder_cons (thn (h1 pins s σ H _ _ _ I r h) fun _ s1 ⟨σ1,H1,I1,q1⟩=>?_)
    exact h2 pins s1 σ1 H1 _ _ Q I1 rr q1
noncomputable def gTup (K:PySem.W.Frag) (n:Nat) (t:TGs):TG:=fun v σ H Q=>∃ a xs,v=.ref a∧SqT K H a xs∧xs.length=n∧t xs σ H Q
theorem pg_tup {es:List Expr} {k:Nat} {t:TGs} {n:Nat} (hc:X.calm=true) (h:PGs X es t)
    (hn:(assignEach es X.env).length=n:=by rfl) (hst:(assignEach es X.env).findIdx? (·.1)=none:=by rfl):PG X (.Tuple es k pos) (gTup X.K n t):=by
  intro pins s σ H v u Q I r hw
  obtain ⟨a,xs,e1,hq,hl,hw⟩:=hw
  subst e1
  cases r
  obtain ⟨its,rv,ht,hz⟩:=I.tuple hq
  refine assign_Tuple_tuple (I.ok.hd hc) ht (by simp [hn,← hl,rv.length]) hst fun h' hx=>?_
  have I1:Inv X pins σ H { s with heap:=h' }:=I.kept (t':=s.toks) fun b o e=>hx b o (Nat.ne_of_lt (Heap.lt_size e)) e
  exact h pins _ σ H xs _ Q I1 (by simpa using rv) hw
noncomputable def gSub (to ti:TE) (t:TSet):TG:=fun v σ H Q=>to σ H fun o H1=>ti σ H1 fun i H2=>t o i v H2 fun H3=>Q σ H3
theorem pg_sub {o i:Expr} {to ti:TE} {t:TSet} (ho:PE X o to) (hi:PE X i ti) (hs:PSet X t)
    (ha:∀ v,assign (.Subscript o i pos) X.env v=(do
      let ov ← holding [v] (eval o X.env)
      let iv ← holding [v,ov] (eval i X.env)
      standAt pos
      holding [v,ov,iv] (setItem ov iv v)
      release [v,ov,iv] []):=by intro _; rfl):PG X (.Subscript o i pos) (gSub to ti t):=by
  intro pins s σ H v u Q I r h
  rw [ha]
  refine wpAny_bind (wpAny_holding (thn (ho pins s σ H _ I h) fun ov s1 ⟨x,H1,I1,r1,q1⟩=>?_))
  refine wpAny_bind (wpAny_holding (thn (hi pins s1 σ H1 _ I1 q1) fun iv s2 ⟨y,H2,I2,r2,q2⟩=>?_))
  refine wpAny_bind (wpAny_standAt (wpAny_bind (wpAny_holding (thn (hs pins s2 σ H2 x y v ov iv u _ I2 r1 r2 r q2) fun _ s3 ⟨H3,I3,q3⟩=>?_))))
  exact wpAny_release ⟨σ,H3,I3,q3⟩
noncomputable def tAsg (te:TE) (g:TG):TS:=fun D σ H=>te σ H fun x H1=>g x σ H1 D.nx
theorem ps_asg {tg e:Expr} {te:TE} {g:TG} (he:PE X e te) (hg:PG X tg g) (hs:swapsWithSole [tg] e pos.line X.env=pure false:=by rfl) (hw:swappedStores [tg] e X.env=pure none:=by rfl)
    (h1:(assignEach [tg] X.env).map (·.2)=[assign tg X.env]:=by rfl):PS X (.Assign [tg] e pos) (tAsg te g):=by
  intro pins s σ H D I h
  refine wpAny_Assign_stores (thn (he pins s σ H _ I h) fun v s1 ⟨x,H1,I1,r1,q1⟩=>?_) hs hw
  rw [h1]
  exact thn (hg pins s1 σ H1 x v _ I1 r1 q1) fun _ s2 q=>q
theorem ps_set {i:Nat} {x:Str} {e:Expr} {te:TE} {pos':Pos} (hN:X.N.Nodup) (hi:X.N[i]?=some x) (hx:Loc X.env.scope x) (he:PE X e te) (hs:swapsWith e (some (.Name x pos')) pos.line X.env=pure false:=by rfl) (hf:X.fn x=true∨X.env.scope.names.lookup x=some .local:=by first | exact .inl rfl | exact .inr rfl | assumption) :
    PS X (.Assign [.Name x pos'] e pos) (tAsg te (gName i)):=by
  intro pins s σ H D I h
  refine wpAny_Assign_Name (thn (he pins s σ H _ I h) fun v s1 ⟨y,H1,I1,r1,q1⟩=>?_) hs
  exact store_ok I1 hN hi hx r1 (fun s2 I2=>⟨_,H1,I2,q1⟩) hf
noncomputable def tAug (i:Nat) (te:TE) (ti:TIp):TS:=fun D σ H=>∃ x,σ[i]?=some (some x)∧te σ H fun y H1=>ti x y H1 fun z H2=>D.nx (σ.set i (some z)) H2
theorem ps_aug {i:Nat} {x:Str} {e:Expr} {te:TE} {op:Operator} {ti:TIp} {pos':Pos} (hN:X.N.Nodup) (hi:X.N[i]?=some x) (hx:Loc X.env.scope x) (he:PE X e te) (ho:PIp X op ti) (hf:X.fn x=true∨X.env.scope.names.lookup x=some .local:=by first | exact .inl rfl | exact .inr rfl | assumption) :
    PS X (.AugAssign (.Name x pos') op e pos) (tAug i te ti):=by
  intro pins s σ H D I h
  obtain ⟨v,e1,h⟩:=h
  obtain ⟨m,hn,hl⟩:=I.loc
  have vis:Vis X.env.scope x:=by rcases hx with k | k; exact .inl k; exact .inr (.inl k)
  obtain ⟨u,r,l⟩:=hl i x v hi e1 vis
  refine wpAny_AugAssign_Name ?_
  have go:wpAny (model X.prog X.w) X.A (eval e X.env) (fun w s₂=>wpAny (model X.prog X.w) X.A (inplaceOp op u w) (fun r s₃=>wpAny (model X.prog X.w) X.A (storeName X.env x r) (fun _=>SP X pins D .next) X.xe s₃) X.xe s₂) X.xe s:=by
    refine thn (he pins s σ H _ I h) fun w s1 ⟨y,H1,I1,r1,q1⟩=>?_
    refine thn (ho pins s1 σ H1 v y u w _ I1 r r1 q1) fun z s2 ⟨zv,H2,I2,r2,q2⟩=>?_
    exact store_ok I2 hN hi hx r2 (fun s3 I3=>⟨_,H2,I3,q2⟩) hf
  rcases l with ⟨hk,hm⟩ | ⟨hk,c,hc,hcell⟩
  · exact wpAny_loadName_local I.ok.kind hk hn hm go
  · rcases hk with hk | hk
    · exact wpAny_loadName_cell I.ok.kind hk hc hcell go
    · rcases hx with k | k
      · have:X.env.scope.names.lookup x=some .free:=hk
        rw [k] at this; cases this
      · have:X.env.scope.names.lookup x=some .free:=hk
        rw [k] at this; cases this
noncomputable def tAugS (to ti te:TE) (tget:V→V→Hp→VK→Prop) (tip:TIp) (tset:TSet):TS:=fun D σ H=>to σ H fun o H1=>ti σ H1 fun i H2=>tget o i H2 fun x H3=>te σ H3 fun y H4=>tip x y H4 fun z H5=>tset o i z H5 fun H6=>D.nx σ H6
noncomputable def PGet (X:Cx) (t:V→V→Hp→VK→Prop):Prop :=
  ∀ (pins:List (Addr×Obj)) (s:Shared) (σ:St) (H:Hp) (o i:V) (ov iv:Value) (Q:VK),Inv X pins σ H s→RelV o ov→RelV i iv→t o i H Q →
    wpAny (model X.prog X.w) X.A (getItem ov iv) (EP X pins σ Q) X.xe s
theorem ps_augS {o i e:Expr} {to ti te:TE} {tget:V→V→Hp→VK→Prop} {tip:TIp} {tset:TSet} {op:Operator} {tpos:Pos} (ho:PE X o to) (hi:PE X i ti) (hg:PGet X tget) (he:PE X e te) (hp:PIp X op tip) (hs:PSet X tset)
    (ha:∀ ov iv new,augStore i ov iv new=(do holding [new,ov,iv] (setItem ov iv new); release [new,ov,iv] []; pure .next):=by intros; rfl):PS X (.AugAssign (.Subscript o i tpos) op e pos) (tAugS to ti te tget tip tset):=by
  intro pins s σ H D I h
  refine wpAny_AugAssign_SubscriptAny (thn (ho pins s σ H _ I h) fun ov s1 ⟨x1,H1,I1,r1,q1⟩=>?_) ha
  refine thn (hi pins s1 σ H1 _ I1 q1) fun iv s2 ⟨x2,H2,I2,r2,q2⟩=>?_
  refine thn (hg pins s2 σ H2 x1 x2 ov iv _ I2 r1 r2 q2) fun old s3 ⟨x3,H3,I3,r3,q3⟩=>?_
  refine thn (he pins s3 σ H3 _ I3 q3) fun v s4 ⟨x4,H4,I4,r4,q4⟩=>?_
  refine thn (hp pins s4 σ H4 x3 x4 old v _ I4 r3 r4 q4) fun new s5 ⟨x5,H5,I5,r5,q5⟩=>?_
  exact thn (hs pins s5 σ H5 x1 x2 x5 ov iv new _ I5 r1 r2 r5 q5) fun _ s6 ⟨H6,I6,q6⟩=>⟨σ,H6,I6,q6⟩
noncomputable def ipI (f:Int→Int→Int):TIp:=fun x y H Q=>∃ i j,x=.int i∧y=.int j∧Q (.int (f i j)) H
theorem ip_add:PIp X .Add (ipI fun i j=>i + j):=by
  intro pins s σ H x y v u Q I r1 r2 h
  obtain ⟨i,j,e1,e2,q⟩:=h
  subst e1; subst e2
  obtain ⟨t,rfl⟩:=r1
  obtain ⟨t',rfl⟩:=r2
  exact iadd_int ⟨.int _,H,I.tok _,⟨_,rfl⟩,q⟩
end
section
variable {X:Cx} {pos:Pos}
end
structure It where
  go:Nat→Hp→Prop
  yld:Nat→Hp→V→Hp→Prop
  stop:Nat→Hp→Prop
noncomputable def FpOk (X:Cx) (pins:List (Addr×Obj)) (H:Hp) (b:Addr):Prop :=
  H b=none∧b≠X.env.locals∧b ∉ X.fs∧(b∈X.ex∨X.s₀.heap.objs.size≤b)∧(∀ x c,X.env.cells.lookup x=some c→c≠b)∧∀ p∈X.pn++pins,p.1≠b
theorem Inv.fpOk {X:Cx} {pins:List (Addr×Obj)} {σ:St} {H H':Hp} {s:Shared} {b:Addr} (I:Inv X pins σ H s) (hb:s.heap.objs.size≤b) (hn:H' b=none):FpOk X pins H' b:=by
  refine ⟨hn,Nat.ne_of_gt (Nat.lt_of_lt_of_le I.lt hb),I.nofs hb,.inr (Nat.le_trans I.sz hb),fun x c e z=>?_,fun p hp z=>?_⟩
  · obtain ⟨v,q⟩:=I.cell x c e
    exact absurd (Nat.lt_of_lt_of_le q.lt (by rw [z]; exact hb)) (Nat.lt_irrefl _)
  · exact absurd (Nat.lt_of_lt_of_le (Heap.lt_size (I.pin p hp).1) (by rw [z]; exact hb)) (Nat.lt_irrefl _)
structure Turn (P:Program) (w:World) (K:PySem.W.Frag) (tg:Expr) (J:It) (fp:List Addr) (it:Addr) (tn:Nat→Heap→Prop):Prop where
  mem:it∈fp
  obj:∀ i h,tn i h→∀ b∈fp,∃ o,h.get? b=some o∧∀ v,o.data≠.cell v
  keep:∀ i h h',tn i h→(∀ b∈fp,∀ o,h.get? b=some o→h'.get? b=some o)→tn i h'
  item:∀ (X:Cx),X.prog=P→X.w=w→X.K=K→X.calm=true→∀ (i:Nat) (pins:List (Addr×Obj)) (s:Shared) (σ:St) (H:Hp) (E:Value→Shared→Prop),Inv X pins σ H s→(∀ b∈fp,FpOk X pins H b)→tn i s.heap→J.go i H →
    wpAny (model P w) X.A (pyNext (.ref it)) (fun r s1=>∃ u,r=some u ∧
      wpAny (model P w) X.A (letOwnedTupleGo tg (.ref it) u) (fun _ s2=>∃ x H',Inv X pins σ H' s2∧RelV x u∧J.yld i H x H'∧tn (i + 1) s2.heap∧∀ b∈fp,H' b=none) E s1) E s
  done:∀ (X:Cx),X.prog=P→X.w=w→X.K=K→X.calm=true→∀ (i:Nat) (pins:List (Addr×Obj)) (s:Shared) (σ:St) (H:Hp) (E:Value→Shared→Prop),Inv X pins σ H s→(∀ b∈fp,FpOk X pins H b)→tn i s.heap→J.stop i H →
    wpAny (model P w) X.A (pyNext (.ref it)) (fun r s1=>r=none∧Inv X pins σ H s1) E s
  self:∀ (A:Around) (i:Nat) (s:Shared) (Q:Value→Shared→Prop) (E:Value→Shared→Prop),tn i s.heap→Q (.ref it) s→wpAny (model P w) A (pyIter (.ref it)) Q E s
noncomputable abbrev TI:=St→Hp→(It→Hp→Prop)→Prop
noncomputable def PIE (X:Cx) (pins:List (Addr×Obj)) (σ:St) (tg:Expr) (R:It→Hp→Prop) (itv:Value) (s2:Shared):Prop :=
  ∃ (it:Addr) (fp:List Addr) (tn:Nat→Heap→Prop) (J:It) (H':Hp),itv=.ref it∧Inv X pins σ H' s2∧Turn X.prog X.w X.K tg J fp it tn∧tn 0 s2.heap∧(∀ b∈fp,FpOk X pins H' b)∧R J H'
noncomputable def PI (X:Cx) (tg iter:Expr) (wi:TI):Prop :=
  ∀ (pins:List (Addr×Obj)) (s:Shared) (σ:St) (H:Hp) (R:It→Hp→Prop),Inv X pins σ H s→wi σ H R →
    wpAny (model X.prog X.w) X.A (eval iter X.env) (fun v s1=>wpAny (model X.prog X.w) X.A (pyIter v) (PIE X pins σ tg R) X.xe s1) X.xe s
theorem go_of {M:Model} {A:Around} {E:Value→Shared→Prop} {s:Shared} {tg:Expr} {it:Addr} {u:Value} {o:Obj} {n:String} {vs:Array Value} {Q:Unit→Shared→Prop} (ho:s.heap.get? it=some o) (hc:o.cls=.type n) (hd:o.data=.fields vs)
    (hn:["enumerate","zip","dict_itemiterator","dict_reverseitemiterator","odict_iterator","itertools.zip_longest","itertools.pairwise"].contains n=false) (hQ:Q () s):wpAny M A (letOwnedTupleGo tg (.ref it) u) Q E s:=by
  unfold letOwnedTupleGo
  cases tg <;> first
    | exact wpAny_pure hQ
    | (cases u <;> first
        | exact wpAny_pure hQ
        | (refine wpAny_bind (wpAny_load ho ?_)
           rw [hc,hd]
           show wpAny M A (if (["enumerate","zip","dict_itemiterator","dict_reverseitemiterator","odict_iterator","itertools.zip_longest","itertools.pairwise"].contains n && vs[0]? == some (rawInt _))=true then _ else _) Q E s
           rw [if_neg (by intro h; rw [hn,Bool.false_and] at h; cases h)]
           exact wpAny_pure hQ))
noncomputable def Itl (K:PySem.W.Frag) (a:Addr):It :=
  ⟨fun i H=>∃ xs x,SqL K H a xs∧xs[i]?=some x,fun i H x H'=>H'=H∧∀ xs,SqL K H a xs→xs[i]?=some x,fun i H=>∃ xs,SqL K H a xs∧xs.length≤i⟩
noncomputable def Itt (K:PySem.W.Frag) (a:Addr):It :=
  ⟨fun i H=>∃ xs x,SqT K H a xs∧xs[i]?=some x,fun i H x H'=>H'=H∧∀ xs,SqT K H a xs→xs[i]?=some x,fun i H=>∃ xs,SqT K H a xs∧xs.length≤i⟩
noncomputable def Itr (lo:Int) (n:Nat):It:=⟨fun i _=>i < n,fun i H x H'=>H'=H∧x=.int (lo + i),fun i _=>n≤i⟩
theorem turn_list {P:Program} {w:World} {K:PySem.W.Frag} {tg:Expr} (a it:Addr):Turn P w K tg (Itl K a) [it] it (fun i h=>h.IsListIter it a i) where
  mem:=by simp
  obj:=fun i h st b hb=>by
    have e:b=it:=by simpa using hb
    subst e
    obtain ⟨o,e,c,d⟩:=st
    exact ⟨o,e,fun v z=>by rw [d] at z; cases z⟩
  keep:=fun i h h' st k=>st.at fun o e=>k it (by simp) o e
  item:=by
    intro X hP hw hK hc i pins s σ H E I hf st hg
    subst hP hw hK
    obtain ⟨xs,x,hq,hx⟩:=hg
    obtain ⟨its,rv,p,hz⟩:=I.list hq
    obtain ⟨u,hu,ru⟩:=rv.get hx
    obtain ⟨f0,f1,f2,f3,f4,f5⟩:=hf it (by simp)
    refine wpAny_pyNext_list_item st p.isList (x:=u) (by simpa using hu) fun h' st' sb=>?_
    have I1:Inv X pins σ H { s with heap:=h' }:=I.turned (t':=s.toks) (fun b o hb e=>(sb.2 b hb).trans e) f0 f1 f3 f4 f5
    obtain ⟨o,e,c,d⟩:=id st'
    exact ⟨u,rfl,go_of (s:={ s with heap:=h' }) e c d (by decide) ⟨x,H,I1,ru,⟨rfl,fun ys hy=>by rw [I.list_inj hy hq]; exact hx⟩,st',fun b hb=>(hf b hb).1⟩⟩
  done:=by
    intro X hP hw hK hc i pins s σ H E I hf st hg
    subst hP hw hK
    obtain ⟨xs,hq,hx⟩:=hg
    obtain ⟨its,rv,p,hz⟩:=I.list hq
    obtain ⟨f0,f1,f2,f3,f4,f5⟩:=hf it (by simp)
    have hl:=rv.length
    exact wpAny_pyNext_list_end (I.ok.hd hc) st p.isList (by simp; omega) fun h' eb=>⟨rfl,I.turned (t':=s.toks) (fun b o hb e=>eb b o hb e) f0 f1 f3 f4 f5⟩
  self:=fun _ _ _ _ _ st h=>wpAny_pyIter_listiter st h
theorem turn_tuple {P:Program} {w:World} {K:PySem.W.Frag} {tg:Expr} (a it:Addr):Turn P w K tg (Itt K a) [it] it (fun i h=>h.IsTupleIter it a i) where
  mem:=by simp
  obj:=fun i h st b hb=>by
    have e:b=it:=by simpa using hb
    subst e
    obtain ⟨o,e,c,d⟩:=st
    exact ⟨o,e,fun v z=>by rw [d] at z; cases z⟩
  keep:=fun i h h' st k=>st.at fun o e=>k it (by simp) o e
  item:=by
    intro X hP hw hK hc i pins s σ H E I hf st hg
    subst hP hw hK
    obtain ⟨xs,x,hq,hx⟩:=hg
    obtain ⟨its,rv,p,hz⟩:=I.tuple hq
    obtain ⟨u,hu,ru⟩:=rv.get hx
    obtain ⟨f0,f1,f2,f3,f4,f5⟩:=hf it (by simp)
    refine wpAny_pyNext_tuple_item st (show s.heap.IsTuple a its.toArray from p) (x:=u) (by simpa using hu) fun h' st' sb=>?_
    have I1:Inv X pins σ H { s with heap:=h' }:=I.turned (t':=s.toks) (fun b o hb e=>(sb.2 b hb).trans e) f0 f1 f3 f4 f5
    obtain ⟨o,e,c,d⟩:=id st'
    exact ⟨u,rfl,go_of (s:={ s with heap:=h' }) e c d (by decide) ⟨x,H,I1,ru,⟨rfl,fun ys hy=>by rw [I.tuple_inj hy hq]; exact hx⟩,st',fun b hb=>(hf b hb).1⟩⟩
  done:=by
    intro X hP hw hK hc i pins s σ H E I hf st hg
    subst hP hw hK
    obtain ⟨xs,hq,hx⟩:=hg
    obtain ⟨its,rv,p,hz⟩:=I.tuple hq
    obtain ⟨f0,f1,f2,f3,f4,f5⟩:=hf it (by simp)
    have hl:=rv.length
    exact wpAny_pyNext_tuple_end (I.ok.hd hc) st (show s.heap.IsTuple a its.toArray from p) (by simp; omega) fun h' eb=>⟨rfl,I.turned (t':=s.toks) (fun b o hb e=>eb b o hb e) f0 f1 f3 f4 f5⟩
  self:=fun _ _ _ _ _ st h=>wpAny_pyIter_tupleiter st h
theorem turn_range {P:Program} {w:World} {K:PySem.W.Frag} {tg:Expr} (it:Addr) (lo:Int) (n:Nat):Turn P w K tg (Itr lo n) [it] it (fun i h=>IsRangeIter h it (lo + (i:Nat) * 1) ((n:Int) - (i:Nat)) 1) where
  mem:=by simp
  obj:=fun i h st b hb=>by
    have e:b=it:=by simpa using hb
    subst e
    exact ⟨_,st,fun v z=>by
      have z':Data.fields _=Data.cell v:=z
      cases z'⟩
  keep:=fun i h h' st k=>k it (by simp) _ st
  item:=by
    intro X hP hw hK hc i pins s σ H E I hf st hg
    subst hP hw hK
    obtain ⟨f0,f1,f2,f3,f4,f5⟩:=hf it (by simp)
    have W:=Walks.range (prog:=X.prog) (w:=X.w) (I.ok.hd hc) it lo 1 n
    refine W.item i s _ _ hg st fun v h' tk hv st' kk=>?_
    obtain ⟨t,rfl⟩:=hv
    have I1:Inv X pins σ H { s with heap:=h',toks:=tk }:=I.turned (fun b o hb e=>kk b o (by simpa using hb) e) f0 f1 f3 f4 f5
    refine ⟨_,rfl,go_of (s:={ s with heap:=h',toks:=tk }) (n := "range_iterator") st' rfl rfl (by decide) ⟨.int (lo + i),H,I1,⟨t,?_⟩,⟨rfl,rfl⟩,st',fun b hb=>(hf b hb).1⟩⟩
    rw [Int.mul_one]
  done:=by
    intro X hP hw hK hc i pins s σ H E I hf st hg
    subst hP hw hK
    obtain ⟨f0,f1,f2,f3,f4,f5⟩:=hf it (by simp)
    exact wpAny_pyNext_range_end (I.ok.hd hc) st (by have:n≤i:=hg; omega) fun h' eb=>⟨rfl,I.turned (t':=s.toks) (fun b o hb e=>eb b o hb e) f0 f1 f3 f4 f5⟩
  self:=fun _ _ _ _ _ st h=>wpAny_pyIter_rangeiter st h
end L2
namespace L2
open PySem PySem.Spec PyProof.Rows
section
variable {X:Cx} {tg:Expr}
theorem range_it {pins:List (Addr×Obj)} {σ:St} {H:Hp} {s:Shared} {R:It→Hp→Prop} {E:Value→Shared→Prop} {lo hi:Int} {t u v:Tok} {tk:Nat} (I:Inv X pins σ H s) (h1:-(2 ^ 62)≤lo) (h2:lo < 2 ^ 62) (h3:-(2 ^ 62)≤hi) (h4:hi < 2 ^ 62)
    (q:R (Itr lo (hi - lo).toNat) H):wpAny (model X.prog X.w) X.A (pyIter (.ref s.heap.objs.size)) (PIE X pins σ tg R) E { s with heap:=s.heap.push { cls:=.type "range",data:=.fields #[.int lo t,.int hi u,.int 1 v] },toks:=tk }:=by
  refine wpAny_pyIter_range (IsRange.new ..) (small_one h1 h2 h3 h4) ?_
  have I1:Inv X pins σ H { s with heap:=s.heap.push { cls:=.type "range",data:=.fields #[.int lo t,.int hi u,.int 1 v] },toks:=tk }:=I.kept fun b o e=>Heap.get?_push_of_some _ e
  refine ⟨(s.heap.push { cls:=.type "range",data:=.fields #[.int lo t,.int hi u,.int 1 v] }).objs.size,[(s.heap.push { cls:=.type "range",data:=.fields #[.int lo t,.int hi u,.int 1 v] }).objs.size],_,_,H,rfl,
    I1.kept (t':=tk) fun b o e=>Heap.get?_push_of_some _ e,turn_range _ lo (hi - lo).toNat,?_,fun b hb=>?_,q⟩
  · have e1:lo + ((0:Nat):Int) * 1=lo:=by simp
    have e2:(((hi - lo).toNat:Nat):Int) - ((0:Nat):Int)=Builtin.Range.rangeSize lo hi 1:=by rw [rangeSize_one]; split <;> omega
    show IsRangeIter _ _ (lo + ((0:Nat):Int) * 1) ((((hi - lo).toNat:Nat):Int) - ((0:Nat):Int)) 1
    rw [e1,e2]
    exact Heap.get?_push_size _ rfl
  · have e:b=(s.heap.push { cls:=.type "range",data:=.fields #[.int lo t,.int hi u,.int 1 v] }).objs.size:=by simpa using hb
    subst e
    exact I1.fpOk (Nat.le_refl _) (I1.hok.fresh (Nat.le_refl _))
noncomputable def iRng1 (ta:TA):TI:=fun σ H R=>ta σ H fun vs H1=>∃ j:Int,vs=[.int j]∧-(2 ^ 62)≤j∧j < 2 ^ 62∧R (Itr 0 j.toNat) H1
noncomputable def iRng2 (ta:TA):TI:=fun σ H R=>ta σ H fun vs H1=>∃ i j:Int,vs=[.int i,.int j]∧(-(2 ^ 62)≤i∧i < 2 ^ 62∧-(2 ^ 62)≤j∧j < 2 ^ 62)∧R (Itr i (j - i).toNat) H1
theorem pi_range1 {a:Expr} {ta:TA} {p pos:Pos} (hg:Gl X "range") (hm:X.mg "range" = none) (ha:PA X [a] ta) (hs:starEach [a] X.env=[(false,eval a X.env)]:=by rfl):PI X tg (.Call (.Name "range" p) [a] [] pos) (iRng1 ta):=by
  intro pins s σ H R I h
  refine Call_ (ld_blt I hg hm boot_range (PyProof.Rows.callWith_type1 (thn (ha pos pins s σ H _ I h) fun us s1 ⟨vs,H1,I1,r1,q1⟩=>?_) hs rfl))
  obtain ⟨j,e,q1,q2,q⟩:=q1
  subst e
  cases r1 with
  | cons r rr =>
    cases rr
    obtain ⟨t,rfl⟩:=r
    exact call_range_1 (range_it I1 (by omega) (by omega) q1 q2 (by simpa using q))
theorem pi_range2 {a b:Expr} {ta:TA} {p pos:Pos} (hg:Gl X "range") (hm:X.mg "range" = none) (ha:PA X [a,b] ta) (hs:starEach [a,b] X.env=[(false,eval a X.env),(false,eval b X.env)]:=by rfl) (hs2:starEach [b] X.env=[(false,eval b X.env)]:=by rfl) :
    PI X tg (.Call (.Name "range" p) [a,b] [] pos) (iRng2 ta):=by
  intro pins s σ H R I h
  refine Call_ (ld_blt I hg hm boot_range (PyProof.Rows.callWith_type1 (thn (ha pos pins s σ H _ I h) fun us s1 ⟨vs,H1,I1,r1,q1⟩=>?_) (by rw [hs,hs2]) (by rw [hs2]; rfl)))
  obtain ⟨i,j,e,⟨q1,q2,q3,q4⟩,q⟩:=q1
  subst e
  cases r1 with
  | cons r rr =>
    cases rr with
    | cons r' rr =>
      cases rr
      obtain ⟨t,rfl⟩:=r
      obtain ⟨t',rfl⟩:=r'
      exact call_range_2 (range_it I1 q1 q2 q3 q4 q)
noncomputable def tFor (wi:TI) (g:TG) (tb:TS):TS:=fun D σ H=>wi σ H fun J H1=>∃ W:Nat→Nat→St→Hp→Prop,(∃ m,W 0 m σ H1)∧∀ i m σ H,W i m σ H →
  (J.stop i H∧D.nx σ H)∨(J.go i H∧∃ N:St→Hp→Prop,(∀ σ' H',N σ' H'→∃ m',m' < m∧W (i + 1) m' σ' H')∧∀ x H',J.yld i H x H'→g x σ H' fun σ2 H2=>tb { D with nx:=N,ct:=N,bk:=D.nx } σ2 H2)
noncomputable def pinsAt (fp:List Addr) (h:Heap):List (Addr×Obj):=fp.filterMap fun b=>(h.get? b).map fun o=>(b,o)
theorem mem_pinsAt {fp:List Addr} {h:Heap} {b:Addr} {o:Obj} (hb:b∈fp) (e:h.get? b=some o):(b,o)∈pinsAt fp h:=List.mem_filterMap.mpr ⟨b,hb,by rw [e]; rfl⟩
theorem of_pinsAt {fp:List Addr} {h:Heap} {p:Addr×Obj} (hp:p∈pinsAt fp h):p.1∈fp∧h.get? p.1=some p.2:=by
  obtain ⟨b,hb,e⟩:=List.mem_filterMap.mp hp
  cases q:h.get? b with
  | none=>rw [q] at e; cases e
  | some o =>
    rw [q] at e
    have e':(b,o)=p:=Option.some.inj e
    subst e'
    exact ⟨hb,q⟩
theorem Inv.pinned {pins:List (Addr×Obj)} {σ:St} {H:Hp} {s:Shared} {fp:List Addr} (I:Inv X pins σ H s) (hf:∀ b∈fp,FpOk X pins H b) (ho:∀ b∈fp,∃ o,s.heap.get? b=some o∧∀ v,o.data≠.cell v):Inv X (pins++pinsAt fp s.heap) σ H s :=
  I.pins_of fun p hp=>(List.mem_append.mp hp).elim (fun z=>I.pin p (List.mem_append_right _ z)) fun z=>by
    obtain ⟨hb,e⟩:=of_pinsAt z
    obtain ⟨f0,f1,f2,_⟩:=hf p.1 hb
    obtain ⟨o,e',d⟩:=ho p.1 hb
    rw [e] at e'; cases e'
    exact ⟨e,f0,f1,f2,d⟩
theorem Inv.unpinned {pins pl:List (Addr×Obj)} {σ:St} {H:Hp} {s:Shared} (I:Inv X (pins++pl) σ H s):Inv X pins σ H s:=I.pins_of fun p hp=>I.pin p (List.mem_append_right _ (List.mem_append_left _ hp))
theorem ps_for {iter:Expr} {body:List Stmt} {wi:TI} {g:TG} {tb:TS} {pos:Pos} (hp:PassesOwn (model X.prog X.w) X.A X.env X.xe) (hc:X.calm=true) (hi:PI X tg iter wi) (hg:PG X tg g) (hb:PSs X body tb)
    (hs:∀ x,foldedSetIterable iter X.env x=pure x:=by intro _; rfl):PS X (.For tg iter body [] pos) (tFor wi g tb):=by
  intro pins s σ H D I h
  refine wpAny_For (thn (hi pins s σ H _ I h) fun v s1 h1=>thn h1 fun itv s2 h2=>?_) hs
  obtain ⟨it,fp,tn,J,H2,e,I2,T,st2,f2,W,⟨m0,w0⟩,turn⟩:=h2
  subst e
  have stat:∀ {H':Hp},(∀ b∈fp,H' b=none)→∀ b∈fp,FpOk X pins H' b:=fun hn b hb=>⟨hn b hb,(f2 b hb).2⟩
  refine codeAny_forLoop_any (fun n s'=>∃ i σ' H',Inv X pins σ' H' s'∧tn i s'.heap∧(∀ b∈fp,H' b=none)∧W i n σ' H') ?_ m0 ⟨0,σ,H2,I2,st2,fun b hb=>(f2 b hb).1,w0⟩
  rintro n s3 ⟨i,σ3,H3,I3,st3,fr3,w3⟩
  rcases turn i n σ3 H3 w3 with ⟨stop,qn⟩ | ⟨go,N,hN,step⟩
  · refine wpAny_passesOwn hp (thn (T.done X rfl rfl rfl hc i pins s3 σ3 H3 X.xe I3 (stat fr3) st3 stop) fun r s4 ⟨hr,I4⟩=>?_)
    subst hr
    exact wpAny_execs_nil ⟨σ3,H3,I4,qn⟩
  · refine wpAny_passesOwn hp (thn (T.item X rfl rfl rfl hc i pins s3 σ3 H3 X.xe I3 (stat fr3) st3 go) fun r s4 ⟨u,hr,h4⟩=>?_)
    subst hr
    refine wpAny_passesOwn hp (thn h4 fun _ s5 ⟨x,H5,I5,r5,y5,st5,fr5⟩=>?_)
    have I5':=I5.pinned (stat fr5) (T.obj _ _ st5)
    refine wpAny_passesOwn hp (thn (hg _ s5 σ3 H5 x u _ I5' r5 (step x H5 y5)) fun _ s6 ⟨σ6,H6,I6,q6⟩=>?_)
    refine wpAny_passesOwn hp (thn (hb _ s6 σ6 H6 _ I6 q6) fun f s7 q7=>?_)
    have again:∀ {σ7:St} {H7:Hp},Inv X (pins++pinsAt fp s5.heap) σ7 H7 s7→N σ7 H7→∃ m,m < n∧∃ i σ' H',Inv X pins σ' H' s7∧tn i s7.heap∧(∀ b∈fp,H' b=none)∧W i m σ' H':=fun {σ7 H7} I7 n7=>by
      obtain ⟨m',hm,w7⟩:=hN σ7 H7 n7
      refine ⟨m',hm,i + 1,σ7,H7,I7.unpinned,T.keep _ _ _ st5 fun b hb o e=>(I7.pin (b,o) (List.mem_append_right _ (List.mem_append_right _ (mem_pinsAt hb e)))).1,fun b hb=>?_,w7⟩
      obtain ⟨o,e,d⟩:=T.obj _ _ st5 b hb
      exact (I7.pin (b,o) (List.mem_append_right _ (List.mem_append_right _ (mem_pinsAt hb e)))).2.1
    cases f with
    | next=>obtain ⟨σ7,H7,I7,n7⟩:=q7; exact again I7 n7
    | cont=>obtain ⟨σ7,H7,I7,n7⟩:=q7; exact again I7 n7
    | brk=>obtain ⟨σ7,H7,I7,q7⟩:=q7; exact ⟨σ7,H7,I7.unpinned,q7⟩
    | ret v=>obtain ⟨x7,σ7,H7,I7,r7,q7⟩:=q7; exact ⟨x7,σ7,H7,I7.unpinned,r7,q7⟩
end
end L2
namespace L2
open PySem PySem.Spec PyProof.Rows
noncomputable abbrev R2:=V→V→Hp→VK→Prop
noncomputable def OpR (X:Cx) (f:Value→Value→Sem Value) (r:R2):Prop :=
  ∀ (pins:List (Addr×Obj)) (s:Shared) (σ:St) (H:Hp) (x y:V) (v u:Value) (Q:VK),Inv X pins σ H s→RelV x v→RelV y u→r x y H Q →
    wpAny (model X.prog X.w) X.A (f v u) (EP X pins σ Q) X.xe s
noncomputable def UnR (X:Cx) (f:Value→Sem Value) (r:V→Hp→VK→Prop):Prop :=
  ∀ (pins:List (Addr×Obj)) (s:Shared) (σ:St) (H:Hp) (x:V) (v:Value) (Q:VK),Inv X pins σ H s→RelV x v→r x H Q →
    wpAny (model X.prog X.w) X.A (f v) (EP X pins σ Q) X.xe s
noncomputable def CallR (X:Cx) (f:Value) (r:List V→Hp→VK→Prop):Prop :=
  ∀ (pins:List (Addr×Obj)) (s:Shared) (σ:St) (H:Hp) (xs:List V) (us:List Value) (Q:VK),Inv X pins σ H s→Vals xs us→r xs H Q →
    wpAny (model X.prog X.w) X.A (call f us) (EP X pins σ Q) X.xe s
noncomputable def tOp (r:R2) (ta tb:TE):TE:=fun σ H Q=>ta σ H fun x H1=>tb σ H1 fun y H2=>r x y H2 Q
noncomputable def tUn (r:V→Hp→VK→Prop) (ta:TE):TE:=fun σ H Q=>ta σ H fun x H1=>r x H1 Q
noncomputable def rI (C:Int→Int→Prop) (g:Int→Int→V):R2:=fun x y H Q=>∃ i j,x=.int i∧y=.int j∧C i j∧Q (g i j) H
noncomputable def rI0 (g:Int→Int→V):R2:=fun x y H Q=>∃ i j,x=.int i∧y=.int j∧Q (g i j) H
noncomputable def rU (g:Int→V):V→Hp→VK→Prop:=fun x H Q=>∃ i,x=.int i∧Q (g i) H
section
variable {X:Cx} {a b c:Expr} {ta tb tc:TE} {pos:Pos}
theorem binT (ha:PE X a ta) (hb:PE X b tb) {pins:List (Addr×Obj)} {s:Shared} {σ:St} {H:Hp} {R:V→V→Hp→Prop} (I:Inv X pins σ H s)
    (h:ta σ H fun x H1=>tb σ H1 fun y H2=>R x y H2) {Q:Value→Shared→Prop} {f:Value→Value→Sem Value}
    (hf:∀ v u s2 x y H2,Inv X pins σ H2 s2→RelV x v→RelV y u→R x y H2→wpAny (model X.prog X.w) X.A (f v u) Q X.xe s2) :
    wpAny (model X.prog X.w) X.A (eval a X.env) (fun v s₁=>wpAny (model X.prog X.w) X.A (eval b X.env) (fun u s₂=>wpAny (model X.prog X.w) X.A (f v u) Q X.xe s₂) X.xe s₁) X.xe s:=by
  refine thn (ha pins s σ H _ I h) fun v s1 ⟨x,H1,I1,r1,q1⟩=>?_
  refine thn (hb pins s1 σ H1 _ I1 q1) fun u s2 ⟨y,H2,I2,r2,q2⟩=>?_
  exact hf v u s2 x y H2 I2 r1 r2 q2
theorem pe_op {op:Operator} {r:R2} (ho:OpR X (binaryOp op) r) (ha:PE X a ta) (hb:PE X b tb):PE X (.BinOp a op b pos) (tOp r ta tb):=by
  intro pins s σ H Q I h
  exact wpAny_BinOp (binT ha hb I h fun v u s2 x y H2 I2 rx ry q=>ho pins s2 σ H2 x y v u Q I2 rx ry q)
theorem pe_un {op:UnaryOp} {r:V→Hp→VK→Prop} (ho:UnR X (unaryOp op) r) (ha:PE X a ta):PE X (.UnaryOp op a pos) (tUn r ta):=by
  intro pins s σ H Q I h
  exact UnaryOp_ (thn (ha pins s σ H _ I h) fun v s1 ⟨x,H1,I1,r1,q1⟩=>ho pins s1 σ H1 x v Q I1 r1 q1)
theorem opI {f:Value→Value→Sem Value} {C:Int→Int→Prop} {g:Int→Int→Int}
    (rule:∀ (i j:Int) (t u:Tok) (s:Shared) (Q:Value→Shared→Prop) (E:Value→Shared→Prop),C i j→Q (.int (g i j) s.toks) { s with toks:=s.toks + 1 }→wpAny (model X.prog X.w) X.A (f (.int i t) (.int j u)) Q E s) :
    OpR X f (rI C fun i j=>.int (g i j)):=by
  intro pins s σ H x y v u Q I rx ry h
  obtain ⟨i,j,rfl,rfl,hc,q⟩:=h
  obtain ⟨t,rfl⟩:=rx
  obtain ⟨t',rfl⟩:=ry
  exact rule i j t t' s _ _ hc ⟨.int (g i j),H,I.tok _,⟨_,rfl⟩,q⟩
theorem opI0 {f:Value→Value→Sem Value} {g:Int→Int→Int}
    (rule:∀ (i j:Int) (t u:Tok) (s:Shared) (Q:Value→Shared→Prop) (E:Value→Shared→Prop),Q (.int (g i j) s.toks) { s with toks:=s.toks + 1 }→wpAny (model X.prog X.w) X.A (f (.int i t) (.int j u)) Q E s) :
    OpR X f (rI0 fun i j=>.int (g i j)):=by
  intro pins s σ H x y v u Q I rx ry h
  obtain ⟨i,j,rfl,rfl,q⟩:=h
  obtain ⟨t,rfl⟩:=rx
  obtain ⟨t',rfl⟩:=ry
  exact rule i j t t' s _ _ ⟨.int (g i j),H,I.tok _,⟨_,rfl⟩,q⟩
theorem opB0 {f:Value→Value→Sem Value} {g:Int→Int→Bool}
    (rule:∀ (i j:Int) (t u:Tok) (s:Shared) (Q:Value→Shared→Prop) (E:Value→Shared→Prop),Q (.bool (g i j)) s→wpAny (model X.prog X.w) X.A (f (.int i t) (.int j u)) Q E s) :
    OpR X f (rI0 fun i j=>.bl (g i j)):=by
  intro pins s σ H x y v u Q I rx ry h
  obtain ⟨i,j,rfl,rfl,q⟩:=h
  obtain ⟨t,rfl⟩:=rx
  obtain ⟨t',rfl⟩:=ry
  exact rule i j t t' s _ _ ⟨.bl (g i j),H,I,rfl,q⟩
noncomputable def CDiv (i j:Int):Prop:=0 < j∧j < 1073741824
noncomputable def CPow (i j:Int):Prop:=0≤j∧j≤1000000∧i.natAbs < 2 ^ 64
noncomputable def CMul (i j:Int):Prop:=(-(2 ^ 64) < i∧i < 2 ^ 64)∨(-(2 ^ 64) < j∧j < 2 ^ 64)
theorem CMul.ok {i j:Int} (h:CMul i j):IntMulOk i j:=by
  rcases h with ⟨h1,h2⟩ | ⟨h1,h2⟩
  · exact .of_left (intBits_le_64 h1 h2)
  · exact .of_right (intBits_le_64 h1 h2)
theorem op_add:OpR X (binaryOp .Add) (rI0 fun i j=>.int (i + j)):=opI0 fun _ _ _ _ _ _ _ q=>add_int q
theorem op_sub:OpR X (binaryOp .Sub) (rI0 fun i j=>.int (i - j)):=opI0 fun _ _ _ _ _ _ _ q=>sub_int q
theorem op_mul:OpR X (binaryOp .Mult) (rI CMul fun i j=>.int (i * j)):=opI fun _ _ _ _ _ _ _ hc q=>mul_int q hc.ok
theorem op_fdiv:OpR X (binaryOp .FloorDiv) (rI CDiv fun i j=>.int (i / j)):=opI fun i j _ _ _ _ _ hc q=>by
  have h1:(0:Int) < j:=hc.1
  have h2:j < 1073741824:=hc.2
  exact floordiv_int (by omega) (by rw [Int.fdiv_eq_ediv_of_nonneg i (by omega)]; exact q) (.inl (PyProof.noPylong_small (by omega)))
theorem op_mod:OpR X (binaryOp .Mod) (rI (fun _ j=>0 < j) fun i j=>.int (i % j)):=opI fun i j _ _ _ _ _ hc q=>by
  have h1:(0:Int) < j:=hc
  exact mod_int' (by omega) (by rw [Int.fmod_eq_emod_of_nonneg i (by omega)]; exact q)
theorem op_pow:OpR X (binaryOp .Pow) (rI CPow fun i j=>.int (i ^ j.toNat)):=opI fun _ _ _ _ _ _ _ hc q=>pow_int_small hc.1 hc.2.1 hc.2.2 q
theorem iop_mul:OpR X (inplaceOp .Mult) (rI CMul fun i j=>.int (i * j)):=opI fun _ _ _ _ _ _ _ hc q=>imul_int q hc.ok
theorem unI {f:Value→Sem Value} {g:Int→Int}
    (rule:∀ (i:Int) (t:Tok) (s:Shared) (Q:Value→Shared→Prop) (E:Value→Shared→Prop),Q (.int (g i) s.toks) { s with toks:=s.toks + 1 }→wpAny (model X.prog X.w) X.A (f (.int i t)) Q E s) :
    UnR X f (rU fun i=>.int (g i)):=by
  intro pins s σ H x v Q I rx h
  obtain ⟨i,rfl,q⟩:=h
  obtain ⟨t,rfl⟩:=rx
  exact rule i t s _ _ ⟨.int (g i),H,I.tok _,⟨_,rfl⟩,q⟩
theorem un_neg:UnR X (unaryOp .USub) (rU fun i=>.int (-i)):=unI fun _ _ _ _ _ q=>neg_int q
end
noncomputable def scal:V→V→Bool
  | .non,.non=>true | .non,.int _=>true | .int _,.non=>true | .non,.bl _=>true | .bl _,.non=>true | .non,.str _=>true | .str _,.non=>true
  | .int _,.int _=>true | .bl _,.bl _=>true | .str _,.str _=>true | .byt _,.byt _=>true
  | .int _,.str _=>true | .str _,.int _=>true | .bl _,.str _=>true | .str _,.bl _=>true
  | _,_=>false
noncomputable def rEq:R2:=fun x y H Q=>scal x y=true∧Q (.bl (decide (x=y))) H
noncomputable def rNe:R2:=fun x y H Q=>scal x y=true∧Q (.bl (!decide (x=y))) H
theorem dec_int {i j:Int}:decide (V.int i=V.int j)=(i == j):=by
  rw [Bool.eq_iff_iff]
  simp
theorem dec_bl {i j:Bool}:decide (V.bl i=V.bl j)=(i == j):=by
  rw [Bool.eq_iff_iff]
  simp
theorem dec_str {i j:Str}:decide (V.str i=V.str j)=(i == j):=by
  rw [Bool.eq_iff_iff]
  simp
theorem dec_byt {i j:Array UInt8}:decide (V.byt i=V.byt j)=(i.toList == j.toList):=by
  rw [Bool.eq_iff_iff]
  cases i
  cases j
  simp
section
variable {X:Cx} {a b c:Expr} {ta tb tc:TE} {pos:Pos}
theorem fin_bl {pins:List (Addr×Obj)} {σ:St} {H:Hp} {s:Shared} {Q:VK} {k k':Bool} (I:Inv X pins σ H s) (q:Q (.bl k) H) (e:k=k'):EP X pins σ Q (.bool k') s:=by
  subst e
  exact ⟨.bl k,H,I,rfl,q⟩
theorem op_eq:OpR X (compareOp .Eq) rEq:=by
  intro pins s σ H x y v u Q I rx ry h
  obtain ⟨hs,q⟩:=h
  cases x with
  | non =>
    cases rx
    cases y with
    | non=>cases ry; exact PySem.EqNone.eq_none_none (fin_bl I q (by simp))
    | bl j=>cases ry; exact PySem.EqNone.eq_none_bool (fin_bl I q (by simp))
    | int j=>obtain ⟨t',rfl⟩:=ry; exact PySem.EqNone.eq_none_int (fin_bl I q (by simp))
    | str j=>obtain ⟨t',rfl⟩:=ry; exact PySem.EqNone.eq_none_str (fin_bl I q (by simp))
    | _=>exact absurd (show false=true from hs) Bool.false_ne_true
  | bl i =>
    cases rx
    cases y with
    | non=>cases ry; exact PySem.EqNone.eq_bool_none (fin_bl I q (by simp))
    | bl j=>cases ry; exact eq_bool (fin_bl I q dec_bl)
    | str j=>obtain ⟨t',rfl⟩:=ry; exact PySem.EqMixed.eq_bool_str (fin_bl I q (by simp))
    | _=>exact absurd (show false=true from hs) Bool.false_ne_true
  | int i =>
    obtain ⟨t,rfl⟩:=rx
    cases y with
    | non=>cases ry; exact PySem.EqNone.eq_int_none (fin_bl I q (by simp))
    | int j=>obtain ⟨t',rfl⟩:=ry; exact eq_int (fin_bl I q dec_int)
    | str j=>obtain ⟨t',rfl⟩:=ry; exact PySem.EqMixed.eq_int_str (fin_bl I q (by simp))
    | _=>exact absurd (show false=true from hs) Bool.false_ne_true
  | str i =>
    obtain ⟨t,rfl⟩:=rx
    cases y with
    | non=>cases ry; exact PySem.EqNone.eq_str_none (fin_bl I q (by simp))
    | bl j=>cases ry; exact PySem.EqMixed.eq_str_bool (fin_bl I q (by simp))
    | int j=>obtain ⟨t',rfl⟩:=ry; exact PySem.EqMixed.eq_str_int (fin_bl I q (by simp))
    | str j=>obtain ⟨t',rfl⟩:=ry; exact eq_str (fin_bl I q dec_str)
    | _=>exact absurd (show false=true from hs) Bool.false_ne_true
  | byt i =>
    obtain ⟨t,rfl⟩:=rx
    cases y with
    | byt j=>obtain ⟨t',rfl⟩:=ry; exact PySem.W.eq_bytes (fin_bl I q dec_byt)
    | _=>exact absurd (show false=true from hs) Bool.false_ne_true
  | _=>cases y <;> exact absurd (show false=true from hs) Bool.false_ne_true
theorem op_ne:OpR X (compareOp .NotEq) rNe:=by
  intro pins s σ H x y v u Q I rx ry h
  obtain ⟨hs,q⟩:=h
  cases x with
  | non =>
    cases rx
    cases y with
    | non=>cases ry; exact PySem.EqNone.ne_none_none (fin_bl I q (by simp))
    | bl j=>cases ry; exact PySem.EqNone.ne_none_bool (fin_bl I q (by simp))
    | int j=>obtain ⟨t',rfl⟩:=ry; exact PySem.EqNone.ne_none_int (fin_bl I q (by simp))
    | str j=>obtain ⟨t',rfl⟩:=ry; exact PySem.EqNone.ne_none_str (fin_bl I q (by simp))
    | _=>exact absurd (show false=true from hs) Bool.false_ne_true
  | bl i =>
    cases rx
    cases y with
    | non=>cases ry; exact PySem.EqNone.ne_bool_none (fin_bl I q (by simp))
    | bl j=>cases ry; exact ne_bool (fin_bl I q (congrArg not dec_bl))
    | str j=>obtain ⟨t',rfl⟩:=ry; exact PySem.EqMixed.ne_bool_str (fin_bl I q (by simp))
    | _=>exact absurd (show false=true from hs) Bool.false_ne_true
  | int i =>
    obtain ⟨t,rfl⟩:=rx
    cases y with
    | non=>cases ry; exact PySem.EqNone.ne_int_none (fin_bl I q (by simp))
    | int j=>obtain ⟨t',rfl⟩:=ry; exact ne_int (fin_bl I q (congrArg not dec_int))
    | str j=>obtain ⟨t',rfl⟩:=ry; exact PySem.EqMixed.ne_int_str (fin_bl I q (by simp))
    | _=>exact absurd (show false=true from hs) Bool.false_ne_true
  | str i =>
    obtain ⟨t,rfl⟩:=rx
    cases y with
    | non=>cases ry; exact PySem.EqNone.ne_str_none (fin_bl I q (by simp))
    | bl j=>cases ry; exact PySem.EqMixed.ne_str_bool (fin_bl I q (by simp))
    | int j=>obtain ⟨t',rfl⟩:=ry; exact PySem.EqMixed.ne_str_int (fin_bl I q (by simp))
    | str j=>obtain ⟨t',rfl⟩:=ry; exact ne_str (fin_bl I q (congrArg not dec_str))
    | _=>exact absurd (show false=true from hs) Bool.false_ne_true
  | byt i =>
    obtain ⟨t,rfl⟩:=rx
    cases y with
    | byt j=>obtain ⟨t',rfl⟩:=ry; exact PySem.W.ne_bytes (fin_bl I q (congrArg not dec_byt))
    | _=>exact absurd (show false=true from hs) Bool.false_ne_true
  | _=>cases y <;> exact absurd (show false=true from hs) Bool.false_ne_true
theorem op_lt:OpR X (compareOp .Lt) (rI0 fun i j=>.bl (decide (i < j))):=opB0 fun _ _ _ _ _ _ _ q=>lt_int q
theorem op_le:OpR X (compareOp .LtE) (rI0 fun i j=>.bl (decide (i≤j))):=opB0 fun _ _ _ _ _ _ _ q=>le_int q
theorem op_gt:OpR X (compareOp .Gt) (rI0 fun i j=>.bl (decide (j < i))):=opB0 fun _ _ _ _ _ _ _ q=>gt_int q
theorem op_ge:OpR X (compareOp .GtE) (rI0 fun i j=>.bl (decide (j≤i))):=opB0 fun _ _ _ _ _ _ _ q=>ge_int q
theorem nomark (b:Expr) {op:CmpOp} (h:op≠.In:=by decide) (h2:op≠.NotIn:=by decide):behindInMarks op b=false:=by
  have e1:(op == CmpOp.In)=false:=by cases op <;> first | rfl | exact absurd rfl h
  have e2:(op == CmpOp.NotIn)=false:=by cases op <;> first | rfl | exact absurd rfl h2
  cases b <;> simp [behindInMarks,e1,e2]
theorem pe_cmpR {op:CmpOp} {r:R2} (ho:OpR X (compareOp op) r) (ha:PE X a ta) (hb:PE X b tb) (hm:behindInMarks op b=false):PE X (.Compare a [op] [b] pos) (tOp r ta tb):=by
  intro pins s σ H Q I h
  exact wpAny_Compare1 (binT ha hb I h fun v u s2 x y H2 I2 rx ry q=>ho pins s2 σ H2 x y v u Q I2 rx ry q) hm
noncomputable def tTest (t:TE):TT:=fun σ H Q=>t σ H fun x H'=>∃ k,x=.bl k∧Q k H'
theorem pt_cmpR {op:CmpOp} {r:R2} (ho:OpR X (compareOp op) r) (ha:PE X a ta) (hb:PE X b tb) (hm:behindInMarks op b=false):PT X (.Compare a [op] [b] pos) (tTest (tOp r ta tb)):=by
  intro pins s σ H Q I h
  refine wpAny_isTrue_Compare1 (thn (ha pins s σ H _ I h) fun v s1 ⟨x,H1,I1,r1,q1⟩=>thn (hb pins s1 σ H1 _ I1 q1) fun u s2 ⟨y,H2,I2,r2,q2⟩ =>
    thn (ho pins s2 σ H2 x y v u _ I2 r1 r2 q2) fun c s3 ⟨z,H3,I3,r3,k,e,q3⟩=>?_) hm
  subst e
  cases r3
  exact wpAny_truthy_bool ⟨H3,I3,q3⟩
noncomputable def tChain (r r':R2) (ta tb tc:TE):TE:=fun σ H Q=>ta σ H fun x H1=>tb σ H1 fun y H2=>r x y H2 fun z H3=>∃ k,z=.bl k ∧
  (if k=true then tc σ H3 fun w' H4=>r' y w' H4 Q else Q (.bl false) H3)
theorem pe_chain {op op':CmpOp} {r r':R2} (ho:OpR X (compareOp op) r) (ho':OpR X (compareOp op') r') (ha:PE X a ta) (hb:PE X b tb) (hc:PE X c tc)
    (hm:lastMarks [op,op'] [b,c]=false:=by with_unfolding_all rfl):PE X (.Compare a [op,op'] [b,c] pos) (tChain r r' ta tb tc):=by
  intro pins s σ H Q I h
  refine Compare_chain (thn (ha pins s σ H _ I h) fun v s1 ⟨x,H1,I1,r1,q1⟩=>chain_link (thn (hb pins s1 σ H1 _ I1 q1) fun u s2 ⟨y,H2,I2,r2,q2⟩ =>
    thn (ho pins s2 σ H2 x y v u _ I2 r1 r2 q2) fun d s3 ⟨z,H3,I3,r3,k,e,q3⟩=>?_)) hm
  subst e
  cases r3
  refine wpAny_truthy_bool ?_
  cases k with
  | false=>exact ite_ff ⟨.bl false,H3,I3,rfl,q3⟩
  | true=>exact ite_tt (chain_last (thn (hc pins s3 σ H3 _ I3 q3) fun w' s4 ⟨z',H4,I4,r4,q4⟩=>ho' pins s4 σ H4 y z' u w' Q I4 r2 r4 q4))
theorem pt_chain {op op':CmpOp} {r r':R2} (ho:OpR X (compareOp op) r) (ho':OpR X (compareOp op') r') (ha:PE X a ta) (hb:PE X b tb) (hc:PE X c tc)
    (hm:lastMarks [op,op'] [b,c]=false:=by with_unfolding_all rfl):PT X (.Compare a [op,op'] [b,c] pos) (tTest (tChain r r' ta tb tc)):=by
  intro pins s σ H Q I h
  refine isTrue_chain (thn (ha pins s σ H _ I h) fun v s1 ⟨x,H1,I1,r1,q1⟩=>test_link (thn (hb pins s1 σ H1 _ I1 q1) fun u s2 ⟨y,H2,I2,r2,q2⟩ =>
    thn (ho pins s2 σ H2 x y v u _ I2 r1 r2 q2) fun d s3 ⟨z,H3,I3,r3,k,e,q3⟩=>?_)) hm
  subst e
  cases r3
  refine wpAny_truthy_bool ?_
  cases k with
  | false =>
    obtain ⟨k',e',q'⟩:=q3
    cases e'
    exact ite_ff ⟨H3,I3,q'⟩
  | true =>
    refine ite_tt (test_last (thn (hc pins s3 σ H3 _ I3 q3) fun w' s4 ⟨z',H4,I4,r4,q4⟩=>thn (ho' pins s4 σ H4 y z' u w' _ I4 r2 r4 q4) fun d' s5 ⟨z2,H5,I5,r5,k2,e2,q5⟩=>?_))
    subst e2
    cases r5
    exact wpAny_truthy_bool ⟨H5,I5,q5⟩
theorem line63:(sizeLine:Nat) < 2 ^ 63:=by rw [sizeLine_eq]; decide
theorem op_add_str:OpR X (binaryOp .Add) (fun x y H Q=>∃ i j,x=.str i∧y=.str j∧i.length + j.length≤sizeLine∧Q (.str (i++j)) H):=by
  intro pins s σ H x y v u Q I rx ry h
  obtain ⟨i,j,rfl,rfl,hz,q⟩:=h
  obtain ⟨t,rfl⟩:=rx
  obtain ⟨t',rfl⟩:=ry
  exact add_str (fun t' tk=>⟨.str (i++j),H,I.tok _,⟨_,rfl⟩,q⟩) hz
theorem vals1 {x:V} {us:List Value} (r:Vals [x] us):∃ u,us=[u]∧RelV x u:=by
  cases r with
  | cons r1 r2=>cases r2; exact ⟨_,rfl,r1⟩
theorem call_abs:CallR X (.builtin "abs") (fun xs H Q=>∃ i,xs=[.int i]∧Q (.int (if i < 0 then -i else i)) H):=by
  intro pins s σ H xs us Q I r h
  obtain ⟨i,rfl,q⟩:=h
  obtain ⟨u,rfl,t,rfl⟩:=vals1 r
  exact call_abs_int fun u tk=>⟨.int (if i < 0 then -i else i),H,I.tok _,⟨_,rfl⟩,q⟩
theorem call_int1:CallR X (.type "int") (fun xs H Q=>(∃ i,xs=[.int i]∧Q (.int i) H)∨∃ k,xs=[.bl k]∧Q (.int (if k then 1 else 0)) H):=by
  intro pins s σ H xs us Q I r h
  rcases h with ⟨i,rfl,q⟩ | ⟨k,rfl,q⟩
  · obtain ⟨u,rfl,t,rfl⟩:=vals1 r
    exact call_int_int ⟨.int i,H,I,⟨_,rfl⟩,q⟩
  · obtain ⟨u,rfl,r1⟩:=vals1 r
    cases r1
    exact call_int_bool ⟨.int (if k then 1 else 0),H,I.tok _,⟨_,rfl⟩,q⟩
theorem call_str_int:CallR X (.type "str") (fun xs H Q=>∃ i,xs=[.int i]∧i.natAbs.log2 < 1920∧Q (.str (toString i)) H):=by
  intro pins s σ H xs us Q I r h
  obtain ⟨i,rfl,hz,q⟩:=h
  obtain ⟨u,rfl,t,rfl⟩:=vals1 r
  exact PySem.P.str_of_int hz ⟨.str _,H,I.tok _,⟨_,rfl⟩,q⟩
end
end L2
namespace L2
open PySem PySem.Spec PyProof.Rows
structure ObjM (h:Heap) (x dx C:Addr) (mA:Str→Option Value):Prop where
  obj:h.get? x=some (PySem.W.instObj C dx)
  ns:h.Ns1 dx mA
  ne:dx≠x
theorem lookIn_ns {h:Heap} {dx:Addr} {mA:Str→Option Value} (n:h.Ns1 dx mA):∃ od,h.get? dx=some od∧∀ name,PySem.W.lookIn name od=some (mA name):=by
  obtain ⟨o,es,ep,ho,hd,hk,_,hm⟩:=n
  refine ⟨o,ho,fun name=>?_⟩
  have e:=hm name
  unfold nsFind findBy at e
  rw [← Array.find?_toList] at e
  unfold PySem.W.lookIn
  rw [hd]
  dsimp only
  split
  · rename_i y q
    rw [q] at e
    exact congrArg some e
  · rename_i q
    rw [q] at e
    have a:es.toList.any (·.refKey)=false:=by
      rw [List.any_eq_false]
      intro y hy
      obtain ⟨z,t,hkey⟩:=hk y (Array.mem_toList_iff.mp hy)
      simp [DictEntry.refKey,hkey]
    have a':¬ es.toList.any (·.refKey)=true:=by rw [a]; exact Bool.false_ne_true
    rw [if_neg a']
    exact congrArg some e
theorem ObjM.look {h:Heap} {x dx C:Addr} {mA:Str→Option Value} (I:ObjM h x dx C mA):∃ od,PySem.W.InstAt h x (PySem.W.instObj C dx) C (some od)∧∀ name,PySem.W.lookIn name od=some (mA name) :=
  let ⟨od,ho,hl⟩:=lookIn_ns I.ns
  ⟨od,⟨I.obj,rfl,rfl,ho⟩,hl⟩
section
variable {prog:Program} {w:World} {A:Around} {E:Value→Shared→Prop} {s:Shared} {K:PySem.W.Frag} {x dx C f:Addr} {mA:Str→Option Value} {name:Str} {v:Value}
theorem get_map {expr:Bool} {Q:Value→Shared→Prop} (X:K.In s.heap) (I:ObjM s.heap x dx C mA) (hg:PySem.W.plainGet K C name=true) (hh:PySem.W.hasDictIn K C=true)
    (ha:PySem.W.findIn K (.ref C) name=some none) (hv:mA name=some v) (hv':PySem.W.handedIn v=true) (h:Q v { s with toks:=s.toks + 1 }) :
    wpAny (model prog w) A (getAttr (.ref x) name expr) Q E s:=by
  obtain ⟨od,J,hl⟩:=I.look
  exact PySem.W.get_value X J (PySem.W.plainGet_of hg).1 (PySem.W.findObj_own hh ha rfl (by rw [hl,hv])) hv' h
theorem set_map {ns:List Str} {Q:Unit→Shared→Prop} (X:K.In s.heap) (I:ObjM s.heap x dx C mA)
    (hs:PySem.W.findIn K (.ref C) "__setattr__" = some (some (.builtin "object.__setattr__"))) (hp:PySem.W.plainOver K C=true) (ht:PySem.W.takerIn K C name=some none) (hh:PySem.W.hasDictIn K C=true)
    (hw:PySem.Within mA ns) (hsz:ns.length≤sizeLine)
    (h:∀ h',ObjM h' x dx C (fun y=>if y=name then some v else mA y)→Heap.SameBut dx s.heap h'→Q () { s with heap:=h',toks:=s.toks + 2 }) :
    wpAny (model prog w) A (setAttr (.ref x) name v) Q E s:=by
  obtain ⟨od,J,hl⟩:=I.look
  refine PySem.W.set_plain X J hs (PySem.W.osa_open (s:={ s with toks:=s.toks + 1 }) (r:=none) X J hp ht fun b=>?_)
  obtain ⟨cd,hc,hd'⟩:=PySem.W.any_some hh
  have hx:s.heap.get? x=some ⟨.ref C,some dx,.plain,#[]⟩:=I.obj
  refine wpAny_bind (wpAny_pure (wpAny_bind (wpAny_bind (wpAny_loadPart hx (wpAny_bind (PySem.W.Looks.here (s:={ s with toks:=s.toks + 1 }) (PySem.W.looks_clsIn X hc) ?_))))))
  rw [hd']
  refine wpAny_pure (a:=some dx) (wpAny_bind (wpAny_pure (wpAny_bind ?_)))
  refine wpAny_nsSet1 (s:={ s with toks:=s.toks + 1 }) I.ns fun h' hn2 hs2=>?_
  obtain ⟨oD,esD,epD,hoD,hdD,hcD⟩:=hn2.count (PySem.Within.cons name v hw)
  refine wpAny_bind (wpAny_lookBehind hoD (by rw [hdD]; exact pastItsLine_dict (Nat.le_trans hcD (by rw [List.length_cons]; omega))) ?_)
  exact wpAny_pure (h _ ⟨(hs2.2 _ (Ne.symm I.ne)).trans I.obj,hn2,I.ne⟩ hs2)
theorem make_map {R:Result→Shared→Prop} {vs:List Value} {kw:List (Str×Value)} (X:K.In s.heap) (hm:PySem.W.makesIn K C=true)
    (hi:PySem.W.findIn K (.ref C) "__init__" = some (some (.ref f))) (hf:PySem.W.typeIn K (.ref f)=some (.type "function"))
    (h:codeAny (model prog w) (A.under (.builtin "type.__call__" ⟨.ref C :: vs,kw⟩)) (.call (.ref f) ⟨.ref (s.heap.objs.size + 1) :: vs,kw⟩) (PySem.W.InitBack (s.heap.objs.size + 1) R)
      { s with heap:=(s.heap.push PySem.W.emptyDict).push (PySem.W.instObj C s.heap.objs.size) }) :
    codeAny (model prog w) A (.call (.ref C) ⟨vs,kw⟩) R s:=by
  obtain ⟨hh,g,d,t,os⟩:=s
  exact PySem.W.make_core (PySem.W.makes_of X hm) (PySem.W.looks_findIn X hi) (fun self=>PySem.W.bind_fn X self hf) (.inl rfl) h
end
noncomputable def putF (f:Str) (v:V):List (Str×V)→List (Str×V)
  | []=>[(f,v)]
  | (g,x) :: r=>if g=f then (g,v) :: r else (g,x) :: putF f v r
theorem lookup_putF (f g:Str) (v:V):∀ fs:List (Str×V),(putF f v fs).lookup g=if g=f then some v else fs.lookup g
  | []=>by
    show List.lookup g [(f,v)]=_
    by_cases h:g=f
    · have hb:(g == f)=true:=beq_iff_eq.mpr h
      simp only [List.lookup,hb,if_pos h]
    · have hb:(g == f)=false:=beq_eq_false_iff_ne.mpr h
      simp only [List.lookup,hb,if_neg h]
  | (k,x) :: r=>by
    have ih:=lookup_putF f g v r
    rw [show putF f v ((k,x) :: r)=(if k=f then (k,v) :: r else (k,x) :: putF f v r) from rfl]
    by_cases hk:k=f
    · rw [if_pos hk]
      by_cases h:g=k
      · have hb:(g == k)=true:=beq_iff_eq.mpr h
        simp only [List.lookup,hb,if_pos (h.trans hk)]
      · have hb:(g == k)=false:=beq_eq_false_iff_ne.mpr h
        simp only [List.lookup,hb,if_neg (fun e:g=f=>h (e.trans hk.symm))]
    · rw [if_neg hk]
      by_cases h:g=k
      · have hb:(g == k)=true:=beq_iff_eq.mpr h
        simp only [List.lookup,hb,if_neg (fun e:g=f=>hk (h.symm.trans e))]
      · have hb:(g == k)=false:=beq_eq_false_iff_ne.mpr h
        simp only [List.lookup,hb]
        exact ih
theorem keys_putF (f:Str) (v:V):∀ fs:List (Str×V),f∈(putF f v fs).map (·.1)∧∀ g,g∈fs.map (·.1)→g∈(putF f v fs).map (·.1)
  | []=>⟨by simp [putF],fun g h=>by simp at h⟩
  | (k,x) :: r=>by
    obtain ⟨i1,i2⟩:=keys_putF f v r
    rw [show putF f v ((k,x) :: r)=(if k=f then (k,v) :: r else (k,x) :: putF f v r) from rfl]
    by_cases hk:k=f
    · rw [if_pos hk]
      subst hk
      exact ⟨by simp,fun g h=>by simpa using h⟩
    · rw [if_neg hk]
      refine ⟨?_,fun g h=>?_⟩
      · rw [List.map_cons]
        exact List.mem_cons_of_mem _ i1
      · rw [List.map_cons] at h ⊢
        rcases List.mem_cons.mp h with e | e
        · exact List.mem_cons.mpr (.inl e)
        · exact List.mem_cons_of_mem _ (i2 g e)
theorem length_putF (f:Str) (v:V):∀ fs:List (Str×V),(putF f v fs).length≤fs.length + 1
  | []=>by simp [putF]
  | (k,x) :: r=>by
    have ih:=length_putF f v r
    rw [show putF f v ((k,x) :: r)=(if k=f then (k,v) :: r else (k,x) :: putF f v r) from rfl]
    by_cases hk:k=f
    · rw [if_pos hk,List.length_cons,List.length_cons]; omega
    · rw [if_neg hk,List.length_cons,List.length_cons]; omega
theorem RelO.some_of {v:V} {o:Option Value} (r:RelO (some v) o):∃ u,o=some u∧RelV v u:=by
  cases o with
  | none=>exact (show False from r).elim
  | some u=>exact ⟨u,rfl,r⟩
theorem handed_of {v:V} {u:Value} (r:RelV v u):PySem.W.handedIn u=true:=by
  cases v with
  | non=>cases (show u=Value.none from r); rfl
  | bl b=>cases (show u=Value.bool b from r); rfl
  | int i=>obtain ⟨t,e⟩:=(show ∃ t,u=Value.int i t from r); cases e; rfl
  | str x=>obtain ⟨t,e⟩:=(show ∃ t,u=Value.str x t from r); cases e; rfl
  | byt b=>obtain ⟨t,e⟩:=(show ∃ t,u=Value.bytes b t from r); cases e; rfl
  | flt b=>obtain ⟨t,e⟩:=(show ∃ t,u=Value.float b t from r); cases e; rfl
  | ref a=>cases (show u=Value.ref a from r); rfl
  | ty n=>cases (show u=Value.type n from r); rfl
section
variable {P:Program} {w:World} {H H':Hp} {h h':Heap} {a C dx:Addr} {fs fs':List (Str×V)}
theorem ins_get (hok:HOk P w H h) (e:H a=some (.ins C dx fs)):∃ mA,ObjM h a dx C mA∧(∀ f,RelO (fs.lookup f) (mA f))∧PySem.Within mA (fs.map (·.1))∧fs.length≤1000∧H dx=some (.own a):=by
  obtain ⟨d,z,ne,ob,mA,n,r,q⟩:=(show ObjOk P w H h a (.ins C dx fs) from hok a _ e)
  exact ⟨mA,⟨ob,n,ne⟩,r,q,z,d⟩
end
structure Cls (K:PySem.W.Frag) (C:Addr):Prop where
  pg:PySem.W.plainGet K C Str.empty=true
  hd:PySem.W.hasDictIn K C=true
  po:PySem.W.plainOver K C=true
  sa:PySem.W.findIn K (.ref C) "__setattr__" = some (some (.builtin "object.__setattr__"))
theorem Cls.get {K:PySem.W.Frag} {C:Addr} (c:Cls K C) (f:Str):PySem.W.plainGet K C f=true:=c.pg
noncomputable def NoAttr (K:PySem.W.Frag) (C:Addr) (f:Str):Prop:=PySem.W.findIn K (.ref C) f=some none
theorem NoAttr.taker {K:PySem.W.Frag} {C:Addr} {f:Str} (n:NoAttr K C f):PySem.W.takerIn K C f=some none:=by
  unfold PySem.W.takerIn
  rw [show PySem.W.findIn K (.ref C) f=some none from n]
  rfl
structure Con (K:PySem.W.Frag) (C:Addr) (f:Str) (v:V) (u:Value):Prop where
  at_:PySem.W.findIn K (.ref C) f=some (some u)
  rel:RelV v u
  get:PySem.W.specialIn K u "__get__" = some none
  cp:PySem.W.copiedNames.contains f=false
structure Meth (K:PySem.W.Frag) (C:Addr) (m:Str) (f:Addr):Prop where
  at_:PySem.W.findIn K (.ref C) m=some (some (.ref f))
  fn:PySem.W.isFn K (.ref f)=true
  kp:PySem.W.keepIn K (.ref f)=true
section
variable {X:Cx} {pins:List (Addr×Obj)} {σ:St} {H:Hp} {s:Shared} {a C dx:Addr} {fs:List (Str×V)} {f:Str} {v:V} {A:Around} {E:Value→Shared→Prop}
theorem getattr_ok {b:Bool} {Q:Value→Shared→Prop} (I:Inv X pins σ H s) (e:H a=some (.ins C dx fs)) (c:Cls X.K C) (n:NoAttr X.K C f) (l:fs.lookup f=some v)
    (h:∀ u s',Inv X pins σ H s'→RelV v u→Q u s'):wpAny (model X.prog X.w) A (getAttr (.ref a) f b) Q E s:=by
  obtain ⟨mA,O,r,_,_,_⟩:=ins_get I.hok e
  obtain ⟨u,hu,ru⟩:=RelO.some_of (v:=v) (o:=mA f) (by rw [← l]; exact r f)
  exact get_map I.kIn O (c.get f) c.hd n hu (handed_of ru) (h u _ (I.tok _) ru)
theorem setattr_ok {y:V} {u:Value} {Q:Unit→Shared→Prop} (I:Inv X pins σ H s) (e:H a=some (.ins C dx fs)) (c:Cls X.K C) (n:NoAttr X.K C f) (hl:fs.length < 1000) (ry:RelV y u)
    (h:∀ s',Inv X pins σ (upd H a (.ins C dx (putF f y fs))) s'→Q () s'):wpAny (model X.prog X.w) A (setAttr (.ref a) f u) Q E s:=by
  obtain ⟨mA,O,r,wi,_,ho⟩:=ins_get I.hok e
  have hz:(fs.map (·.1)).length≤sizeLine:=by rw [List.length_map,sizeLine_eq]; omega
  refine set_map I.kIn O c.sa c.po n.taker c.hd wi hz fun h' O' sb=>h _ ?_
  have hd:∃ o,h'.get? dx=some o:=let ⟨o,_,_,e',_⟩:=O'.ns; ⟨o,e'⟩
  refine I.write (x:=a) (e:=dx) (by rw [e]; exact True.intro) (.inr ho) (fun b q hb z=>(sb.2 b hb).trans z) hd ?_
  refine ⟨by rw [upd_ne O.ne]; exact ho,?_,O.ne,O'.obj,_,O'.ns,fun g=>?_,fun g hg=>?_⟩
  · have:=length_putF f y fs; omega
  · show RelO ((putF f y fs).lookup g) (if g=f then some u else mA g)
    rw [lookup_putF]
    by_cases q:g=f
    · rw [if_pos q,if_pos q]; exact ry
    · rw [if_neg q,if_neg q]; exact r g
  · by_cases q:g=f
    · rw [q]; exact (keys_putF f y fs).1
    · refine (keys_putF f y fs).2 g (wi g fun z=>hg ?_)
      show (if g=f then some u else mA g)=none
      rw [if_neg q]; exact z
theorem Inv.made (I:Inv X pins σ H s):Inv X pins σ (upd (upd H s.heap.objs.size (.own (s.heap.objs.size + 1))) (s.heap.objs.size + 1) (.ins C s.heap.objs.size []))
    { s with heap:=(s.heap.push PySem.W.emptyDict).push (PySem.W.instObj C s.heap.objs.size) }:=by
  have e1:(s.heap.push PySem.W.emptyDict).get? s.heap.objs.size=some PySem.W.emptyDict:=Heap.get?_push_size s.heap rfl
  have e2:((s.heap.push PySem.W.emptyDict).push (PySem.W.instObj C s.heap.objs.size)).get? (s.heap.objs.size + 1)=some (PySem.W.instObj C s.heap.objs.size):=by
    have:=Heap.get?_push_size (s.heap.push PySem.W.emptyDict) (o:=PySem.W.instObj C s.heap.objs.size) rfl
    rwa [Heap.size_push] at this
  have e3:(s.heap.push PySem.W.emptyDict).Ns s.heap.objs.size (fun _=>none):=⟨PySem.W.emptyDict,#[],_,e1,rfl,(fun e he=>absurd he (by simp)),fun _=>rfl⟩
  have I1:=I.laid (a:=s.heap.objs.size) (o:=.own (s.heap.objs.size + 1)) (h':=s.heap.push PySem.W.emptyDict) (t':=s.toks) (fun b u q=>Heap.get?_push_of_some _ q) (Nat.le_refl _) ⟨_,e1⟩
  refine I1.laid (a:=s.heap.objs.size + 1) (o:=.ins C s.heap.objs.size []) (t':=s.toks) (fun b u q=>Heap.get?_push_of_some _ q) (Nat.le_of_eq (Heap.size_push _ _)) ?_
  have ne:s.heap.objs.size≠s.heap.objs.size + 1:=Nat.ne_of_lt (Nat.lt_succ_self _)
  refine ⟨by rw [upd_ne ne,upd_same],Nat.zero_le _,ne,e2,fun _=>none,(Heap.Ns1.of_empty e3).at fun o q=>Heap.get?_push_of_some _ q,fun _=>True.intro,fun y hy=>absurd rfl hy⟩
theorem attr_of {prog:Program} {w:World} {env:Env} {e:Expr} {f:Str} {pos:Pos} {s:Shared} {Q:Value→Shared→Prop} (hb:attributeBase e f env (eval e env)=eval e env)
    (h:wpAny (model prog w) A (eval e env) (fun o s₁=>wpAny (model prog w) A (getAttr o f true) Q E s₁) E s):wpAny (model prog w) A (eval (.Attribute e f pos) env) Q E s :=
  Attribute_any_ h (by rw [arm_eval_Attribute,hb])
end
noncomputable def tFld (K:PySem.W.Frag) (ta:TE) (f:Str):TE:=fun σ H Q=>ta σ H fun x H1=>∃ a C dx fs v,x=.ref a∧H1 a=some (.ins C dx fs)∧Cls K C∧NoAttr K C f∧fs.lookup f=some v∧Q v H1
noncomputable def sFld (K:PySem.W.Frag) (ta tv:TE) (f:Str):TS:=fun D σ H=>tv σ H fun y H1=>ta σ H1 fun x H2=>∃ a C dx fs,x=.ref a∧H2 a=some (.ins C dx fs)∧Cls K C∧NoAttr K C f∧fs.length < 1000 ∧
  D.nx σ (upd H2 a (.ins C dx (putF f y fs)))
section
variable {X:Cx} {o e value:Expr} {f:Str} {pos pos' tpos:Pos} {ta tv:TE}
theorem pe_fld (he:PE X e ta) (hb:attributeBase e f X.env (eval e X.env)=eval e X.env):PE X (.Attribute e f pos) (tFld X.K ta f):=by
  intro pins s σ H Q I h
  refine attr_of hb (thn (he pins s σ H _ I h) fun u s1 ⟨x,H1,I1,rx,a,C,dx,fs,v,ex,ea,c,n,l,q⟩=>?_)
  subst ex
  obtain rfl:u=Value.ref a:=rx
  exact getattr_ok I1 ea c n l fun u' s2 I2 ru=>⟨v,H1,I2,ru,q⟩
theorem ps_fld (ha:PE X o ta) (hv:PE X value tv) (hs:swapsWith value (some (.Attribute o f pos')) pos.line X.env=pure false):PS X (.Assign [.Attribute o f pos'] value pos) (sFld X.K ta tv f):=by
  intro pins s σ H D I h
  refine plainObj_wpAny_Assign_Attribute (thn (hv pins s σ H _ I h) fun u s1 ⟨y,H1,I1,ry,q⟩=>thn (ha pins s1 σ H1 _ I1 q) fun ov s2 ⟨x,H2,I2,rx,a,C,dx,fs,ex,ea,c,n,l,q2⟩=>?_) hs
  subst ex
  obtain rfl:ov=Value.ref a:=rx
  exact setattr_ok I2 ea c n l ry fun s3 I3=>⟨σ,_,I3,q2⟩
end
section
variable {X:Cx} {pins:List (Addr×Obj)} {σ:St} {H:Hp} {s:Shared} {A:Around} {E:Value→Shared→Prop} {Q:Value→Shared→Prop} {c:Value} {b:Bool}
inductive TyOf (K:PySem.W.Frag) (H:Hp):V→Value→Prop where
  | non:TyOf K H .non (.type "NoneType")
  | bl (x:Bool):TyOf K H (.bl x) (.type "bool")
  | int (i:Int):TyOf K H (.int i) (.type "int")
  | str (x:Str):TyOf K H (.str x) (.type "str")
  | flt (x:UInt64):TyOf K H (.flt x) (.type "float")
  | lst {a:Addr} {xs:List V} (e:H a=some (.lst xs)):TyOf K H (.ref a) (.type "list")
  | frz {a:Addr} {o:Obj} {xs:List V} (e:H a=some (.frz o (.lst xs))):TyOf K H (.ref a) (.type "list")
  | tup {a:Addr} {xs:List V} (e:H a=some (.tup xs)):TyOf K H (.ref a) (.type "tuple")
  | dK {a:Addr} {kvs:List (Key×V)} (e:H a=some (.dK kvs)):TyOf K H (.ref a) (.type "dict")
  | dT {a:Addr} {kvs:List (List Key×V)} (e:H a=some (.dT kvs)):TyOf K H (.ref a) (.type "dict")
  | ins {a C dx:Addr} {fs:List (Str×V)} (e:H a=some (.ins C dx fs)) (cl:Cls K C) (ha:PySem.W.findIn K (.ref C) "__class__" = some (some (.builtin "object.__class__")))
      (hn:PySem.W.specialIn K (.builtin "object.__class__") "__get__" = some (some (.builtin "getset_descriptor.__get__"))) (htk:PySem.W.takesIn K (.builtin "object.__class__")=some true)
      (hm:PySem.W.mroIn K C (.type "object")=some true):TyOf K H (.ref a) (.ref C)
end
end L2
namespace L2
open PySem PySem.Spec PyProof.Rows
structure Room (k:Nat) (A:Around):Prop where
  hd:A.handled=none
  dp:A.depth + 3 * k + 5 < recursionLimit
  un:A.units + 16 * k + 200 < cLine
theorem Room.mono {j k:Nat} {A:Around} (r:Room k A) (h:j≤k):Room j A:=⟨r.hd,by have:=r.dp; omega,by have:=r.un; omega⟩
theorem Room.deeper {k:Nat} {A:Around} (r:Room (k + 1) A) (env:Env):Room k (A.deeper env) :=
  ⟨r.hd,by have:=r.dp; show A.depth + 1 + 3 * k + 5 < _; omega,by have:=r.un; show A.units + 3 + 16 * k + 200 < _; omega⟩
theorem make_depth {A:Around} {C:Addr} {us:List Value} {kw:List (Str×Value)}:(A.under (.builtin "type.__call__" ⟨.ref C :: us,kw⟩)).depth=A.depth + 1:=by
  first | rfl | simp [Around.under,Code.weight,Code.isCreation,Code.isGuard,Code.isCaller,Code.frames,Code.isFrame,guardIds]
theorem make_units {A:Around} {C:Addr} {us:List Value} {kw:List (Str×Value)}:(A.under (.builtin "type.__call__" ⟨.ref C :: us,kw⟩)).units=A.units + 1:=by
  first | rfl | simp [Around.under,Code.cUnits,Code.frames,Code.isFrame]
theorem Room.make {k:Nat} {A:Around} (r:Room (k + 1) A) (C:Addr) (us:List Value) (kw:List (Str×Value)):Room k (A.under (.builtin "type.__call__" ⟨.ref C :: us,kw⟩)) :=
  ⟨r.hd,by have:=r.dp; rw [make_depth]; omega,by have:=r.un; rw [make_units]; omega⟩
theorem Room.depth {k:Nat} {A:Around} (r:Room k A):A.depth < recursionLimit:=by have:=r.dp; omega
theorem Room.units0 {k:Nat} {A:Around} (r:Room k A):A.units < cLine:=by have:=r.un; omega
noncomputable def tNil:TA:=fun _ H Q=>Q [] H
noncomputable def tCons (ta:TE) (tr:TA):TA:=fun σ H Q=>ta σ H fun x H1=>tr σ H1 fun xs H2=>Q (x :: xs) H2
section
variable {X:Cx} {e:Expr} {es:List Expr} {te:TE} {t:TA} {pos:Pos}
theorem pa_nil:PA X [] tNil:=fun _ _ _ _ H Q I h=>Calls.spliced_nil ⟨[],H,I,.nil,h⟩
theorem pa_cons (ha:PE X e te) (hr:PA X es t) (hs:starEach (e :: es) X.env=(false,eval e X.env) :: starEach es X.env:=by rfl):PA X (e :: es) (tCons te t):=by
  intro pos pins s σ H Q I h
  rw [hs]
  show wpAny _ _ (spliced ((false,eval e X.env) :: backTo pos (starEach es X.env))) _ _ s
  refine Calls.spliced_cons (thn (ha pins s σ H _ I h) fun u s1 ⟨x,H1,I1,r1,q1⟩=>?_)
  exact thn (hr pos pins s1 σ H1 _ I1 q1) fun us s2 ⟨xs,H2,I2,r2,q2⟩=>⟨x :: xs,H2,I2,.cons r1 r2,q2⟩
noncomputable def tTup (t:TA):TE:=fun σ H Q=>t σ H fun xs H1=>xs.length≤sizeLine∧∀ p,H1 p=none→Q (.ref p) (upd H1 p (.tup xs))
noncomputable def tLst (t:TA):TE:=fun σ H Q=>t σ H fun xs H1=>xs.length≤sizeLine∧∀ p,H1 p=none→Q (.ref p) (upd H1 p (.lst xs))
theorem pe_tup {x1} (h:PA X es t):PE X (.Tuple es x1 pos) (tTup t):=by
  intro pins s σ H Q I hq
  refine wpAny_Tuple_spliced (thn (h pos pins s σ H _ I hq) fun us s1 ⟨xs,H1,I1,r,z,q⟩=>⟨by rw [← r.length]; exact z,?_⟩)
  have hf:H1 s1.heap.objs.size=none:=I1.hok.fresh (Nat.le_refl _)
  refine ⟨.ref s1.heap.objs.size,upd H1 s1.heap.objs.size (.tup xs),I1.laid (t':=s1.toks) (fun b u e=>Heap.get?_push_of_some _ e) (Nat.le_refl _) ?_,rfl,q _ hf⟩
  exact ⟨z,us,r,⟨_,Heap.get?_push_size _ rfl,rfl,_,rfl⟩⟩
theorem pe_lst (h:PA X es t):PE X (.List es pos) (tLst t):=by
  intro pins s σ H Q I hq
  refine wpAny_List_spliced (thn (h pos pins s σ H _ I hq) fun us s1 ⟨xs,H1,I1,r,z,q⟩=>⟨by rw [← r.length]; exact z,?_⟩)
  have hf:H1 s1.heap.objs.size=none:=I1.hok.fresh (Nat.le_refl _)
  refine ⟨.ref s1.heap.objs.size,upd H1 s1.heap.objs.size (.lst xs),I1.laid (t':=s1.toks) (fun b u e=>Heap.get?_push_of_some _ e) (Nat.le_refl _) ?_,rfl,q _ hf⟩
  exact ⟨z,us,0,r,Heap.get?_push_size _ rfl⟩
end
noncomputable abbrev Sp:=List V→Hp→VK→XK→Prop
noncomputable abbrev CXT:=List Env→Hp→Shared→XK→Value→Shared→Prop
structure Env0 (P:Program) (w:World) (K:PySem.W.Frag) (mg:Str→Option Value) (base:Heap) (A:Around) (outer:List Env) (s:Shared) (H:Hp):Prop where
  frames:A.frames=some outer
  mod:Mod K mg base
  bs:∀ b o,base.get? b=some o→s.heap.get? b=some o∧H b=none
  bsz:base.objs.size≤s.heap.objs.size
  funs:s.heap.FunFrames base outer
  frf:∀ b∈frs outer,H b=none
  hok:HOk P w H s.heap
  bare:AllBare s.gens
noncomputable def CE (outer:List Env) (P:Program) (w:World) (H:Hp) (s:Shared) (Q:VK) (u:Value) (s':Shared):Prop :=
  ∃ v H',s'.os=s.os∧AllBare s'.gens∧Un (frs outer) [] H H' s.heap s'.heap∧HOk P w H' s'.heap∧RelV v u∧Q v H'
noncomputable def CR (CX:CXT) (outer:List Env) (P:Program) (w:World) (H:Hp) (s:Shared) (Q:VK) (E:XK) (r:Result) (s':Shared):Prop :=
  match r with
  | .ok (.ret u)=>CE outer P w H s Q u s'
  | .ok _=>False
  | .error e=>CX outer H s E e s'
structure FnOk (P:Program) (w:World) (K:PySem.W.Frag) (mg:Str→Option Value) (base:Heap) (CX:CXT) (k:Nat) (f:Addr) (fd:FuncData) (ps:List Str) (sp:Sp):Prop where
  len:∀ vs H Q E,sp vs H Q E→vs.length=ps.length
  run:∀ (A:Around) (outer:List Env) (s:Shared) (H:Hp) (args:Args) (us:List Value) (vs:List V) (Q:VK) (E:XK),Room k A→Env0 P w K mg base A outer s H→BindsTo s fd args (ps.zip us)→Vals vs us→sp vs H Q E →
    codeAny (model P w) A (.call (.ref f) args) (CR CX outer P w H s Q E) s
theorem Env0.make {P:Program} {w:World} {K:PySem.W.Frag} {mg:Str→Option Value} {base:Heap} {A:Around} {outer:List Env} {s:Shared} {H:Hp} (e:Env0 P w K mg base A outer s H) (C:Addr) (us:List Value) (kw:List (Str×Value)) :
    Env0 P w K mg base (A.under (.builtin "type.__call__" ⟨.ref C :: us,kw⟩)) outer s H:=⟨by first | exact e.frames | (simpa [Around.under,Code.envs,Code.isFrame,pushEnvs] using e.frames),e.mod,e.bs,e.bsz,e.funs,e.frf,e.hok,e.bare⟩
section
variable {X:Cx} {pins:List (Addr×Obj)} {σ:St} {H:Hp} {s s':Shared}
theorem Inv.env0 (I:Inv X pins σ H s):Env0 X.prog X.w X.K X.mg X.base X.A X.stack s H :=
  ⟨I.ok.frames,I.ok.mod,I.bs,Nat.le_trans I.ok.bsz I.sz,I.stack,I.stkFree,I.hok,I.bare⟩
theorem Inv.after {Q:VK} {u:Value} (I:Inv X pins σ H s) (h:CE X.stack X.prog X.w H s Q u s'):EP X pins σ Q u s':=by
  obtain ⟨v,H',os,bare,un,hok,r,q⟩:=h
  obtain ⟨hh,g,d,t,os'⟩:=s'
  obtain rfl:os'=s.os:=os
  exact ⟨v,H',I.call (h':=hh) (g':=g) (d':=d) (t':=t) (ch:=[]) un hok bare (fun b z=>absurd z (by simp)),r,q⟩
end
noncomputable def Binds (K:PySem.W.Frag) (fd:FuncData) (ps:List Str) (ds:List Value):Prop :=
  ∀ (s:Shared) (us:List Value),K.In s.heap→(us++ds).length=ps.length→BindsTo s fd ⟨us,[]⟩ (ps.zip (us++ds))
theorem Binds.all {K:PySem.W.Frag} {fd:FuncData} {ps:List Str} (h:∀ us:List Value,us.length=ps.length→bindArgs fd ⟨us,[]⟩=pure (ps.zip us)):Binds K fd ps []:=fun s us _ hl=>by
  rw [List.append_nil] at hl ⊢
  exact .of_eq (h us hl)
noncomputable def Passes (CX:CXT) (X:Cx) (E:XK):Prop:=∀ (pins:List (Addr×Obj)) (σ:St) (H:Hp) (s:Shared) (e:Value) (s':Shared),Inv X pins σ H s→CX X.stack H s E e s'→X.xe e s'
section
variable {X:Cx} {CX:CXT} {k:Nat} {f C:Addr} {fd:FuncData} {ps:List Str} {sp:Sp} {dvs:List V} {ds:List Value} {E:XK} {x m:Str} {p pos apos:Pos} {e o:Expr} {es:List Expr} {ta:TE} {t:TA}
structure Mk (K:PySem.W.Frag) (C f:Addr):Prop where
  makes:PySem.W.makesIn K C=true
  init:PySem.W.findIn K (.ref C) "__init__" = some (some (.ref f))
  fn:PySem.W.isFn K (.ref f)=true
  kp:PySem.W.keepIn K (.ref C)=true
end
section
variable {X:Cx} {CX:CXT} {k:Nat} {f C:Addr} {fd:FuncData} {ps ks:List Str} {sp:Sp} {E:XK} {x m:Str} {p pos apos kpos:Pos} {e o:Expr} {es:List Expr} {kws:List Keyword} {te ta:TE} {t tk:TA} {nm:Option Str}
structure KBinds (K:PySem.W.Frag) (fd:FuncData) (ps ks:List Str) (g:List Value→List Value→List Value) (gV:List V→List V→List V):Prop where
  to:∀ (s:Shared) (us ws:List Value),K.In s.heap→(g us ws).length=ps.length→BindsTo s fd ⟨us,ks.zip ws⟩ (ps.zip (g us ws))
  rel:∀ {vs:List V} {us:List Value} {zs:List V} {ws:List Value},Vals vs us→Vals zs ws→Vals (gV vs zs) (g us ws)
variable {g:List Value→List Value→List Value} {gV:List V→List V→List V}
end
structure FnScope (N P:List Str) (sc:Scope):Prop where
  kind:sc.kind=.function
  co:sc.isCoroutine=false
  gen:sc.isGenerator=false
  nd:N.Nodup
  pre:N.take P.length=P
  par:∀ x∈P,sc.names.lookup x=some .local∨sc.names.lookup x=some .cell
  nofree:∀ y∈sc.names,y.2≠.free
theorem bindL_out {kindOf:Str→Option NameKind} {x:Str}:∀ {binds:List (Str×Value)} {m:Str→Option Value},(∀ v,(x,v) ∉ binds)→bindL kindOf binds m x=m x
  | [],_,_=>rfl
  | (n,v) :: r,m,h=>by
    unfold bindL
    rw [bindL_out fun w hw=>h w (List.mem_cons_of_mem _ hw)]
    split
    · have:x≠n:=by rintro rfl; exact h v List.mem_cons_self
      simp [this]
    · rfl
theorem bindC_out {kindOf:Str→Option NameKind} {x:Str}:∀ {binds:List (Str×Value)} {m:Str→Option Value},(∀ v,(x,v) ∉ binds)→bindC kindOf binds m x=m x
  | [],_,_=>rfl
  | (n,v) :: r,m,h=>by
    unfold bindC
    rw [bindC_out fun w hw=>h w (List.mem_cons_of_mem _ hw)]
    split
    · rfl
    · have:x≠n:=by rintro rfl; exact h v List.mem_cons_self
      simp [this]
theorem bindL_get {kindOf:Str→Option NameKind} {x:Str} {v:Value}:∀ {P:List Str} {vs:List Value} {i:Nat} {m:Str→Option Value},P.Nodup→P[i]?=some x→vs[i]?=some v→kindOf x=some .local →
    bindL kindOf (P.zip vs) m x=some v
  | [],_,_,_,_,h,_,_=>by simp at h
  | _ :: _,[],_,_,_,_,h,_=>by simp at h
  | p :: P,w :: vs,0,m,nd,h1,h2,hk=>by
    simp at h1 h2; subst h1; subst h2
    show bindL kindOf ((p,w) :: P.zip vs) m p=_
    unfold bindL
    rw [bindL_out fun v hv=>(List.nodup_cons.mp nd).1 (List.of_mem_zip hv).1,if_pos hk]
    simp
  | p :: P,w :: vs,i + 1,m,nd,h1,h2,hk=>by
    show bindL kindOf ((p,w) :: P.zip vs) m x=_
    unfold bindL
    exact bindL_get (i:=i) (List.nodup_cons.mp nd).2 (by simpa using h1) (by simpa using h2) hk
theorem bindC_get {kindOf:Str→Option NameKind} {x:Str} {v:Value}:∀ {P:List Str} {vs:List Value} {i:Nat} {m:Str→Option Value},P.Nodup→P[i]?=some x→vs[i]?=some v→kindOf x≠some .local →
    bindC kindOf (P.zip vs) m x=some v
  | [],_,_,_,_,h,_,_=>by simp at h
  | _ :: _,[],_,_,_,_,h,_=>by simp at h
  | p :: P,w :: vs,0,m,nd,h1,h2,hk=>by
    simp at h1 h2; subst h1; subst h2
    show bindC kindOf ((p,w) :: P.zip vs) m p=_
    unfold bindC
    rw [bindC_out fun v hv=>(List.nodup_cons.mp nd).1 (List.of_mem_zip hv).1,if_neg hk]
    simp
  | p :: P,w :: vs,i + 1,m,nd,h1,h2,hk=>by
    show bindC kindOf ((p,w) :: P.zip vs) m x=_
    unfold bindC
    exact bindC_get (i:=i) (List.nodup_cons.mp nd).2 (by simpa using h1) (by simpa using h2) hk
noncomputable def start (N:List Str) (vs:List V):St:=vs.map some++List.replicate (N.length - vs.length) none
noncomputable def cxOf (CX:CXT) (P:Program) (w:World) (K:PySem.W.Frag) (mg:Str→Option Value) (base:Heap) (N:List Str) (qual:Str) (scope:Scope) (f:Addr) (cd:Value) (A:Around) (outer:List Env) (s:Shared) (H:Hp) (E:XK):Cx where
  prog:=P
  w:=w
  K:=K
  mg:=mg
  base:=base
  A:=A.deeper (envOfC qual scope s.heap.objs.size f cd)
  N:=N
  s₀:=s
  H₀:=H
  env:=envOfC qual scope s.heap.objs.size f cd
  outer:=outer
  stack:=envOfC qual scope s.heap.objs.size f cd :: outer
  ex:=[]
  calm:=true
  fn:=fun _=>true
  pn:=[]
  xe:=fun e s'=>wpAny (model P w) (A.deeper (envOfC qual scope s.heap.objs.size f cd)) (leaving (envOfC qual scope s.heap.objs.size f cd) e) (fun _ s''=>CX outer H s E e s'') (fun e' s''=>CX outer H s E e' s'') s'
theorem cell_has {sc:Scope} {n:Nat} {x:Str} (h:sc.names.lookup x=some .cell):∃ c,(cellsFrom n sc.names []).lookup x=some c:=by
  have q:=PySem.W.cellsFrom_some sc.names n [] (.inl h)
  exact Option.isSome_iff_exists.mp q
theorem inv_start {CX:CXT} {P:Program} {w:World} {K:PySem.W.Frag} {mg:Str→Option Value} {base:Heap} {N ps:List Str} {qual:Str} {scope:Scope} {f:Addr} {cd:Value} {A:Around} {outer:List Env} {s s1:Shared} {H:Hp} {E:XK} {us:List Value} {vs:List V}
    (S:FnScope N ps scope) (hd:A.handled=none) (e0:Env0 P w K mg base A outer s H) (hl:vs.length=ps.length) (r:Vals vs us)
    (x:InCallC s s.heap.objs.size (bindL (envOfC qual scope s.heap.objs.size f cd).kindOf (ps.zip us) fun _=>none) (cellsFrom (s.heap.objs.size + 1) scope.names []) (bindC (envOfC qual scope s.heap.objs.size f cd).kindOf (ps.zip us) fun _=>none) s1) :
    Inv (cxOf CX P w K mg base N qual scope f cd A outer s H E) [] (start N vs) H s1:=by
  have hpl:ps.length≤N.length:=by have:=congrArg List.length S.pre; rw [List.length_take] at this; omega
  obtain ⟨h1,tk,rfl,hk⟩:=x.done
  have noA:∀ b:Addr,b ∉ (cxOf CX P w K mg base N qual scope f cd A outer s H E).ex:=fun b z=>absurd (show b∈([]:List Addr) from z) (by simp)
  refine ⟨⟨e0.mod,S.kind,rfl,rfl,Nat.le_refl _,fun y z c h1 h2=>?_,fun y hy=>?_,fun y c _ h=>?_,fun _=>hd,Around.frames_deeper e0.frames,.inr ⟨rfl,rfl⟩,fun b z=>absurd z (noA b),e0.bs,e0.bsz,fun b _ _=>noA b,fun b z=>absurd z (noA b),e0.funs,e0.frf⟩,
    rfl,e0.bare,Un.kept hk,⟨_,x.toInCall.ns,fun i y v h1 h2 h3=>?_⟩,fun y c h=>⟨_,x.cell y c h⟩,e0.hok.fresh (Nat.le_refl _),fun y c h=>?_,fun p hp=>absurd (show p∈([]:List (Addr×Obj)) from hp) (by simp),e0.hok.kept hk,?_⟩
  · exact name_of_addr x.apart (PySem.mem_of_lookup h1) (PySem.mem_of_lookup h2)
  · have hy:scope.names.lookup y=some .cell∨scope.names.lookup y=some .free:=hy
    rcases hy with hy | hy
    · exact cell_has hy
    · exact absurd rfl (S.nofree _ (PySem.mem_of_lookup hy))
  · exact Nat.le_of_lt (x.above y c (PySem.mem_of_lookup h))
  · have hi:i < vs.length:=by
      unfold start at h2
      by_cases hi:i < vs.length
      · exact hi
      · rw [List.getElem?_append_right (by simpa using hi)] at h2
        rw [List.getElem?_replicate] at h2
        split at h2 <;> cases h2
    have ha:vs[i]?=some v:=by
      unfold start at h2
      rw [List.getElem?_append_left (by simpa using hi),List.getElem?_map] at h2
      cases e:vs[i]? with
      | none=>rw [e] at h2; cases h2
      | some a=>rw [e] at h2; cases h2; rfl
    obtain ⟨u,hu,rv⟩:=r.get ha
    have hp:ps[i]?=some y:=by
      rw [← S.pre,List.getElem?_take_of_lt (by omega)]; exact h1
    have ndP:ps.Nodup:=by rw [← S.pre]; exact S.nd.sublist (List.take_sublist _ _)
    refine ⟨u,rv,?_⟩
    rcases S.par y (List.mem_of_getElem? hp) with k | k
    · exact .inl ⟨k,bindL_get ndP hp hu k⟩
    · obtain ⟨c,e⟩:=cell_has (n:=s.heap.objs.size + 1) k
      refine .inr ⟨.inl k,c,e,?_⟩
      have q:=x.cell y c e
      rw [bindC_get ndP hp hu (by show scope.names.lookup y≠_; rw [k]; decide)] at q
      exact q
  · exact e0.hok.fresh (Nat.le_of_lt (x.above y c (PySem.mem_of_lookup h)))
  · unfold start
    show _=N.length
    rw [List.length_append,List.length_map,List.length_replicate]
    omega
theorem fn_of {CX:CXT} {P:Program} {w:World} {K:PySem.W.Frag} {mg:Str→Option Value} {base:Heap} {k:Nat} {f:Addr} {name qual:Str} {params:Arguments} {body:List Stmt} {scope:Scope} {dV kV doc pm cdv ct oc:Value} {an od:Option Addr}
    {osl:Array (Option Value)} {N ps:List Str} {sp:Sp} (lk:K.lookup f=some ⟨oc,od,.func (PySem.W.fnOf name qual params body scope dV kV doc pm an cdv ct),osl⟩) (hcd:PySem.W.codeIn K cdv qual=true) (S:FnScope N ps scope)
    (len:∀ vs H Q E,sp vs H Q E→vs.length=ps.length)
    (hbody:∀ (A:Around) (outer:List Env) (s:Shared) (H:Hp) (vs:List V) (Q:VK) (E:XK),Room k (A.deeper (envOfC qual scope s.heap.objs.size f cdv))→sp vs H Q E →
      ∃ t,PSs (cxOf CX P w K mg base N qual scope f cdv A outer s H E) body t∧t { nx:=fun _ H'=>Q .non H',rt:=Q } (start N vs) H) :
    FnOk P w K mg base CX (k + 1) f (PySem.W.fnOf name qual params body scope dV kV doc pm an cdv ct) ps sp:=by
  refine ⟨len,fun A outer s H args us vs Q E hr e0 hb r hsp=>?_⟩
  have hl:=len _ _ _ _ hsp
  have KX:K.In s.heap:=e0.mod.kin.keeps fun b o e=>(e0.bs b o e).1
  have lim:s.heap.NoLimit:=e0.mod.nolimit.keeps fun b o e=>(e0.bs b o e).1
  have hkind:∀ y∈ps.zip us,scope.names.lookup y.1=some .local∨(scope.names.lookup y.1=some .cell∧((cellsFrom (s.heap.objs.size + 1) scope.names []).lookup y.1).isSome=true):=fun ⟨n,v⟩ hy=>by
    rcases S.par n (List.of_mem_zip hy).1 with q | q
    · exact .inl q
    · exact .inr ⟨q,PySem.W.cellsFrom_some _ _ _ (.inl q)⟩
  refine codeAny_call_function hr.depth (KX _ _ lk) rfl S.co S.gen rfl (PySem.W.codeRec_of KX hcd) (hb _ _ _ _ ?_)
  refine wpAny_newFunctionEnv_cells S.kind hkind fun env he s1 x=>?_
  subst he
  refine ⟨lim.keeps x.toInCall.keep,codeAny_func ?_⟩
  obtain ⟨t,ht,hq⟩:=hbody A outer s H vs Q E (hr.deeper _) hsp
  have I:Inv (cxOf CX P w K mg base N qual scope f cdv A outer s H E) [] (start N vs) H s1:=inv_start S hr.hd e0 hl r x
  refine wpAny_mono (ht [] s1 (start N vs) H _ I hq) (fun fl s' hs=>?_) fun e s' hs=>hs
  have fin:∀ {σ':St} {H':Hp} {v:V} {u:Value},Inv (cxOf CX P w K mg base N qual scope f cdv A outer s H E) [] σ' H' s'→RelV v u→Q v H'→CE outer P w H s Q u s' :=
    fun {σ' H' v u} J rv q=>⟨v,H',J.os,J.bare,J.base,J.hok,rv,q⟩
  cases fl with
  | ret u =>
    obtain ⟨v,σ',H',J,rv,q⟩:=hs
    exact fin J rv q
  | next =>
    obtain ⟨σ',H',J,q⟩:=hs
    exact fin (v:=V.non) (u:=Value.none) J rfl q
  | brk =>
    obtain ⟨_,_,_,q⟩:=hs
    exact False.elim q
  | cont =>
    obtain ⟨_,_,_,q⟩:=hs
    exact False.elim q
end L2
namespace L2
open PySem PySem.Spec PyProof.Rows
section
variable {X:Cx} {x:Str} {p pos:Pos} {e:Expr} {es:List Expr} {t:TA} {id T:String} {r:List V→Hp→VK→Prop}
noncomputable def tCB (r:List V→Hp→VK→Prop) (t:TA):TE:=fun σ H Q=>t σ H fun vs H1=>r vs H1 Q
theorem pe_callB (hc:CallR X (.builtin id) r) (hg:Gl X x) (hm:X.mg x=none) (hv:bootBuiltins x=some (.builtin id)) (ha:PA X (e :: es) t) (hn:x ≠ "__name__" := by decide) (hdb:(x == ("__debug__" : Str))=false:=by decide)
    (he:starEach (e :: es) X.env=(false,eval e X.env) :: starEach es X.env:=by rfl) (hpl:(backTo pos (starEach es X.env)).any (·.1)=false:=by rfl):PE X (.Call (.Name x p) (e :: es) [] pos) (tCB r t):=by
  intro pins s σ H Q I h
  refine wpAny_Call_Name_kw (ld_blt I hg hm hv ?_ hn hdb)
  exact PyProof.Rows.callWith_builtin1 (thn (ha pos pins s σ H _ I h) fun us s1 ⟨vs,H1,I1,r1,q1⟩=>hc pins s1 σ H1 vs us Q I1 r1 q1) he hpl
theorem pe_callTy (hc:CallR X (.type T) r) (hg:Gl X x) (hm:X.mg x=none) (hv:bootBuiltins x=some (.type T)) (ha:PA X (e :: es) t) (hn:x ≠ "__name__" := by decide) (hdb:(x == ("__debug__" : Str))=false:=by decide)
    (he:starEach (e :: es) X.env=(false,eval e X.env) :: starEach es X.env:=by rfl) (hpl:(backTo pos (starEach es X.env)).any (·.1)=false:=by rfl):PE X (.Call (.Name x p) (e :: es) [] pos) (tCB r t):=by
  intro pins s σ H Q I h
  refine wpAny_Call_Name_kw (ld_blt I hg hm hv ?_ hn hdb)
  exact PyProof.Rows.callWith_type1 (thn (ha pos pins s σ H _ I h) fun us s1 ⟨vs,H1,I1,r1,q1⟩=>hc pins s1 σ H1 vs us Q I1 r1 q1) he hpl
end
end L2
namespace HT
open PySem PyProof.Rows
section
open PySem.SeqAt
open PySem.AutoSeq1 (wpAny_loadPart')
open PySem.MeetsSeq PySem.MeetsSeq2 PySem.MeetsSeq3
end
section
variable {prog:Program} {w:World} {A:Around} {E:Value→Shared→Prop} {s:Shared}
theorem cat_tup {t b:Addr} {vs ws:List Value} {Q:Value→Shared→Prop} (ht:IsTup s.heap t vs.toArray) (hb:IsTup s.heap b ws.toArray) (hv:vs≠[])
    (h1:ws=[]→Q (.ref t) s) (h2:ws≠[]→Q (.ref s.heap.objs.size) { s with heap:=s.heap.push { cls:=.type "tuple",data:=.seq (vs++ws).toArray } })
    (hsz:vs.length + ws.length≤sizeLine):wpAny (model prog w) A (binaryOp .Add (.ref t) (.ref b)) Q E s:=by
  obtain ⟨⟨cls,dd,data,sl⟩,ho,hc,n,hd⟩:=id ht
  obtain ⟨⟨cls2,dd2,data2,sl2⟩,ho2,hc2,n2,hd2⟩:=id hb
  simp only at hc hd hc2 hd2
  subst hc hd hc2 hd2
  have e:vs.toArray++ws.toArray=(vs++ws).toArray:=by simp
  by_cases hw:ws=[]
  · exact concat_meets ⟨_,ho,rfl⟩ ⟨_,ho2,rfl⟩ noFill_tuple_add seq_tuple_add PySem.F.slot_tuple_add PySem.F.entry_tuple_add (PySem.F.args_tuple_add_2 _ _)
      (tuple_addW1 t b vs.toArray ws.toArray n n2 dd dd2 sl sl2 (by simpa using hv) (by simp [hw])) ⟨ho,ho2,h1 hw⟩
  · refine concat_meets ⟨_,ho,rfl⟩ ⟨_,ho2,rfl⟩ noFill_tuple_add seq_tuple_add PySem.F.slot_tuple_add PySem.F.entry_tuple_add (PySem.F.args_tuple_add_2 _ _)
      (tuple_addW2 t b vs.toArray ws.toArray n n2 dd dd2 sl sl2 (by simpa using hv) (by simpa using hw) (by rw [List.size_toArray,List.size_toArray]; exact hsz)) ⟨ho,ho2,?_⟩
    rw [e]
    exact h2 hw
noncomputable def sIx (n d:Nat):Option Int→Nat
  | none=>d
  | some v=>if v < 0 then (v + (n:Int)).toNat else min v.toNat n
end
end HT
namespace L2
open PySem PySem.Spec PyProof.Rows
noncomputable abbrev TO:=St→Hp→(Option Int→Hp→Prop)→Prop
noncomputable def PO (X:Cx) (e:Option Expr) (t:TO):Prop :=
  ∀ (pins:List (Addr×Obj)) (s:Shared) (σ:St) (H:Hp) (Q:Option Int→Hp→Prop),Inv X pins σ H s→t σ H Q →
    wpAny (model X.prog X.w) X.A (evalPart e X.env) (fun u s'=>∃ o H',Inv X pins σ H' s'∧IsPart u o∧Q o H') X.xe s
theorem intsAre_of {ns:List Int}:∀ {us:List Value},Vals (ns.map V.int) us→IntsAre us ns:=by
  induction ns with
  | nil=>intro us r; rw [List.map_nil] at r; cases r; exact .nil
  | cons n ns ih =>
    intro us r
    rw [List.map_cons] at r
    cases r with
    | cons r1 r2 =>
      obtain ⟨t,e⟩:=r1
      subst e
      exact .cons n t (ih r2)
section
variable {X:Cx} {e:Expr} {te:TE} {lo hi:Option Expr} {tl th:TO} {pos p2:Pos}
noncomputable def rCatT (K:PySem.W.Frag):R2:=fun x y H Q=>∃ a b xs ys,x=.ref a∧y=.ref b∧SqT K H a xs∧SqT K H b ys∧xs≠[]∧xs.length + ys.length≤sizeLine ∧
  (ys=[]→Q (.ref a) H)∧(ys≠[]→∀ p,H p=none→Q (.ref p) (upd H p (.tup (xs++ys))))
theorem Vals.nil_iff {xs:List V} {us:List Value} (r:Vals xs us):us=[] ↔ xs=[]:=by
  cases r with
  | nil=>simp
  | cons _ _=>simp
theorem op_catT:OpR X (binaryOp .Add) (rCatT X.K):=by
  intro pins s σ H x y v u Q I rx ry h
  obtain ⟨a,b,xs,ys,rfl,rfl,ha,hb,hx,hz,q1,q2⟩:=h
  cases rx
  cases ry
  obtain ⟨its,r1,p1,_⟩:=I.tuple ha
  obtain ⟨its2,r2,p2,_⟩:=I.tuple hb
  refine HT.cat_tup p1 p2 (fun z=>hx (r1.nil_iff.mp z)) (fun z=>⟨.ref a,H,I,rfl,q1 (r2.nil_iff.mp z)⟩) (fun z=>?_) (by rw [← r1.length,← r2.length]; exact hz)
  refine ⟨.ref s.heap.objs.size,_,I.laid (t':=s.toks) (o:=.tup (xs++ys)) (fun b ob q=>Heap.get?_push_of_some _ q) (Nat.le_refl _) ?_,rfl,q2 (fun w=>z (r2.nil_iff.mpr w)) _ (I.hok.fresh (Nat.le_refl _))⟩
  exact ⟨by rw [List.length_append]; exact hz,_,r1.append r2,IsTup.new _ _⟩
end
end L2
namespace L2
open PySem PySem.Spec PyProof.Rows
noncomputable def ixN (n:Nat) (i:Int):Option Nat:=if 0≤i then (if i < n then some i.toNat else none) else if -(n:Int)≤i then some (i + n).toNat else none
noncomputable def atI {α:Type} (xs:List α) (i:Int):Option α:=(ixN xs.length i).bind fun j=>xs[j]?
theorem ixN_seq {n:Nat} {i:Int} {j:Nat} (h:ixN n i=some j):seqIndex? i n=some j∧j < n∧-(n:Int)≤i∧i < n:=by
  unfold ixN at h
  by_cases h0:0≤i
  · rw [if_pos h0] at h
    by_cases h1:i < n
    · rw [if_pos h1] at h
      have e:i.toNat=j:=Option.some.inj h
      exact ⟨by rw [seqIndex_of h0 h1,e],by omega,by omega,h1⟩
    · rw [if_neg h1] at h; cases h
  · rw [if_neg h0] at h
    by_cases h1:-(n:Int)≤i
    · rw [if_pos h1] at h
      have e:(i + n).toNat=j:=Option.some.inj h
      exact ⟨by rw [seqIndex_neg (by omega) h1,e],by omega,h1,by omega⟩
    · rw [if_neg h1] at h; cases h
theorem atI_get {α:Type} {xs:List α} {i:Int} {v:α} (h:atI xs i=some v):∃ j,seqIndex? i xs.length=some j∧xs[j]?=some v∧j < xs.length∧-(xs.length:Int)≤i∧i < xs.length:=by
  unfold atI at h
  cases e:ixN xs.length i with
  | none=>rw [e] at h; cases h
  | some j =>
    rw [e] at h
    obtain ⟨h1,h2,h3,h4⟩:=ixN_seq e
    exact ⟨j,h1,h,h2,h3,h4⟩
theorem atI_nat {α:Type} {xs:List α} {j:Nat} {v:α} (h:xs[j]?=some v):atI xs (j:Int)=some v:=by
  have hj:j < xs.length:=(List.getElem?_eq_some_iff.mp h).1
  have e:ixN xs.length (j:Int)=some j:=by
    unfold ixN
    rw [if_pos (by omega),if_pos (by omega)]; simp
  unfold atI; rw [e]; exact h
noncomputable def PlainIx (b:Expr):Prop:=∀ o i,subscripted b false o i=operate [o,i] (getItem o i)
noncomputable def IxR (X:Cx) (r:R2):Prop :=
  ∀ (value slice:Expr) (pins:List (Addr×Obj)) (s:Shared) (σ:St) (H:Hp) (x y:V) (v u:Value) (Q:VK),Inv X pins σ H s→RelV x v→RelV y u→r x y H Q →
    subscripted slice false v u=operate [v,u] (getItem v u)→wpAny (model X.prog X.w) X.A (subscriptTail value slice v u) (EP X pins σ Q) X.xe s
noncomputable def MtR (X:Cx) (id:String) (r:V→List V→Hp→VK→Prop):Prop :=
  ∀ (pins:List (Addr×Obj)) (s:Shared) (σ:St) (H:Hp) (x:V) (xs:List V) (v:Value) (us:List Value) (Q:VK),Inv X pins σ H s→RelV x v→Vals xs us→r x xs H Q →
    wpAny (model X.prog X.w) X.A (call (.builtin id) (v :: us)) (EP X pins σ Q) X.xe s
section
variable {X:Cx} {a b:Expr} {ta tb:TE} {pos:Pos}
theorem IxR.or {r r':R2} (h:IxR X r) (h':IxR X r'):IxR X (fun x y H Q=>r x y H Q∨r' x y H Q):=by
  intro value slice pins s σ H x y v u Q I rx ry q hs
  rcases q with q | q
  · exact h value slice pins s σ H x y v u Q I rx ry q hs
  · exact h' value slice pins s σ H x y v u Q I rx ry q hs
theorem pe_ix {r:R2} (hr:IxR X r) (ha:PE X a ta) (hb:PE X b tb) (hs:PlainIx b):PE X (.Subscript a b pos) (tOp r ta tb):=by
  intro pins s σ H Q I h
  exact Subscript_ (binT ha hb I h fun v u s2 x y H2 I2 rx ry q=>hr a b pins s2 σ H2 x y v u Q I2 rx ry q (hs _ _))
noncomputable def rIxL (K:PySem.W.Frag):R2:=fun x y H Q=>∃ p xs i v,x=.ref p∧y=.int i∧SqL K H p xs∧atI xs i=some v∧Q v H
noncomputable def rIxT (K:PySem.W.Frag):R2:=fun x y H Q=>∃ p xs i v,x=.ref p∧y=.int i∧SqT K H p xs∧atI xs i=some v∧Q v H
noncomputable def rIxS:R2:=fun x y H Q=>∃ z i c,x=.str z∧y=.int i∧z.length≤sizeLine∧atI z.cps.toList i=some c∧Q (.str ⟨#[c]⟩) H
theorem ix_list:IxR X (rIxL X.K):=by
  intro value slice pins s σ H x y v u Q I rx ry h hs
  obtain ⟨p,xs,i,z,rfl,rfl,hq,he,q⟩:=h
  cases rx
  obtain ⟨t,rfl⟩:=ry
  obtain ⟨its,r,pl,hz⟩:=I.list hq
  obtain ⟨j,h1,h2,h3,h4,h5⟩:=atI_get he
  obtain ⟨w,ew,rw'⟩:=r.get h2
  have hl:=r.length
  have hn:=line63
  have fin:EP X pins σ Q w s:=⟨z,H,I,rw',q⟩
  by_cases h0:0≤i
  · have hj:i.toNat=j:=by
      rw [seqIndex_of h0 h5] at h1
      exact Option.some.inj h1
    exact item_listR pl.isList h0 (by omega) (by rw [hj]; simpa using ew) fin hs
  · have hj:(i + (its.toArray.size:Int)).toNat=j:=by
      rw [seqIndex_neg (by omega) h4] at h1
      rw [List.size_toArray,← hl]
      exact Option.some.inj h1
    exact subscriptTail_builtinR (x:=w) pl.isList.typeIs slot_list_getitem.lookup
      (wpAny_getItem_list_neg (Q:=fun r s'=>r=w∧EP X pins σ Q r s') pl.isList (by omega) (by rw [List.size_toArray] <;> omega) (by omega) (by rw [hj]; simpa using ew) ⟨rfl,fin⟩) hs
theorem ix_tup:IxR X (rIxT X.K):=by
  intro value slice pins s σ H x y v u Q I rx ry h hs
  obtain ⟨p,xs,i,z,rfl,rfl,hq,he,q⟩:=h
  cases rx
  obtain ⟨t,rfl⟩:=ry
  obtain ⟨its,r,pl,hz⟩:=I.tuple hq
  obtain ⟨j,h1,h2,h3,h4,h5⟩:=atI_get he
  obtain ⟨w,ew,rw'⟩:=r.get h2
  have hl:=r.length
  have hn:=line63
  have fin:EP X pins σ Q w s:=⟨z,H,I,rw',q⟩
  exact subscriptTail_builtinR (x:=w) pl.typeIs slot_tuple_getitem.lookup
    (getItem_tuple (j:=j) (Q:=fun r s'=>r=w∧EP X pins σ Q r s') pl (by omega) (by omega) (by rw [List.size_toArray,← hl]; exact h1) (by simpa using ew) ⟨rfl,fin⟩) hs
theorem ix_str:IxR X rIxS:=by
  intro value slice pins s σ H x y v u Q I rx ry h hs
  obtain ⟨z,i,c,rfl,rfl,hz,he,q⟩:=h
  obtain ⟨t,rfl⟩:=rx
  obtain ⟨t',rfl⟩:=ry
  obtain ⟨j,h1,h2,h3,h4,h5⟩:=atI_get he
  have hl:z.cps.toList.length=z.length:=by simp [Str.length]
  rw [hl] at h1 h4 h5
  have hn:=line63
  exact tail_any (typeIs_str s z t) slot_str_getitem.lookup (getItem_str (c:=c) (by
    have e1:decide (i < -(2 ^ 63:Int))=false:=decide_eq_false (by omega)
    have e2:decide (i ≥ 2 ^ 63)=false:=decide_eq_false (by omega)
    rw [e1,e2,Bool.or_false]) (by rw [h1]; simpa using h2) ⟨.str ⟨#[c]⟩,H,I.tok _,⟨_,rfl⟩,q⟩) hs
noncomputable def rIx (K:PySem.W.Frag):R2:=fun x y H Q=>rIxL K x y H Q∨rIxT K x y H Q∨rIxS x y H Q
theorem ix_seq:IxR X (rIx X.K):=ix_list.or (ix_tup.or ix_str)
theorem mapSeq_set (its:List Value) (n j:Nat) (u:Value):Obj.mapSeq (·.setIfInBounds j u) { cls:=.type "list",data:=.seq its.toArray n }={ cls:=.type "list",data:=.seq (its.set j u).toArray n }:=by
  simp [Obj.mapSeq]
theorem Inv.lst {pins:List (Addr×Obj)} {σ:St} {H:Hp} {s:Shared} {p:Addr} {xs:List V} (I:Inv X pins σ H s) (h:H p=some (.lst xs)) :
    ∃ (its:List Value) (n:Nat),Vals xs its∧s.heap.get? p=some { cls:=.type "list",data:=.seq its.toArray n }∧xs.length≤sizeLine:=by
  obtain ⟨z,its,n,r,e⟩:=I.hok p _ h
  exact ⟨its,n,r,e,z⟩
theorem Inv.lstUpd {pins:List (Addr×Obj)} {σ:St} {H:Hp} {s:Shared} {p:Addr} {xs ys:List V} {its its':List Value} {n n':Nat} {f:Obj→Obj} (I:Inv X pins σ H s) (h:H p=some (.lst xs))
    (ho:s.heap.get? p=some { cls:=.type "list",data:=.seq its.toArray n }) (hf:f { cls:=.type "list",data:=.seq its.toArray n }={ cls:=.type "list",data:=.seq its'.toArray n' }) (r:Vals ys its') (hz:ys.length≤sizeLine) (t:Nat) :
    Inv X pins σ (upd H p (.lst ys)) { s with heap:=s.heap.update p f,toks:=t }:=by
  have e:(s.heap.update p f).get? p=some { cls:=.type "list",data:=.seq its'.toArray n' }:=by
    rw [Heap.get?_update_self f ho (by rw [hf] <;> rfl),hf]
  refine I.write (x:=p) (e:=p) (by rw [h]; trivial) (.inl rfl) (fun b u hb q=>(Heap.get?_update_other _ _ (Ne.symm hb)).trans q) ⟨_,e⟩ ?_
  exact ⟨hz,its',n',r,e⟩
noncomputable def rSetL:V→V→V→Hp→(Hp→Prop)→Prop:=fun o i v H Q=>∃ p xs k j,o=.ref p∧i=.int k∧H p=some (.lst xs)∧ixN xs.length k=some j∧Q (upd H p (.lst (xs.set j v)))
theorem set_list:PSet X rSetL:=by
  intro pins s σ H o i v ov iv u Q I ro ri rv h
  obtain ⟨p,xs,k,j,rfl,rfl,hp,hj,q⟩:=h
  cases ro
  obtain ⟨t,rfl⟩:=ri
  obtain ⟨its,n,r,ho,hz⟩:=I.lst hp
  obtain ⟨h1,h2,h3,h4⟩:=ixN_seq hj
  have hl:=r.length
  have hn:=line63
  have I':Inv X pins σ (upd H p (.lst (xs.set j v))) { s with heap:=s.heap.update p (Obj.mapSeq (·.setIfInBounds j u)) } :=
    I.lstUpd hp ho (mapSeq_set its n j u) (r.set rv j) (by rw [List.length_set]; exact hz) s.toks
  by_cases h0:0≤k
  · have hk:k.toNat=j:=by
      rw [seqIndex_of h0 h4] at h1
      exact Option.some.inj h1
    exact PySem.W.ki_setAt ho h0 (by omega) (by rw [List.size_toArray,← hl]; exact h4) (by rw [hk]; exact ⟨_,I',q⟩)
  · have hk:(k + (its.toArray.size:Int)).toNat=j:=by
      rw [seqIndex_neg (by omega) h3] at h1
      rw [List.size_toArray,← hl]
      exact Option.some.inj h1
    exact PySem.W.ki_setBack ho (by omega) (by rw [List.size_toArray,← hl]; exact h3) (by omega) (by rw [hk]; exact ⟨_,I',q⟩)
noncomputable def flatV:V→Bool
  | .non=>true
  | .bl _=>true
  | .int _=>true
  | .str _=>true
  | _=>false
noncomputable def eqV:V→V→Bool
  | .non,.non=>true
  | .bl a,.bl b=>a == b
  | .bl a,.int b=>(if a then 1 else 0) == b
  | .int a,.bl b=>a == (if b then 1 else 0)
  | .int a,.int b=>a == b
  | .str a,.str b=>a == b
  | _,_=>false
theorem eqAt_V {A:Around} {s:Shared} {y x:V} {u v:Value} (ry:RelV y u) (rx:RelV x v) (fy:flatV y=true) (fx:flatV x=true):SeqAt.EqAt A s u v (eqV y x):=by
  cases y with
  | non =>
    cases ry
    cases x with
    | non=>cases rx; exact SeqAt.EqAt.same _
    | bl b=>cases rx; exact SeqAt.EqAt.none_bool b
    | int b=>obtain ⟨t,rfl⟩:=rx; exact SeqAt.EqAt.none_int b t
    | str b=>obtain ⟨t,rfl⟩:=rx; exact SeqAt.EqAt.none_str b t
    | _=>exact absurd (show false=true from fx) Bool.false_ne_true
  | bl a =>
    cases ry
    cases x with
    | non=>cases rx; exact SeqAt.EqAt.bool_none a
    | bl b=>cases rx; exact SeqAt.EqAt.bool_bool a b
    | int b=>obtain ⟨t,rfl⟩:=rx; exact SeqAt.EqAt.bool_int a b t
    | str b=>obtain ⟨t,rfl⟩:=rx; exact SeqAt.EqAt.bool_str a b t
    | _=>exact absurd (show false=true from fx) Bool.false_ne_true
  | int a =>
    obtain ⟨t',rfl⟩:=ry
    cases x with
    | non=>cases rx; exact SeqAt.EqAt.int_none a t'
    | bl b=>cases rx; exact SeqAt.EqAt.int_bool a t' b
    | int b=>obtain ⟨t,rfl⟩:=rx; exact SeqAt.EqAt.int_int a t' b t
    | str b=>obtain ⟨t,rfl⟩:=rx; exact SeqAt.EqAt.int_str a t' b t
    | _=>exact absurd (show false=true from fx) Bool.false_ne_true
  | str a =>
    obtain ⟨t',rfl⟩:=ry
    cases x with
    | non=>cases rx; exact SeqAt.EqAt.str_none a t'
    | bl b=>cases rx; exact SeqAt.EqAt.str_bool a t' b
    | int b=>obtain ⟨t,rfl⟩:=rx; exact SeqAt.EqAt.str_int a t' b t
    | str b=>obtain ⟨t,rfl⟩:=rx; exact SeqAt.EqAt.str_str a t' b t
    | _=>exact absurd (show false=true from fx) Bool.false_ne_true
  | _=>exact absurd (show false=true from fy) Bool.false_ne_true
noncomputable def eqU (x:V) (u:Value):Bool:=match u with
  | .none=>eqV .non x
  | .bool b=>eqV (.bl b) x
  | .int i _=>eqV (.int i) x
  | .str z _=>eqV (.str z) x
  | _=>false
theorem eqU_of {x y:V} {u:Value} (r:RelV y u) (f:flatV y=true):eqU x u=eqV y x:=by
  cases y with
  | non=>cases r; rfl
  | bl b=>cases r; rfl
  | int i=>obtain ⟨t,rfl⟩:=r; rfl
  | str z=>obtain ⟨t,rfl⟩:=r; rfl
  | _=>exact absurd (show false=true from f) Bool.false_ne_true
theorem any_eqU {x:V}:∀ {xs:List V} {us:List Value},Vals xs us→xs.all flatV=true→us.any (eqU x)=xs.any fun y=>eqV y x
  | _,_,.nil,_=>rfl
  | y :: xs,u :: us,.cons r t,f=>by
    rw [List.all_cons,Bool.and_eq_true] at f
    rw [List.any_cons,List.any_cons,eqU_of r f.1,any_eqU t f.2]
theorem mem_eqAt {A:Around} {s:Shared} {x:V} {v:Value} (rx:RelV x v) (fx:flatV x=true):∀ {xs:List V} {us:List Value},Vals xs us→xs.all flatV=true→∀ u∈us,SeqAt.EqAt A s u v (eqU x u)
  | _,_,.nil,_=>fun u hu=>by cases hu
  | y :: xs,u :: us,.cons r t,f=>fun u' hu=>by
    rw [List.all_cons,Bool.and_eq_true] at f
    rcases List.mem_cons.mp hu with rfl | hu
    · rw [eqU_of r f.1]; exact eqAt_V r rx f.1 fx
    · exact mem_eqAt rx fx t f.2 u' hu
noncomputable def inV (x:V) (xs:List V):Bool:=xs.any fun y=>eqV y x
noncomputable def rIn (K:PySem.W.Frag) (neg:Bool):R2:=fun x y H Q=>∃ p xs,y=.ref p∧(SqL K H p xs∨SqT K H p xs)∧flatV x=true∧xs.all flatV=true∧Q (.bl (if neg then !inV x xs else inV x xs)) H
theorem op_in_seq:OpR X (compareOp .In) (rIn X.K false):=by
  intro pins s σ H x y v u Q I rx ry h
  obtain ⟨p,xs,rfl,hq,fx,fs,q⟩:=h
  cases ry
  rcases hq with hq | hq
  · obtain ⟨its,r,pl,hz⟩:=I.list hq
    refine SeqAt.in_listAt (eqU x) pl.isList (fun w hw=>mem_eqAt rx fx r fs w (by simpa using hw)) ⟨.bl _,H,I,rfl,?_⟩
    rw [show its.toArray.any (eqU x)=its.any (eqU x) by simp,any_eqU r fs]
    exact q
  · obtain ⟨its,r,pl,hz⟩:=I.tuple hq
    refine SeqAt.in_tupleAt (eqU x) pl (fun w hw=>mem_eqAt rx fx r fs w (by simpa using hw)) ⟨.bl _,H,I,rfl,?_⟩
    rw [show its.toArray.any (eqU x)=its.any (eqU x) by simp,any_eqU r fs]
    exact q
theorem op_notIn_seq:OpR X (compareOp .NotIn) (rIn X.K true):=by
  intro pins s σ H x y v u Q I rx ry h
  obtain ⟨p,xs,rfl,hq,fx,fs,q⟩:=h
  cases ry
  rcases hq with hq | hq
  · obtain ⟨its,r,pl,hz⟩:=I.list hq
    refine SeqAt.notIn_listAt (eqU x) pl.isList (fun w hw=>mem_eqAt rx fx r fs w (by simpa using hw)) ⟨.bl _,H,I,rfl,?_⟩
    rw [show its.toArray.any (eqU x)=its.any (eqU x) by simp,any_eqU r fs]
    exact q
  · obtain ⟨its,r,pl,hz⟩:=I.tuple hq
    refine SeqAt.notIn_tupleAt (eqU x) pl (fun w hw=>mem_eqAt rx fx r fs w (by simpa using hw)) ⟨.bl _,H,I,rfl,?_⟩
    rw [show its.toArray.any (eqU x)=its.any (eqU x) by simp,any_eqU r fs]
    exact q
theorem call_len_seq:CallR X (.builtin "len") (fun xs H Q=>∃ p ys,xs=[.ref p]∧(SqL X.K H p ys∨SqT X.K H p ys)∧Q (.int ys.length) H):=by
  intro pins s σ H xs us Q I r h
  obtain ⟨p,ys,rfl,hq,q⟩:=h
  obtain ⟨u,rfl,rx⟩:=vals1 r
  cases rx
  have hn:=line63
  rcases hq with hq | hq
  · obtain ⟨its,r',pl,hz⟩:=I.list hq
    have hlen:=r'.length
    exact Calls.call_len_list pl.isList (by simp only [List.size_toArray] <;> omega) ⟨.int ys.length,H,I.tok _,⟨s.toks + 1,by rw [List.size_toArray,hlen]⟩,q⟩
  · obtain ⟨its,r',pl,hz⟩:=I.tuple hq
    have hlen:=r'.length
    exact len_tuple pl (by simp only [List.size_toArray] <;> omega) ⟨.int ys.length,H,I.tok _,⟨s.toks + 1,by rw [List.size_toArray,hlen]⟩,q⟩
theorem call_list_of:CallR X (.type "list") (fun xs H Q=>∃ p ys,xs=[.ref p]∧(SqL X.K H p ys∨SqT X.K H p ys)∧∀ l,H l=none→Q (.ref l) (upd H l (.lst ys))):=by
  intro pins s σ H xs us Q I r h
  obtain ⟨p,ys,rfl,hq,q⟩:=h
  obtain ⟨u,rfl,rx⟩:=vals1 r
  cases rx
  have fin:∀ (its:List Value),Vals ys its→ys.length≤sizeLine→∀ (h':Heap) (c':Nat),(∀ b o',s.heap.get? b=some o'→h'.get? b=some o') →
      h'.get? s.heap.objs.size=some { cls:=.type "list",dict:=none,data:=.seq its.toArray c',slots:=#[] }→EP X pins σ Q (.ref s.heap.objs.size) { s with heap:=h' }:=fun its r' hz h' c' kp e =>
    ⟨.ref s.heap.objs.size,_,I.laid (t':=s.toks) kp (Nat.le_refl _) (show ObjOk X.prog X.w _ h' _ (.lst ys) from ⟨hz,its,c',r',e⟩),rfl,q _ (I.hok.fresh (Nat.le_refl _))⟩
  rcases hq with hq | hq
  · obtain ⟨its,r',pl,hz⟩:=I.list hq
    have hlen:=r'.length
    obtain ⟨o,ho,hc,n,hd⟩:=pl.isList
    exact call_list_seq p (.inl rfl) ho hc hd (fun h' c' kp e=>fin its r' hz h' c' kp e) (by simp only [List.size_toArray] <;> omega)
  · obtain ⟨its,r',pl,hz⟩:=I.tuple hq
    have hlen:=r'.length
    obtain ⟨o,ho,hc,n,hd⟩:=pl
    exact call_list_seq p (.inr rfl) ho hc hd (fun h' c' kp e=>fin its r' hz h' c' kp e) (by simp only [List.size_toArray] <;> omega)
theorem call_tuple_of:CallR X (.type "tuple") (fun xs H Q=>∃ p ys,xs=[.ref p]∧((SqL X.K H p ys∧∀ l,H l=none→Q (.ref l) (upd H l (.tup ys)))∨(SqT X.K H p ys∧Q (.ref p) H))):=by
  intro pins s σ H xs us Q I r h
  obtain ⟨p,ys,rfl,h⟩:=h
  obtain ⟨u,rfl,rx⟩:=vals1 r
  cases rx
  rcases h with ⟨hq,q⟩ | ⟨hq,q⟩
  · obtain ⟨its,r',pl,hz⟩:=I.list hq
    have hlen:=r'.length
    refine call_tuple_list pl.isList (fun h' kp=>?_) (by simp only [List.size_toArray] <;> omega)
    have I1:Inv X pins σ H { s with heap:=h' }:=I.kept (t':=s.toks) kp
    have I2:Inv X pins σ (upd H h'.objs.size (.tup ys)) { s with heap:=h'.push { cls:=.type "tuple",data:=.seq its.toArray } } :=
      I1.laid (t':=s.toks) (fun b o e=>Heap.get?_push_of_some _ e) (Nat.le_refl _) (show ObjOk X.prog X.w _ _ _ (.tup ys) from ⟨hz,its,r',IsTup.new _ _⟩)
    exact ⟨.ref h'.objs.size,_,I2,rfl,q _ (I1.hok.fresh (Nat.le_refl _))⟩
  · obtain ⟨its,r',pl,hz⟩:=I.tuple hq
    exact call_tuple_same pl ⟨.ref p,H,I,rfl,q⟩
variable {o e:Expr} {es:List Expr} {to:TE} {t:TA} {name:Str} {apos cpos:Pos} {T id:String} {r:V→List V→Hp→VK→Prop}
end
end L2
namespace L2
open PySem PySem.Spec PyProof.Rows
theorem Vals.one:∀ {x:V} {us:List Value},Vals [x] us→∃ u,us=[u]∧RelV x u
  | _,_,.cons r .nil=>⟨_,rfl,r⟩
theorem Vals.two:∀ {x y:V} {us:List Value},Vals [x,y] us→∃ u v,us=[u,v]∧RelV x u∧RelV y v
  | _,_,_,.cons r (.cons q .nil)=>⟨_,_,rfl,r,q⟩
theorem Vals.rep {xs:List V} {us:List Value} (h:Vals xs us):∀ k:Nat,Vals (List.replicate k xs).flatten (List.replicate k us).flatten
  | 0=>.nil
  | k + 1=>by
    rw [List.replicate_succ,List.replicate_succ,List.flatten_cons,List.flatten_cons]
    exact Vals.append h (Vals.rep h k)
theorem foldl_rep (its:List Value):∀ (k:Nat) (acc:List Value),
    List.foldl (fun x1 x2=>x1++x2) acc.toArray (List.replicate k its.toArray)=(acc++(List.replicate k its).flatten).toArray
  | 0,acc=>by simp
  | k + 1,acc=>by
    have e:acc.toArray++its.toArray=(acc++its).toArray:=by simp
    have e2:(acc++its)++(List.replicate k its).flatten=acc++(List.replicate (k + 1) its).flatten:=by
      rw [List.replicate_succ,List.flatten_cons,List.append_assoc]
    rw [← e2,← foldl_rep its k (acc++its),← e,List.replicate_succ,List.foldl_cons]
section
variable {X:Cx} {pins:List (Addr×Obj)} {σ:St} {H:Hp} {s:Shared} {l b:Addr} {xs ys zs:List V}
theorem Inv.lset {its its':List Value} {n:Nat} {f:Array Value→Array Value} {t':Nat} (I:Inv X pins σ H s) (hH:H l=some (.lst xs))
    (e:s.heap.get? l=some { cls:=.type "list",data:=.seq its.toArray n }) (hf:f its.toArray=its'.toArray) (hv:Vals ys its') (hz:ys.length≤sizeLine) :
    Inv X pins σ (upd H l (.lst ys)) { s with heap:=s.heap.update l (Obj.mapSeq f),toks:=t' }:=by
  have q:=PySem.IsL.update e f
  rw [hf] at q
  refine I.write (x:=l) (e:=l) (by rw [hH]; exact trivial) (.inl rfl) (fun b' u hb hu=>(Heap.get?_update_other s.heap (Obj.mapSeq f) (Ne.symm hb)).trans hu) ⟨_,q⟩ ?_
  exact ⟨hz,its',_,hv,q⟩
theorem Inv.lnew {its:List Value} {t':Nat} (I:Inv X pins σ H s) (hv:Vals ys its) (hz:ys.length≤sizeLine) :
    Inv X pins σ (upd H s.heap.objs.size (.lst ys)) { s with heap:=s.heap.push { cls:=.type "list",data:=.seq its.toArray },toks:=t' } :=
  I.laid (fun _ _ q=>Heap.get?_push_of_some _ q) (Nat.le_refl _) ⟨hz,its,0,hv,Heap.get?_push_size _ rfl⟩
theorem Inv.fresh (I:Inv X pins σ H s):H s.heap.objs.size=none:=I.hok.fresh (Nat.le_refl _)
theorem Inv.lstM (I:Inv X pins σ H s) (hH:H l=some (.lst xs)):xs.length≤sizeLine∧∃ (its:List Value) (n:Nat),Vals xs its∧xs.length=its.length∧s.heap.get? l=some { cls:=.type "list",data:=.seq its.toArray n }:=by
  obtain ⟨z,its,n,r,e⟩:=I.hok l _ hH
  exact ⟨z,its,n,r,r.length,e⟩
theorem notLongL {n:Nat} (h:n≤sizeLine):Builtin.List.listTooLong n=false:=by
  unfold Builtin.List.listTooLong
  exact decide_eq_false (by omega)
end
section
variable {X:Cx}
noncomputable def rCat:R2:=fun x y H Q=>∃ l b xs zs,x=.ref l∧y=.ref b∧H l=some (.lst xs)∧H b=some (.lst zs)∧xs.length + zs.length≤sizeLine∧∀ p,H p=none→Q (.ref p) (upd H p (.lst (xs++zs)))
theorem op_cat:OpR X (binaryOp .Add) rCat:=by
  intro pins s σ H x y v u Q I rx ry h
  obtain ⟨l,b,xs,zs,rfl,rfl,hH,hB,hz,q⟩:=h
  cases rx
  cases ry
  obtain ⟨z,its,n,r,hl,e⟩:=I.lstM hH
  obtain ⟨z2,its2,n2,r2,hl2,e2⟩:=I.lstM hB
  refine PySem.P.add_list e e2 ?_ (by rw [List.size_toArray,List.size_toArray]; omega)
  have ea:its.toArray++its2.toArray=(its++its2).toArray:=by simp
  rw [ea]
  exact ⟨.ref _,_,I.lnew (t':=s.toks) (r.append r2) (by rw [List.length_append]; omega),rfl,q _ I.fresh⟩
noncomputable def rRep:R2:=fun x y H Q=>∃ l k xs,x=.ref l∧y=.int k∧H l=some (.lst xs)∧-(2 ^ 63)≤k∧k < 2 ^ 63∧xs.length * k.toNat≤sizeLine ∧
  ∀ p,H p=none→Q (.ref p) (upd H p (.lst (List.replicate k.toNat xs).flatten))
theorem len_rep {α:Type} (xs:List α) (k:Nat):(List.replicate k xs).flatten.length=k * xs.length:=by
  induction k with
  | zero=>simp
  | succ k ih=>rw [List.replicate_succ,List.flatten_cons,List.length_append,ih,Nat.succ_mul,Nat.add_comm]
theorem op_rep:OpR X (binaryOp .Mult) rRep:=by
  intro pins s σ H x y v u Q I rx ry h
  obtain ⟨l,k,xs,rfl,rfl,hH,h1,h2,hz,q⟩:=h
  cases rx
  obtain ⟨t,rfl⟩:=ry
  obtain ⟨z,its,n,r,hl,e⟩:=I.lstM hH
  have hlen:its.toArray.size * k.toNat≤sizeLine:=by rw [List.size_toArray,← hl]; exact hz
  have hcap:¬ its.toArray.size * k.toNat > (2 ^ 63 - 1) / 8:=by
    have:(sizeLine:Nat)≤(2 ^ 63 - 1) / 8:=by decide
    omega
  have hfit:¬ (!Builtin.List.listFitsIndex k)=true:=by
    rw [fitsIndex_both h1 h2]
    exact Bool.false_ne_true
  have hlong:¬ Builtin.List.listTooLong (its.toArray.size * k.toNat)=true:=by
    rw [notLongL hlen]
    exact Bool.false_ne_true
  have hnew:List.foldl (fun x1 x2=>x1++x2) #[] (List.replicate (if its.toArray.isEmpty=true then 0 else k.toNat) its.toArray)=(List.replicate k.toNat its).flatten.toArray:=by
    have f0:∀ m:Nat,List.foldl (fun x1 x2=>x1++x2) #[] (List.replicate m its.toArray)=(List.replicate m its).flatten.toArray:=fun m=>by
      have:=foldl_rep its m []
      rw [List.nil_append] at this
      exact this
    rw [f0]
    cases its with
    | nil=>simp
    | cons a r'=>rw [if_neg (by simp)]
  refine wpAny_binaryOp_repeat_ref (T := "list") (U := "int") (by decide) ⟨_,e,rfl⟩ (fun s'=>typeIs_int s' k t) noFill_list_mul F.fills_int_mul F.slot_int_rmul repeat_list F.slot_int_index.lookup
    (call_meets F.slot_int_rmul (typeIs_int s k t) F.entry_int_rmul (F.args_int_rmul_2 _ _) (int___rmul___int_list k t l its.toArray n)
      ⟨e,rfl,⟨_,e,rfl⟩,call_meets F.slot_list_mul ⟨_,e,rfl⟩ F.entry_list_mul (F.args_list_mul_2 _ _) (AutoListH.list___mul___list_int_3 l its.toArray n k t hfit hcap hlong) ⟨e,?_⟩⟩)
  rw [hnew]
  exact ⟨.ref _,_,I.lnew (t':=s.toks) (r.rep k.toNat) (by rw [len_rep,Nat.mul_comm]; exact hz),rfl,q _ I.fresh⟩
end
section
variable {prog:Program} {w:World} {A:Around} {E:Value→Shared→Prop} {s:Shared}
set_option maxRecDepth 100000 in
end
section
variable {X:Cx}
end
end L2
namespace Att
open PySem PySem.W PySem.Calls PyProof.Rows
theorem ints_of_wellAll {P:Params} {h:Heap}:∀ (ns:List Int) (vs:List Value),WellAll P h vs (ns.map WData.int)→IntsAre vs ns:=by
  intro ns
  induction ns with
  | nil =>
    intro vs w
    rw [List.map_nil] at w
    cases w
    exact .nil
  | cons n ns ih =>
    intro vs w
    rw [List.map_cons] at w
    cases w with
    | cons a b =>
      cases a
      exact .cons _ _ (ih _ b)
theorem script_of {l:OpenLaw} {n:Nat} (hn:l.most=some n) {P:Params} {h:Heap} {args:List WData} {vals:List Value}
    (hpre:l.row.toRowW.claim.pre args=true) (hwl:WellAll P h vals args) :
    ∃ a vs ns,vals=[Value.ref a]∧args=[WData.list (ns.map WData.int)]∧h.get? a=some { cls:=.type "list",data:=.seq vs.toArray }∧IntsAre vs ns∧ns.length≤n:=by
  have hsh:WShape.hasAll [] args [.list .int]=true:=(pre_splitW hpre).1
  have hc:l.pre.holds [] { args:=args }=true:=(pre_splitW hpre).2
  obtain ⟨d,r,rfl,h1,h2⟩:=hasAllW_cons hsh
  obtain rfl:=hasAllW_nil h2
  obtain ⟨xs,rfl,h3⟩:=hasW_list h1
  obtain ⟨ns,rfl⟩:=items_int h3
  have hlen:ns.length≤n:=by
    unfold OpenLaw.pre at hc
    have h4:(WTm.not (.lt (.lit (.int (n:Int))) (.len (.arg 0)))).holds [] { args:=[.list (ns.map .int)] }=true:=by
      have h4:=(holds_andW hc).1
      rw [hn] at h4
      exact h4
    have h5:=condW_of h4 (w_not (w_lt w_lit (w_len_list (w_arg rfl))))
    rw [List.length_map] at h5
    refine Nat.le_of_not_lt fun q=>?_
    have q':(n:Int) < ((ns.length:Nat):Int):=by omega
    first
      | (rw [decide_eq_true q'] at h5; exact absurd h5 (by decide))
      | (simp at h5; omega)
  cases hwl with
  | cons w1 w2 =>
    cases w2
    cases w1 with
    | list ho hall=>exact ⟨_,_,ns,rfl,rfl,ho,ints_of_wellAll ns _ hall,hlen⟩
theorem post_true (l:OpenLaw) (args:List WData):l.row.toRowW.claim.post args (.bool true) args=true :=
  postW_of (r:=l.row.toRowW) (X:=(true == true))
    (show WShape.has [] (.bool true) .bool=true by first | rfl | decide | simp [WShape.has,WShape.arms,WShape.armsAll])
    (show (WTm.eq .res (.lit (.bool true))).value [] { args:=args,res:=some (.bool true),after:=args }=some (.bool (true == true)) from w_eq_bool (w_res rfl) w_lit) rfl
theorem attach_call {l:OpenLaw} {n:Nat} {q:Program} {loose:List Str} {XP:(Str→Option Value)→Heap→Prop} {YP:World→Heap→Prop} {d:DefRec}
    (hn:l.most=some n) (hdf:d.params.defaults=[])
    (call:∀ (w:World) (s₀ s₁:Shared) (mg mb:Str→Option Value) (fa:Addr) (o:Obj) (pm cd doc:Value) (a:Addr) (vs:List Value) (ns:List Int),
      Ground q loose [] XP w s₀ mg mb s₁.heap→YP w s₁.heap →
      s₁.heap.get? fa=some o→o.data=.func (docDef d.name d.params d.body d.scope pm cd doc)→s₁.heap.CodeRec cd d.name→mg d.name=some (.ref fa) →
      s₁.heap.get? a=some { cls:=.type "list",data:=.seq vs.toArray }→IntsAre vs ns→ns.length≤n→s₁.gens=#[] →
      codeAny (model l.prog w) callerA (.call (.ref fa) ⟨[.ref a],[]⟩) (fun r s'=>r=.ok (.ret (.bool true))∧OldK s₁.heap s'.heap∧s'.os=s₁.os∧AllBare s'.gens) s₁) :
    WalkO q loose XP YP l.row.toRowW d [] (fun f vs=>PySem.call f vs):=by
  intro w s₀ s₁ mg mb G Y fa o pm cd doc dV kV ho hd hcd hD hmg hg args vals as hpre hlay hrd hwl hlo
  obtain rfl:dV=.none:=Dflts.none hD hdf
  obtain rfl:kV=.none:=Dflts.noKw hD
  obtain ⟨a,vs,ns,rfl,rfl,hobj,hints,hlen⟩:=script_of hn hpre hwl
  refine enter_call (codeAny_mono (call w s₀ s₁ mg mb fa o pm cd doc a vs ns G Y ho (fd_plain hd) hcd hmg hobj hints hlen hg) fun r s' hq=>?_)
  obtain ⟨rfl,h2,h3,h4⟩:=hq
  exact ⟨.inl ⟨.bool true,.bool true,[],rfl,fun _=>rfl,.bool true,post_true l _,fun _=>⟨List.Pairwise.nil,fun _ hm=>(nomatch hm)⟩⟩,h2,h3,h4⟩
section
variable {prog:Program} {w:World} {A:Around} {E:Value→Shared→Prop} {s:Shared} {K:Frag}
noncomputable def ledger (h:Heap) (L d:Addr):List (Addr×Obj):=(List.range h.objs.size).filterMap fun a=>if a=L∨a=d then none else (h.get? a).map fun o=>(a,o)
end
end Att
namespace L2
open PySem PySem.Spec PyProof.Rows
theorem vals_ints:∀ {vs:List Value} {ns:List Int},IntsAre vs ns→Vals (ns.map V.int) vs
  | _,_,.nil=>.nil
  | _,_,.cons n t h=>.cons ⟨t,rfl⟩ (vals_ints h)
noncomputable def Only (H:Hp):Prop:=∀ b,H b=none∨∃ o xs,H b=some (.frz o (.lst xs))
theorem law_call {P:Program} {w:World} {K:PySem.W.Frag} {mg mb:Str→Option Value} {CX:CXT} {k:Nat} {fa a:Addr} {fd:FuncData} {x:Str} {sp:Sp} {s₁:Shared} {vs:List Value} {ns:List Int}
    (KX:K.In s₁.heap) (hns:s₁.heap.Ns mainGlobals mg) (hb:s₁.heap.Ns builtinsNs mb) (hbb:∀ x:Str,x ≠ "__name__" → mb x=bootBuiltins x) (hlim:s₁.heap.NoLimit) (hg:s₁.gens=#[])
    (ha:s₁.heap.get? a=some { cls:=.type "list",data:=.seq vs.toArray }) (hi:IntsAre vs ns) (hl:ns.length≤sizeLine) (hr:Room k callerA)
    (F:∀ base:Heap,K.In base→base.Ns mainGlobals mg→FnOk P w K mg base CX k fa fd [x] sp) (hbind:∀ (s:Shared) (u:Value),BindsTo s fd ⟨[u],[]⟩ [(x,u)])
    (hsp:∀ H:Hp,Only H→SqL K H a (ns.map V.int)→sp [.ref a] H (fun v _=>v=.bl true) fun _ _ _=>False)
    (hCX:∀ H e s',CX [] H s₁ (fun _ _ _=>False) e s'→False) :
    codeAny (model P w) callerA (.call (.ref fa) ⟨[.ref a],[]⟩) (fun r s'=>r=.ok (.ret (.bool true))∧OldK s₁.heap s'.heap∧s'.os=s₁.os∧AllBare s'.gens) s₁:=by
  have rv:=vals_ints hi
  have lenV:=hi.length
  have core:∀ H:Hp,Only H→SqL K H a (ns.map V.int)→HOk P w H s₁.heap→(∀ b,H b≠none→b=a)→(H a≠none→K.lookup a=none) →
      codeAny (model P w) callerA (.call (.ref fa) ⟨[.ref a],[]⟩) (fun r s'=>r=.ok (.ret (.bool true))∧OldK s₁.heap s'.heap∧s'.os=s₁.os∧AllBare s'.gens) s₁:=by
    intro H hO hS hok hA hK
    have base_of:∀ {b:Addr} {o:Obj},s₁.heap.get? b=some o→H b=none→(hidT s₁.heap H).get? b=some o:=fun e n=>hidT_get e n
    have noA:∀ {b:Addr} {o:Obj} {es:Array DictEntry} {ep:Nat},s₁.heap.get? b=some o→o.data=.dict es ep→H b=none:=fun {b o es ep} e d=>by
      cases q:H b with
      | none=>rfl
      | some u =>
        have e':b=a:=hA b (by rw [q]; simp)
        subst e'
        rw [ha] at e; cases e
        have d':Data.seq vs.toArray _=Data.dict es ep:=d
        cases d'
    have nsK:∀ {b:Addr} {m:Str→Option Value},s₁.heap.Ns b m→(hidT s₁.heap H).Ns b m:=fun {b m} ⟨o,es,ep,e,d,r⟩=>⟨o,es,ep,base_of e (noA e d),d,r⟩
    have hKb:K.In (hidT s₁.heap H):=fun b o e=>base_of (KX b o e) (by
      cases q:H b with
      | none=>rfl
      | some u =>
        have e':b=a:=hA b (by rw [q]; simp)
        subst e'
        rw [hK (by rw [q]; simp)] at e; cases e)
    have hM:Mod K mg (hidT s₁.heap H):=⟨hKb,nsK hns,⟨mb,nsK hb,hbb⟩,let ⟨mc,h1,h2⟩:=hlim; ⟨mc,nsK h1,h2⟩⟩
    have e0:Env0 P w K mg (hidT s₁.heap H) callerA [] s₁ H:=⟨rfl,hM,fun b o e=>of_hidT e,Nat.le_of_eq (hidT_size _ _),trivial,fun b hb=>absurd (show b∈([]:List Addr) from hb) (by simp),hok,.of_eq hg⟩
    refine codeAny_mono ((F _ hKb (nsK hns)).run callerA [] s₁ H ⟨[.ref a],[]⟩ [.ref a] [.ref a] _ _ hr e0 (hbind s₁ (.ref a)) (.cons rfl .nil) (hsp H hO hS)) fun r s' h=>?_
    cases r with
    | error e=>exact (hCX H e s' h).elim
    | ok fl =>
      cases fl with
      | next=>exact False.elim h
      | brk=>exact False.elim h
      | cont=>exact False.elim h
      | ret u =>
        obtain ⟨v,H',os,bare,un,hok',r',q⟩:=h
        have q':v=.bl true:=q
        subst q'
        obtain rfl:u=Value.bool true:=r'
        refine ⟨rfl,OldK.of_keep fun b o e=>?_,os,bare⟩
        cases q:H b with
        | none=>exact un.keep b o e q (by intro z; exact absurd (show b∈([]:List Addr) from z) (by simp)) (by simp)
        | some u =>
          rcases hO b with z | ⟨ob,xs,z⟩
          · rw [q] at z; cases z
          · have z2:=un.frzs b ob _ z
            obtain ⟨e1,_⟩:=hok b _ z
            obtain ⟨e2,_⟩:=hok' b _ z2
            rw [e] at e1; cases e1
            exact e2
  cases hk:K.lookup a with
  | some o =>
    have e:=KX a o hk
    rw [ha] at e
    cases e
    refine core (fun _=>none) (fun _=>.inl rfl) (.inr ⟨_,vs.toArray,_,hk,rfl,rfl,rfl,by rw [List.size_toArray,lenV]; exact hl,by simpa using rv⟩) (fun b u z=>by have z':(none:Option HO)=some u:=z; cases z') (fun b z=>absurd rfl z) fun z=>absurd rfl z
  | none =>
    refine core (fun b=>if b=a then some (.frz { cls:=.type "list",data:=.seq vs.toArray } (.lst (ns.map V.int))) else none) (fun b=>?_) (.inl (.inr ⟨{ cls:=.type "list",data:=.seq vs.toArray },if_pos rfl⟩)) (fun b u z=>?_) (fun b z=>?_) fun _=>hk
    · by_cases hb:b=a
      · exact .inr ⟨_,_,if_pos hb⟩
      · exact .inl (if_neg hb)
    · by_cases hb:b=a
      · have z':=(if_pos hb).symm.trans z
        cases z'
        subst hb
        exact ⟨ha,by rw [List.length_map]; exact hl,vs,_,rv,ha⟩
      · have z':=(if_neg hb).symm.trans z
        cases z'
    · by_cases hb:b=a
      · exact hb
      · exact absurd (if_neg hb) z
end L2
namespace L2
open PySem PySem.Spec PyProof.Rows
noncomputable abbrev KOf {K:PySem.W.Frag} {h:Heap} (_:K.In h):PySem.W.Frag:=K
theorem walk_of {l:PySem.W.OpenLaw} {n k:Nat} {q:Program} {loose:List Str} {XP:(Str→Option Value)→Heap→Prop} {YP:World→Heap→Prop} {d:DefRec} {K:Params→PySem.W.Frag} {CX:World→CXT} {sp:World→Sp} {x:Str}
    (hn:l.most=some n) (hn2:n≤sizeLine) (hdf:d.params.defaults=[]) (hr:Room k callerA)
    (hY:∀ (w:World) (h:Heap),YP w h→(K w.params).In h)
    (F:∀ (w:World) (mg:Str→Option Value) (fa:Addr) (h:Heap),(K w.params).In h→h.Ns mainGlobals mg→mg d.name=some (.ref fa) →
      ∃ fd:FuncData,(∀ (s:Shared) (u:Value),BindsTo s fd ⟨[u],[]⟩ [(x,u)]) ∧
        ∀ base:Heap,(K w.params).In base→base.Ns mainGlobals mg→FnOk l.prog w (K w.params) mg base (CX w) k fa fd [x] (sp w))
    (hsp:∀ (w:World) (H:Hp) (a:Addr) (ns:List Int),ns.length≤n→Only H→SqL (K w.params) H a (ns.map V.int)→sp w [.ref a] H (fun v _=>v=.bl true) fun _ _ _=>False)
    (hCX:∀ (w:World) (H:Hp) (s:Shared) (e:Value) (s':Shared),CX w [] H s (fun _ _ _=>False) e s'→False) :
    PySem.W.WalkO q loose XP YP l.row.toRowW d [] (fun f vs=>PySem.call f vs):=by
  refine Att.attach_call hn hdf fun w s₀ s₁ mg mb fa o pm cd doc a vs ns G Y ho hd hcd hmg hobj hints hlen hg=>?_
  have KX:=hY w _ Y
  obtain ⟨fd,hb,hF⟩:=F w mg fa _ KX G.T.g hmg
  exact law_call KX G.T.g G.T.b G.T.builtins G.T.nolimit hg hobj hints (Nat.le_trans hlen hn2) hr hF hb (fun H hO hS=>hsp w H a ns hlen hO hS) fun H e s'=>hCX w H s₁ e s'
end L2
namespace L2
open PySem PySem.Spec PyProof.Rows
noncomputable def inClass (s:Stmt) (j:Nat):Stmt:=match s with
  | .ClassDef _ _ _ body _ _ _ _ _ _ _=>body.getD j (.Pass ⟨0,0,0,0⟩)
  | _=>.Pass ⟨0,0,0,0⟩
noncomputable def defArgs (s:Stmt):Arguments:=match s with
  | .FunctionDef _ a _ _ _ _ _ _ _ _=>a
  | _=>{ posonlyargs:=[],args:=[],vararg:=none,kwonlyargs:=[],kw_defaults:=[],kwarg:=none,defaults:=[] }
noncomputable def defBody (s:Stmt):List Stmt:=match s with
  | .FunctionDef _ _ b _ _ _ _ _ _ _=>b
  | _=>[]
noncomputable def defScope (s:Stmt):Scope:=match s with
  | .FunctionDef _ _ _ _ _ _ sc _ _ _=>sc
  | _=>{ kind:=.function,names:=[],isGenerator:=false,isCoroutine:=false }
noncomputable abbrev CX0:CXT:=fun _ _ _ _ _ _=>False
noncomputable abbrev E0:XK:=fun _ _ _=>False
theorem pass0 {X:Cx}:Passes CX0 X E0:=fun _ _ _ _ _ _ _ h=>h.elim
structure Fun (K:PySem.W.Frag) (x qual:Str) (st:Stmt) (f:Addr) (fd:FuncData):Prop where
  ex:∃ (oc:Value) (od:Option Addr) (kV doc pm:Value) (an:Option Addr) (cdv ct:Value) (osl:Array (Option Value)),
    fd=PySem.W.fnOf x qual (defArgs st) (defBody st) (defScope st) .none kV doc pm an cdv ct∧K.lookup f=some ⟨oc,od,.func fd,osl⟩∧PySem.W.codeIn K cdv qual=true
  kp:PySem.W.keepIn K (.ref f)=true
section
variable {P:Program} {w:World} {K:PySem.W.Frag} {mg:Str→Option Value} {base:Heap}
theorem Fun.ok {x qual:Str} {st:Stmt} {f:Addr} {fd:FuncData} {N ps:List Str} {k:Nat} {sp:Sp} (F:Fun K x qual st f fd) (S:FnScope N ps (defScope st)) (len:∀ vs H Q E,sp vs H Q E→vs.length=ps.length)
    (hbody:∀ (cdv:Value) (A:Around) (outer:List Env) (s:Shared) (H:Hp) (vs:List V) (Q:VK) (E:XK),Room k (A.deeper (envOfC qual (defScope st) s.heap.objs.size f cdv))→sp vs H Q E →
      ∃ t,PSs (cxOf CX0 P w K mg base N qual (defScope st) f cdv A outer s H E).nox (defBody st) t∧t { nx:=fun _ H'=>Q .non H',rt:=Q } (start N vs) H):FnOk P w K mg base CX0 (k + 1) f fd ps sp:=by
  obtain ⟨oc,od,kV,doc,pm,an,cdv,ct,osl,rfl,lk,hcd⟩:=F.ex
  refine fn_of lk hcd S len fun A outer s H vs Q E hr hsp=>?_
  obtain ⟨t,h,q⟩:=hbody cdv A outer s H vs Q E hr hsp
  exact ⟨t,h.nox,q⟩
theorem Fun.binds {x qual:Str} {st:Stmt} {f:Addr} {fd:FuncData} {ps:List Str} (F:Fun K x qual st f fd)
    (h:∀ (kV doc pm:Value) (an:Option Addr) (cdv ct:Value) (us:List Value),us.length=ps.length→bindArgs (PySem.W.fnOf x qual (defArgs st) (defBody st) (defScope st) .none kV doc pm an cdv ct) ⟨us,[]⟩=pure (ps.zip us)):Binds K fd ps []:=by
  obtain ⟨oc,od,kV,doc,pm,an,cdv,ct,osl,rfl,lk,hcd⟩:=F.ex
  exact .all (h kV doc pm an cdv ct)
end
section
variable {X:Cx}
theorem pv (i:Nat) {x:Str} {pos:Pos} (hN:X.N[i]?=some x:=by rfl) (hv:Vis X.env.scope x:=by walk_at "v3") (hd:(x == ("__debug__" : Str))=false:=by decide)
    (hcd:(x == ("__classdict__" : Str))=false:=by decide):PE X (.Name x pos) (tVar i):=pe_var hN hv hd hcd
end
noncomputable def Same (H H':Hp):Prop:=∀ b o,H b=some o→H' b=some o
theorem Same.refl (H:Hp):Same H H:=fun _ _ h=>h
theorem Same.trans {H H1 H2:Hp} (a:Same H H1) (b:Same H1 H2):Same H H2:=fun c o h=>b c o (a c o h)
theorem Same.free {H H':Hp} (e:Same H H') {l:Addr} (h:H' l=Option.none):H l=Option.none:=by
  cases q:H l with
  | none=>rfl
  | some o =>
    rw [e l o q] at h
    cases h
end L2
set_option Elab.async false
set_option linter.all false
set_option maxRecDepth 100000
namespace L2
open PySem PySem.Spec PyProof.Rows
section
variable {κ:Type} [DecidableEq κ]
noncomputable def valV (kvs:List (κ×V)) (k:κ):Option V:=(kvs.find? fun kv=>decide (kv.1=k)).map (·.2)
noncomputable def putK (kvs:List (κ×V)) (k:κ) (v:V):List (κ×V) :=
  if (kvs.any fun kv=>decide (kv.1=k))=true then kvs.map (fun kv=>if kv.1=k then (kv.1,v) else kv) else kvs++[(k,v)]
theorem valV_pos {p:κ×V} {r:List (κ×V)} {k:κ} (e:p.1=k):valV (p :: r) k=some p.2:=by simp [valV,List.find?_cons,e]
theorem valV_neg {p:κ×V} {r:List (κ×V)} {k:κ} (e:¬ p.1=k):valV (p :: r) k=valV r k:=by simp [valV,List.find?_cons,e]
theorem valV_any (k:κ):∀ kvs:List (κ×V),(kvs.any fun kv=>decide (kv.1=k))=(valV kvs k).isSome
  | []=>rfl
  | p :: r=>by
    rw [List.any_cons]
    by_cases e:p.1=k
    · simp only [valV_pos e,decide_eq_true e,Bool.true_or,Option.isSome_some]
    · rw [valV_neg e,decide_eq_false e,Bool.false_or]; exact valV_any k r
theorem length_putK (kvs:List (κ×V)) (k:κ) (v:V):(putK kvs k v).length≤kvs.length + 1:=by
  unfold putK
  split
  · rw [List.length_map]; omega
  · rw [List.length_append,List.length_cons,List.length_nil]; omega
theorem RelO.isSome_eq {o:Option V} {u:Option Value} (r:RelO o u):o.isSome=u.isSome:=by
  cases o with
  | none=>cases u with
    | none=>rfl
    | some _=>exact (show False from r).elim
  | some _=>cases u with
    | none=>exact (show False from r).elim
    | some _=>rfl
theorem RelO.getD {o:Option V} {u:Option Value} {d:V} {d':Value} (r:RelO o u) (rd:RelV d d'):RelV (o.getD d) (u.getD d'):=by
  cases o with
  | none=>cases u with
    | none=>exact rd
    | some _=>exact (show False from r).elim
  | some _=>cases u with
    | none=>exact (show False from r).elim
    | some _=>exact r
theorem KV.val {kvs:List (κ×V)} {vs:List (κ×Value)} (r:KV kvs vs) (k:κ):RelO (valV kvs k) (valueAt vs k):=by
  unfold KV at r
  induction r with
  | nil=>exact True.intro
  | @cons p q ps qs h t ih =>
    obtain ⟨h1,h2⟩:=h
    by_cases e:p.1=k
    · have e':q.1=k:=h1.symm.trans e
      have b:valueAt (q :: qs) k=some q.2:=by simp [valueAt,List.find?_cons,e']
      rw [valV_pos e,b]; exact h2
    · have e':¬ q.1=k:=fun z=>e (h1.trans z)
      have b:valueAt (q :: qs) k=valueAt qs k:=by simp [valueAt,List.find?_cons,e']
      rw [valV_neg e,b]; exact ih
theorem KV.any {kvs:List (κ×V)} {vs:List (κ×Value)} (r:KV kvs vs) (k:κ):(kvs.any fun kv=>decide (kv.1=k))=vs.any fun kv=>decide (kv.1=k):=by
  unfold KV at r
  induction r with
  | nil=>rfl
  | cons h t ih=>rw [List.any_cons,List.any_cons,ih,h.1]
theorem KV.repl {kvs:List (κ×V)} {vs:List (κ×Value)} (r:KV kvs vs) (k:κ) {y:V} {u:Value} (ry:RelV y u) :
    KV (kvs.map fun kv=>if kv.1=k then (kv.1,y) else kv) (vs.map fun kv=>if kv.1=k then (kv.1,u) else kv):=by
  unfold KV at r ⊢
  induction r with
  | nil=>exact .nil
  | @cons p q ps qs h t ih =>
    rw [List.map_cons,List.map_cons]
    refine .cons ?_ ih
    obtain ⟨h1,h2⟩:=h
    by_cases e:p.1=k
    · rw [if_pos e,if_pos (h1.symm.trans e)]; exact ⟨h1,ry⟩
    · rw [if_neg e,if_neg (fun z=>e (h1.trans z))]; exact ⟨h1,h2⟩
theorem KV.put {kvs:List (κ×V)} {vs:List (κ×Value)} (r:KV kvs vs) (k:κ) {y:V} {u:Value} (ry:RelV y u):KV (putK kvs k y) (stored vs k u):=by
  unfold putK stored
  rw [r.any k]
  by_cases e:(vs.any fun kv=>decide (kv.1=k))=true
  · rw [if_pos e,if_pos e]; exact r.repl k ry
  · rw [if_neg e,if_neg e]; exact Paired.snoc r ⟨rfl,ry⟩
theorem KV.keys {kvs:List (κ×V)} {vs:List (κ×Value)} (r:KV kvs vs):kvs.map (·.1)=vs.map (·.1):=by
  unfold KV at r
  induction r with
  | nil=>rfl
  | cons h t ih=>rw [List.map_cons,List.map_cons,ih,h.1]
theorem KV.length {kvs:List (κ×V)} {vs:List (κ×Value)} (r:KV kvs vs):kvs.length=vs.length:=Paired.length r
end
theorem kV_is {P:Program} {w:World} {k:Key} {u:Value} (r:RelV (kV k) u):(mixKind P w).is k u=true:=by
  cases k with
  | inl i=>obtain ⟨t,e⟩:=(show ∃ t,u=Value.int i t from r); subst e; exact mixKind_int P w i t
  | inr x=>obtain ⟨t,e⟩:=(show ∃ t,u=Value.str x t from r); subst e; exact mixKind_str P w x t
theorem items_are {P:Program} {w:World}:∀ {ks:List Key} {us:List Value},Vals (ks.map kV) us→ItemsAre (mixKind P w) ks us
  | [],_,r=>by rw [List.map_nil] at r; cases r; exact .nil
  | k :: ks,_,r=>by
    rw [List.map_cons] at r
    cases r with
    | cons h t=>exact .cons (kV_is h) (items_are t)
noncomputable abbrev KT (H:Hp):List (List Key×V)→List (List Key×Addr×Value)→Prop:=Paired fun p q=>p.1=q.1∧H q.2.1=some (.tup (p.1.map kV))∧RelV p.2 q.2.2
theorem KT.val {H:Hp} {kvs:List (List Key×V)} {xs:List (List Key×Addr×Value)} (r:KT H kvs xs) (k:List Key):RelO (valV kvs k) ((atKey xs k).map (·.2)):=by
  induction r with
  | nil=>exact True.intro
  | @cons p q ps qs h t ih =>
    obtain ⟨h1,_,h2⟩:=h
    by_cases e:p.1=k
    · have e':q.1=k:=h1.symm.trans e
      have b:atKey (q :: qs) k=some q.2:=by simp [atKey,List.find?_cons,e']
      rw [valV_pos e,b]; exact h2
    · have e':¬ q.1=k:=fun z=>e (h1.trans z)
      have b:atKey (q :: qs) k=atKey qs k:=by simp [atKey,List.find?_cons,e']
      rw [valV_neg e,b]; exact ih
theorem KT.repl {H:Hp} {kvs:List (List Key×V)} {xs:List (List Key×Addr×Value)} (r:KT H kvs xs) (k:List Key) {y:V} {u:Value} (ry:RelV y u) :
    KT H (kvs.map fun kv=>if kv.1=k then (kv.1,y) else kv) (xs.map (putAt k u)):=by
  induction r with
  | nil=>exact .nil
  | @cons p q ps qs h t ih =>
    rw [List.map_cons,List.map_cons]
    refine .cons ?_ ih
    obtain ⟨h1,h2,h3⟩:=h
    unfold putAt
    by_cases e:p.1=k
    · rw [if_pos e,if_pos (h1.symm.trans e)]; exact ⟨h1,h2,ry⟩
    · rw [if_neg e,if_neg (fun z=>e (h1.trans z))]; exact ⟨h1,h2,h3⟩
theorem KT.put {H:Hp} {kvs:List (List Key×V)} {xs:List (List Key×Addr×Value)} (r:KT H kvs xs) (k:List Key) {b:Addr} {y:V} {u:Value} (hb:H b=some (.tup (k.map kV))) (ry:RelV y u) :
    KT H (putK kvs k y) (storedH xs k b u):=by
  have e:(kvs.any fun kv=>decide (kv.1=k))=(atKey xs k).isSome:=by
    rw [valV_any,(r.val k).isSome_eq,Option.isSome_map]
  unfold putK storedH
  rw [e]
  by_cases q:(atKey xs k).isSome=true
  · rw [if_pos q,if_pos q]; exact r.repl k ry
  · rw [if_neg q,if_neg q]; exact Paired.snoc r ⟨rfl,hb,ry⟩
theorem KT.keeps {H H':Hp} {kvs:List (List Key×V)} {xs:List (List Key×Addr×Value)} (r:KT H kvs xs) (ht:∀ b ys,H b=some (.tup ys)→H' b=some (.tup ys)):KT H' kvs xs :=
  Paired.mapP r fun _ _ z=>⟨z.1,ht _ _ z.2.1,z.2.2⟩
section
variable {P:Program} {w:World} {H:Hp} {h:Heap} {a:Addr}
theorem rd_of {u:HO} (ok:HOk P w H h) (e:Rd H a u):ObjOk P w H h a u:=e.ok ok
theorem dk_rd {kvs:List (Key×V)} (ok:HOk P w H h) (e:Rd H a (.dK kvs)):kvs.length≤sizeLine∧(a == sysModules)=false∧∃ vs,KV kvs vs∧h.DictOf (mixKind P w) a vs :=
  show ObjOk P w H h a (.dK kvs) from rd_of ok e
theorem dk_of {kvs:List (Key×V)} (ok:HOk P w H h) (e:H a=some (.dK kvs)):kvs.length≤sizeLine∧(a == sysModules)=false∧∃ vs,KV kvs vs∧h.DictOf (mixKind P w) a vs:=dk_rd ok (.inl e)
theorem key_of {ks:List Key} (ok:HOk P w H h) (e:H a=some (.tup (ks.map kV))):(tupleKind (mixKind P w)).is h ks a:=by
  obtain ⟨_,its,r,o,h1,h2,n,h3⟩:=(show ObjOk P w H h a (.tup (ks.map kV)) from ok a _ e)
  exact ⟨o,its.toArray,n,h1,h2,h3,by simpa using items_are r⟩
theorem dt_rd {kvs:List (List Key×V)} (ok:HOk P w H h) (e:Rd H a (.dT kvs)):kvs.length≤sizeLine∧(a == sysModules)=false ∧
    ∃ xs,KT H kvs xs∧h.DictOfH (tupleKind (mixKind P w)) a xs:=by
  obtain ⟨z,y,xs,r,o,es,ep,h1,h2,h3,h4,h5⟩:=(show ObjOk P w H h a (.dT kvs) from rd_of ok e)
  refine ⟨z,y,xs,r,o,es,ep,h1,h2,h3,h4,fun x hx=>?_,h5⟩
  have all:∀ {l:List (List Key×V)} {m:List (List Key×Addr×Value)},KT H l m→∀ x∈m,(tupleKind (mixKind P w)).is h x.1 x.2.1:=by
    intro l m q
    induction q with
    | nil=>intro x hx; exact nomatch hx
    | @cons p q ps qs hq t ih =>
      intro x hx
      rcases List.mem_cons.mp hx with e | hx
      · subst e
        exact key_of ok (by rw [← hq.1]; exact hq.2.1)
      · exact ih x hx
  exact all r x hx
theorem dt_of {kvs:List (List Key×V)} (ok:HOk P w H h) (e:H a=some (.dT kvs)):kvs.length≤sizeLine∧(a == sysModules)=false ∧
    ∃ xs,KT H kvs xs∧h.DictOfH (tupleKind (mixKind P w)) a xs:=dt_rd ok (.inl e)
end
noncomputable def DGet (H:Hp) (a:Addr) (y:V) (r:Option V):Prop :=
  (∃ kvs k,Rd H a (.dK kvs)∧y=kV k∧r=valV kvs k)∨∃ kvs k b,Rd H a (.dT kvs)∧y=.ref b∧H b=some (.tup (k.map kV))∧r=valV kvs k
noncomputable def DPut (H:Hp) (a:Addr) (y v:V) (H':Hp):Prop :=
  (∃ kvs k,H a=some (.dK kvs)∧y=kV k∧kvs.length < sizeLine∧H'=upd H a (.dK (putK kvs k v))) ∨
  ∃ kvs k b,H a=some (.dT kvs)∧y=.ref b∧H b=some (.tup (k.map kV))∧kvs.length < sizeLine∧H'=upd H a (.dT (putK kvs k v))
theorem DPut.k {H:Hp} {a:Addr} {kvs:List (Key×V)} {k:Key} {v:V} (e:H a=some (.dK kvs)) (hl:kvs.length < sizeLine):DPut H a (kV k) v (upd H a (.dK (putK kvs k v))):=.inl ⟨kvs,k,e,rfl,hl,rfl⟩
section
variable {X:Cx} {pins:List (Addr×Obj)} {σ:St} {H:Hp} {s:Shared} {a:Addr} {y v:V} {u r:Value} {o:Option V} {A:Around} {E:Value→Shared→Prop}
theorem Inv.big (I:Inv X pins σ H s):sysModules < s.heap.objs.size:=by
  have h:mainGlobals < s.heap.objs.size:=(I.mod.glob.keeps I.bk).lt
  exact Nat.lt_trans (by decide) h
theorem d_write {h':Heap} {t':Nat} {ob:HO} (I:Inv X pins σ H s) (mu:Mut (H a)) (hs:Heap.SameBut a s.heap h') (he:∃ q,h'.get? a=some q) (new:ObjOk X.prog X.w (upd H a ob) h' a ob) :
    Inv X pins σ (upd H a ob) { s with heap:=h',toks:=t' } :=
  I.write (x:=a) (e:=a) mu (.inl rfl) (fun b q hb z=>(hs.2 b hb).trans z) he new
theorem dk_new {P:Program} {w:World} {H':Hp} {h':Heap} {kvs:List (Key×V)} {vs:List (Key×Value)} (z:kvs.length≤sizeLine) (hd:(a == sysModules)=false) (rel:KV kvs vs) (dd:h'.DictOf (mixKind P w) a vs) :
    ObjOk P w H' h' a (.dK kvs):=⟨z,hd,vs,rel,dd⟩
theorem d_setItem {H':Hp} {Q:Unit→Shared→Prop} (hu:A.units + 1 < cLine) (I:Inv X pins σ H s) (g:DPut H a y v H') (ry:RelV y u) (rv:RelV v r) (h:∀ s',Inv X pins σ H' s'→Q () s') :
    wpAny (model X.prog X.w) A (setItem (.ref a) u r) Q E s:=by
  rcases g with ⟨kvs,k,e,ey,l,eH⟩ | ⟨kvs,k,b,e,ey,eb,l,eH⟩
  · subst ey eH
    obtain ⟨z,hd,vs,rel,dd⟩:=dk_of I.hok e
    have hz:vs.length≤sizeLine:=by rw [← rel.length]; exact z
    have hl:(putK kvs k v).length≤sizeLine:=by have:=length_putK kvs k v; omega
    refine wpAny_setItem_pairs (hsz:=hz) (kV_is ry) dd fun h' dd' hs=>h _ ?_
    have he:∃ q,h'.get? a=some q:=let ⟨q,_,_,hq,_⟩:=dd'; ⟨q,hq⟩
    exact d_write I (by rw [e]; exact True.intro) hs he (dk_new hl hd (rel.put k rv) dd')
  · subst ey eH
    cases (show u=Value.ref b from ry)
    obtain ⟨z,hd,xs,rel,dd⟩:=dt_of I.hok e
    have hz:xs.length≤sizeLine:=by rw [← Paired.length rel]; exact z
    have hl:(putK kvs k v).length≤sizeLine:=by have:=length_putK kvs k v; omega
    refine wpAny_setItem_heap (hsz:=hz) (tupleKind_room_in1 hu) (key_of I.hok eb) dd fun h' dd' hs=>h _ ?_
    obtain ⟨q,es,ep,hq,h2,h3,h4,_,h5⟩:=dd'
    refine d_write I (by rw [e]; exact True.intro) hs ⟨q,hq⟩ ⟨hl,hd,_,(rel.put k eb rv).keeps fun c ys ec=>?_,q,es,ep,hq,h2,h3,h4,h5⟩
    rw [upd_ne (ne_of ec e (fun z=>nomatch z))]
    exact ec
end
section
variable {X:Cx} {pins:List (Addr×Obj)} {σ:St} {H:Hp} {s:Shared} {a:Addr} {kvs:List (Key×V)} {k:Key} {u:Value} {A:Around} {E:Value→Shared→Prop}
end
noncomputable def sDPut (td ty tv:TE):TS:=fun D σ H=>tv σ H fun v H1=>td σ H1 fun x H2=>ty σ H2 fun y H3=>∃ a H4,x=.ref a∧DPut H3 a y v H4∧D.nx σ H4
section
variable {X:Cx} {o i e value:Expr} {pos pos' tpos:Pos} {td ty tv:TE}
theorem ps_dput (hu:X.A.units + 1 < cLine) (ho:PE X o td) (hi:PE X i ty) (hv:PE X value tv) (hs:swapsWith value (some (.Subscript o i pos')) pos.line X.env=pure false) :
    PS X (.Assign [.Subscript o i pos'] value pos) (sDPut td ty tv):=by
  intro pins s σ H D I h
  refine wpAny_Assign_Subscript (thn (hv pins s σ H _ I h) fun r s1 ⟨v,H1,I1,rv,q1⟩=>thn (ho pins s1 σ H1 _ I1 q1) fun u s2 ⟨x,H2,I2,rx,q2⟩=>thn (hi pins s2 σ H2 _ I2 q2) fun iv s3 ⟨y,H3,I3,ry,a,H4,ex,g,q3⟩=>?_) hs
  subst ex
  obtain rfl:u=Value.ref a:=rx
  exact d_setItem hu I3 g ry rv fun s4 I4=>⟨σ,H4,I4,q3⟩
end
theorem dk_empty {P:Program} {w:World} {H:Hp} (h:Heap) (hb:sysModules < h.objs.size):ObjOk P w H (h.push { cls:=.type "dict",data:=.dict #[] }) h.objs.size (.dK []) :=
  ⟨Nat.zero_le _,beq_eq_false_iff_ne.mpr (Ne.symm (Nat.ne_of_lt hb)),[],.nil,Heap.DictOf.new h⟩
noncomputable def tDNewK:TE:=fun _ H Q=>∀ p,H p=none→Q (.ref p) (upd H p (.dK []))
section
variable {X:Cx} {pos:Pos}
theorem pe_dnewK:PE X (.Dict [] [] pos) tDNewK:=fun pins s σ H Q I h =>
  wpAny_Dict_empty ⟨.ref s.heap.objs.size,_,I.laid (a:=s.heap.objs.size) (o:=.dK []) (t':=s.toks) (fun _ _ q=>Heap.get?_push_of_some _ q) (Nat.le_refl _) (dk_empty s.heap I.big),rfl,h _ (I.hok.fresh (Nat.le_refl _))⟩
end
noncomputable def tPairs:List (TE×TE)→St→Hp→(List (V×V)→Hp→Prop)→Prop
  | [],_,H,Q=>Q [] H
  | (tk,tv) :: r,σ,H,Q=>tk σ H fun x H1=>tv σ H1 fun y H2=>tPairs r σ H2 fun ps H3=>Q ((x,y) :: ps) H3
noncomputable abbrev VV:List (V×V)→List (Value×Value)→Prop:=Paired fun p q=>RelV p.1 q.1∧RelV p.2 q.2
noncomputable def PPs (X:Cx) (pos:Pos) (keys:List (Option Expr)) (values:List Expr) (trs:List (TE×TE)):Prop :=
  ∀ (pins:List (Addr×Obj)) (s:Shared) (σ:St) (H:Hp) (Q:List (V×V)→Hp→Prop),Inv X pins σ H s→tPairs trs σ H Q →
    wpAny (model X.prog X.w) X.A (evalPairs (pairTrees keys values X.env pos)) (fun vs s'=>∃ ps H',Inv X pins σ H' s'∧VV ps vs∧Q ps H') X.xe s
theorem pps_nil {X:Cx} {pos:Pos}:PPs X pos [] [] []:=fun pins s σ H Q I h=>pairTrees_nil_walk ⟨[],H,I,.nil,h⟩
theorem pps_cons {X:Cx} {pos:Pos} {k v:Expr} {ks:List (Option Expr)} {vs:List Expr} {tk tv:TE} {trs:List (TE×TE)} (hk:PE X k tk) (hv:PE X v tv) (hr:PPs X pos ks vs trs) :
    PPs X pos (some k :: ks) (v :: vs) ((tk,tv) :: trs):=fun pins s σ H Q I h =>
  pairTrees_cons_walk (thn (hk pins s σ H _ I h) fun u s1 ⟨x,H1,I1,rx,q1⟩=>thn (hv pins s1 σ H1 _ I1 q1) fun w2 s2 ⟨y,H2,I2,ry,q2⟩ =>
    thn (hr pins s2 σ H2 _ I2 q2) fun ws s3 ⟨ps,H3,I3,rel,q3⟩=>⟨(x,y) :: ps,H3,I3,.cons ⟨rx,ry⟩ rel,q3⟩)
noncomputable def mergeK (kvs more:List (Key×V)):List (Key×V):=more.foldl (fun acc kv=>putK acc kv.1 kv.2) kvs
theorem KV.merge:∀ {more:List (Key×V)} {rs:List (Key×Value)} {kvs:List (Key×V)} {vs:List (Key×Value)},KV more rs→KV kvs vs→KV (mergeK kvs more) (merged vs rs):=by
  intro more rs kvs vs r
  unfold KV at r
  induction r generalizing kvs vs with
  | nil=>intro q; exact q
  | @cons p q ps qs h t ih =>
    intro r0
    have e:KV (putK kvs p.1 p.2) (stored vs q.1 q.2):=by
      have:=r0.put p.1 h.2
      rw [← h.1]; exact this
    exact ih e
theorem length_mergeK:∀ (more kvs:List (Key×V)),(mergeK kvs more).length≤kvs.length + more.length
  | [],kvs=>by show kvs.length≤kvs.length + 0; omega
  | p :: r,kvs=>by
    have h1:=length_mergeK r (putK kvs p.1 p.2)
    have h2:=length_putK kvs p.1 p.2
    show (mergeK (putK kvs p.1 p.2) r).length≤_
    rw [List.length_cons]; omega
theorem carries_of {P:Program} {w:World}:∀ {kvs:List (Key×V)} {ws:List (Value×Value)},VV (kvs.map fun kv=>(kV kv.1,kv.2)) ws→∃ rs,Carries (mixKind P w) ws rs∧KV kvs rs
  | [],_,r=>by rw [List.map_nil] at r; cases r; exact ⟨[],True.intro,.nil⟩
  | p :: kvs,_,r=>by
    rw [List.map_cons] at r
    cases r with
    | @cons a b as bs h t =>
      obtain ⟨rs,c,q⟩:=carries_of (P:=P) (w:=w) t
      obtain ⟨b1,b2⟩:=b
      exact ⟨(p.1,b2) :: rs,⟨kV_is h.1,rfl,c⟩,.cons ⟨rfl,h.2⟩ q⟩
noncomputable def tDisp (trs:List (TE×TE)):TE:=fun σ H Q=>∀ p,H p=none→tPairs trs σ (upd H p (.dK [])) fun ps H2=>H2 p=some (.dK [])∧∃ kvs:List (Key×V),ps=kvs.map (fun kv=>(kV kv.1,kv.2))∧kvs.length≤15∧Q (.ref p) (upd H2 p (.dK (mergeK [] kvs)))
theorem pe_disp {X:Cx} {pos:Pos} {keys:List (Option Expr)} {values:List Expr} {trs:List (TE×TE)} (h:PPs X pos keys values trs) (hall:keys.all (·.isSome)=true) (hl:keys.length=values.length) (h0:keys≠[])
    (h15:keys.length≤15):PE X (.Dict keys values pos) (tDisp trs):=by
  intro pins s σ H Q I q
  have hn:=I.hok.fresh (Nat.le_refl s.heap.objs.size)
  have I1:=I.laid (a:=s.heap.objs.size) (o:=.dK []) (h':=s.heap.push { cls:=.type "dict",data:=.dict #[] }) (t':=s.toks) (fun _ _ q=>Heap.get?_push_of_some _ q) (Nat.le_refl _) (dk_empty s.heap I.big)
  refine wpAny_Dict_walk (knd:=mixKind X.prog X.w) hall hl h0 h15 (thn (h pins _ σ _ _ I1 (q _ hn)) fun ws s2 ⟨ps,H2,I2,rel,e,kvs,ep,lk,q2⟩=>?_)
  subst ep
  obtain ⟨rs,c,rk⟩:=carries_of (P:=X.prog) (w:=X.w) rel
  obtain ⟨z,hd,vs0,r0,dd⟩:=dk_of I2.hok e
  cases r0
  refine ⟨rs,c,dd,fun h' dd' hs=>⟨.ref s.heap.objs.size,_,?_,rfl,q2⟩⟩
  have hz:(mergeK [] kvs).length≤sizeLine:=by
    have h1:=length_mergeK kvs []
    rw [List.length_nil] at h1
    rw [sizeLine_eq]; omega
  have he:∃ q,h'.get? s.heap.objs.size=some q:=let ⟨q,_,_,hq,_⟩:=dd'; ⟨q,hq⟩
  exact d_write I2 (by rw [e]; exact True.intro) hs he (dk_new hz hd (rk.merge .nil) dd')
structure M1 (X:Cx) (o:Expr) (m:Str) (apos:Pos) (e:Expr) (cpos:Pos):Prop where
  base:attributeBase o m X.env (eval o X.env)=eval o X.env
  few:((backTo cpos (starEach [e] X.env)).all (fun x=>!x.1) && (backToKw cpos (keywordEach [] X.env)).all (fun x=>x.1.isSome)
    && decide (([e]:List Expr).length + ([]:List Keyword).length + (if ([]:List Keyword).isEmpty then 0 else 1) < 30))=true
  line:(apos.endLine == cpos.line)=true
  trees:backTo cpos (starEach [e] X.env)=[(false,eval e X.env)]
structure M2 (X:Cx) (o:Expr) (m:Str) (apos:Pos) (e f:Expr) (cpos:Pos):Prop where
  base:attributeBase o m X.env (eval o X.env)=eval o X.env
  few:((backTo cpos (starEach [e,f] X.env)).all (fun x=>!x.1) && (backToKw cpos (keywordEach [] X.env)).all (fun x=>x.1.isSome)
    && decide (([e,f]:List Expr).length + ([]:List Keyword).length + (if ([]:List Keyword).isEmpty then 0 else 1) < 30))=true
  line:(apos.endLine == cpos.line)=true
  trees:backTo cpos (starEach [e,f] X.env)=[(false,eval e X.env),(false,eval f X.env)]
noncomputable def IsD (H:Hp) (a:Addr):Prop:=(∃ kvs,Rd H a (.dK kvs))∨∃ kvs,Rd H a (.dT kvs)
theorem isD_at {X:Cx} {pins:List (Addr×Obj)} {σ:St} {H:Hp} {s:Shared} {a:Addr} (I:Inv X pins σ H s) (d:IsD H a) :
    s.TypeIs (.ref a) "dict" ∧ (∀ b,Value.ref a=.ref b→∃ ob,s.heap.get? b=some ob∧ob.dict=none)∧(a == sysModules)=false:=by
  rcases d with ⟨kvs,e⟩ | ⟨kvs,e⟩
  · obtain ⟨_,hd,vs,_,dd⟩:=dk_rd I.hok e
    refine ⟨dd.typeIs,fun b q=>?_,hd⟩
    cases q
    obtain ⟨ob,_,_,h1,h2,_⟩:=dd
    exact ⟨ob,h1,h2.2.1⟩
  · obtain ⟨_,hd,xs,_,dd⟩:=dt_rd I.hok e
    refine ⟨dd.typeIs,fun b q=>?_,hd⟩
    cases q
    obtain ⟨ob,_,_,h1,h2,_⟩:=dd
    exact ⟨ob,h1,h2.2.1⟩
section
variable {X:Cx} {pins:List (Addr×Obj)} {σ:St} {H:Hp} {s:Shared} {a:Addr} {y d:V} {u r:Value} {o:Option V} {A:Around} {E:Value→Shared→Prop}
theorem d_get2 {Q:Value→Shared→Prop} (hu:A.units + 1 < cLine) (I:Inv X pins σ H s) (g:DGet H a y o) (ry:RelV y u) (rd:RelV d r) (h:∀ w' s',Inv X pins σ H s'→RelV (o.getD d) w'→Q w' s') :
    wpAny (model X.prog X.w) A (call (.builtin "dict.get") [.ref a,u,r]) Q E s:=by
  rcases g with ⟨kvs,k,e,ey,l⟩ | ⟨kvs,k,b,e,ey,eb,l⟩
  · subst ey
    obtain ⟨z,hd,vs,rel,dd⟩:=dk_rd I.hok e
    refine call_meetsIn PySem.F.slot_dict_get dd.typeIs PySem.F.entry_dict_get (PySem.F.args_dict_get_3 _ _ _) (meets_dict_get_default (mixKind X.prog X.w) a (kV_is ry) hd r) ⟨_,dd.mapOf,h _ _ (I.tok _) ?_⟩
    rw [l]
    exact (rel.val k).getD rd
  · subst ey
    cases (show u=Value.ref b from ry)
    obtain ⟨z,hd,xs,rel,dd⟩:=dt_rd I.hok e
    refine call_meetsIn PySem.F.slot_dict_get dd.typeIs PySem.F.entry_dict_get (PySem.F.args_dict_get_3 _ _ _) (meetsH_dict_get_default (tupleKind (mixKind X.prog X.w)) a b hd r) ⟨tupleKind_room_in1 hu,k,xs,key_of I.hok eb,dd,h _ _ (I.tok _) ?_⟩
    rw [l]
    exact (rel.val k).getD rd
end
noncomputable def tDGet2 (td ty tx:TE):TE:=fun σ H Q=>td σ H fun x H1=>∃ a,x=.ref a∧IsD H1 a∧ty σ H1 fun y H2=>tx σ H2 fun z H3=>∃ o,DGet H3 a y o∧Q (o.getD z) H3
section
variable {X:Cx} {o e f:Expr} {apos cpos:Pos} {td ty tx:TE}
theorem pe_dget2 (hu:X.A.units + 1 < cLine) (ho:PE X o td) (he:PE X e ty) (hf:PE X f tx) (m:M2 X o "get" apos e f cpos):PE X (.Call (.Attribute o "get" apos) [e,f] [] cpos) (tDGet2 td ty tx):=by
  intro pins s σ H Q I h
  refine wpAny_Call_method m.base m.few m.line PySem.F.plainAttrs_dict PySem.F.slot_dict_get PySem.F.type_dict_get (thn (ho pins s σ H _ I h) fun u s1 ⟨x,H1,I1,rx,a,ex,d,q1⟩=>?_)
  subst ex
  obtain rfl:u=Value.ref a:=rx
  obtain ⟨t1,t2,_⟩:=isD_at I1 d
  refine ⟨t1,t2,?_⟩
  rw [m.trees]
  refine Calls.callWith_builtin rfl (Calls.evalArgs_plain (Calls.spliced_cons (thn (he pins s1 σ H1 _ I1 q1) fun iv s2 ⟨y,H2,I2,ry,q2⟩ =>
    Calls.spliced_cons (thn (hf pins s2 σ H2 _ I2 q2) fun fv s3 ⟨z,H3,I3,rz,ov,g,q3⟩=>Calls.spliced_nil ?_))))
  exact d_get2 hu I3 g ry rz fun w' s4 I4 rw'=>⟨_,H3,I4,rw',q3⟩
end
section
variable {X:Cx} {pins:List (Addr×Obj)} {σ:St} {H:Hp} {s:Shared} {a:Addr} {kvs:List (Key×V)} {A:Around} {E:Value→Shared→Prop}
end
section
variable {X:Cx} {pins:List (Addr×Obj)} {σ:St} {H:Hp} {s:Shared} {a:Addr} {y:V} {u:Value} {A:Around} {E:Value→Shared→Prop}
end
end L2
set_option Elab.async false
set_option linter.all false
set_option maxRecDepth 100000
set_option maxHeartbeats 4000000
namespace PySem.W
open PySem PySem.Calls PyProof.Rows Builtin Builtin.ObjectAttr Builtin.Getset_descriptor
section
variable {prog:Program} {w:World} {A:Around} {E:Value→Shared→Prop} {R:Result→Shared→Prop} {h:Heap} {g:Array GenState} {d:Drawn} {t:Nat} {os:OsState}
variable {nm q:Str} {C N:Addr} {bs bm bmB:List Value} {hdct:Bool} {sn:List Str} {sub:List Value} {ab:Bool} {col:Option Bool} {dd:Option Addr} {k0 k1 k2 k3 k5:Option Value} {B newId initId:String}
noncomputable abbrev xObj (C t:Addr):Obj:={ cls:=.ref C,data:=.fields #[.ref t,.none,.none,.none,.bool false,.none] }
noncomputable abbrev xTup (rest:List Value):Obj:={ cls:=.type "tuple",data:=.seq rest.toArray }
theorem type_call_x (F:ExcBaseFacts B newId initId bmB) (T:OwnTail h bmB bm) {rest:List Value} {f:Addr}
    (hC:h.get? C=some (excClassObj nm q C N bs bm hdct sn sub ab col dd k0 k1 k2 k3 k5 newId))
    (hi:Looks (model prog w) h (typeLookup (.ref C) "__init__") (some (.ref f))) (hb:∀ self,Looks (model prog w) h (bindSpecial (.ref f) self) (.ref f,[self]))
    (hq:codeAny (model prog w) (A.under (.builtin "type.__call__" ⟨.ref C :: rest,[]⟩)) (.call (.ref f) ⟨.ref (h.objs.size + 1) :: rest,[]⟩) (InitBack (h.objs.size + 1) R) ⟨(h.push (xTup rest)).push (xObj C h.objs.size),g,d,t,os⟩)
    (hrest:rest.length≤sizeLine) :
    codeAny (model prog w) A (.call (.ref C) ⟨rest,[]⟩) R ⟨h,g,d,t,os⟩:=by
  have f1:=tc_lookup
  have f2:=tc_bind (.ref C)
  have hT:(⟨h,g,d,t,os⟩:Shared).TypeIs (.ref C) "type" := ⟨_,hC,rfl⟩
  refine codeAny_of_tree ?_
  show wpAny _ _ (callAny (.ref C) _) _ _ _
  repeat (any_goals (first | assumption | with_reducible refine wpAny_loadPart_at hC ?_ | wp_step))
  refine ⟨rfl,?_⟩
  refine codeAny_call_builtin_at (Code.quiet_builtin _ (by decide +kernel)) entry_typeCall (wpAny_check_type_call_sub hC ?_)
  repeat (first | with_reducible refine wpAny_loadPart_at hC ?_ | with_reducible refine wpAny_madeBy_exc hC ?_ | wp_step)
  refine codeAny_call_builtin_code (Code.quiet_builtin _ F.quiet) (wpAny_check_new_subT F T hC ?_)
  refine codeAny_exc_new_subT F T hC ?_ hrest
  show wpAny _ _ _ _ _ _
  have k:∀ b o,h.get? b=some o→((h.push (xTup rest)).push (xObj C h.objs.size)).get? b=some o:=fun b o e=>Heap.get?_push_of_some _ (Heap.get?_push_of_some _ e)
  have hC₁:=k _ _ hC
  have hget:((h.push (xTup rest)).push (xObj C h.objs.size)).get? (h.objs.size + 1)=some (xObj C h.objs.size):=by heap_get
  have hcC:(Value.ref C :: bm).contains (.ref C)=true:=by simp
  have i1:=hi.keeps k
  have b1:=(hb (.ref (h.objs.size + 1))).keeps k
  unfold isInstance
  repeat (first | with_reducible refine wpAny_loadPart_at hget ?_ | (with_reducible refine wpAny_isSubtype_exc hC₁ ?_; rw [hcC]) | wp_step)
  refine wpAny_isSubtype_exc hC₁ ?_
  rw [hcC]
  have t1:Looks (model prog w) ((h.push (xTup rest)).push (xObj C h.objs.size)) (typeOf (.ref (h.objs.size + 1))) (.ref C):=(Looks.ld hget).andThen .now
  unfold callSpecial? specialOf
  simp only [Bool.not_true,Bool.false_eq_true,if_false]
  refine wpAny_bind (wpAny_holding (wpAny_bind (wpAny_bind (t1.at (i1.at ?_)))))
  dsimp only
  refine wpAny_holding (wpAny_bind (b1.at (wpAny_bind (wpAny_call (codeAny_mono hq fun r s' z=>?_)))))
  rcases r with e | (v | _ | _ | _) <;> first | exact z | exact z.elim | skip
  obtain ⟨rfl,z⟩:=z
  exact wpAny_pure (wpAny_pure z)
theorem type_call_x0 (F:ExcBaseFacts B newId initId bmB) (T:OwnTail h bmB bm) {mN:Str→Option Value} {Q:Value→Shared→Prop}
    (hC:h.get? C=some (excClassObj nm q C N bs bm hdct sn sub ab col dd k0 k1 k2 k3 k5 newId)) (hn:h.Ns N mN) (hni:mN "__init__" = none)
    (hq:∀ h' t2,(∀ b o,h.get? b=some o→h'.get? b=some o)→h'.get? (h.objs.size + 1)=some (xObj C t2)→Q (.ref (h.objs.size + 1)) ⟨h',g,d,t,os⟩) :
    wpAny (model prog w) A (call (.ref C) []) Q E ⟨h,g,d,t,os⟩:=by
  have f1:=tc_lookup
  have f2:=tc_bind (.ref C)
  have hT:(⟨h,g,d,t,os⟩:Shared).TypeIs (.ref C) "type" := ⟨_,hC,rfl⟩
  refine wpAny_call (codeAny_of_tree ?_)
  show wpAny _ _ (callAny (.ref C) _) _ _ _
  repeat (any_goals (first | assumption | with_reducible refine wpAny_loadPart_at hC ?_ | wp_step))
  refine ⟨rfl,?_⟩
  refine codeAny_call_builtin_at (Code.quiet_builtin _ (by decide +kernel)) entry_typeCall (wpAny_check_type_call_sub hC ?_)
  repeat (first | with_reducible refine wpAny_loadPart_at hC ?_ | with_reducible refine wpAny_madeBy_exc hC ?_ | wp_step)
  refine codeAny_call_builtin_code (Code.quiet_builtin _ F.quiet) (wpAny_check_new_subT F T hC ?_)
  refine codeAny_exc_new_subT F T hC ?_ (by decide)
  show wpAny _ _ _ _ _ _
  have k:∀ b o,h.get? b=some o→((h.push (xTup [])).push (xObj C h.objs.size)).get? b=some o:=fun b o e=>Heap.get?_push_of_some _ (Heap.get?_push_of_some _ e)
  have hC₁:=k _ _ hC
  have hn₁:((h.push (xTup [])).push (xObj C h.objs.size)).Ns N mN:=let ⟨o,es,ep,e,r⟩:=hn; ⟨o,es,ep,k _ _ e,r⟩
  have hget:((h.push (xTup [])).push (xObj C h.objs.size)).get? (h.objs.size + 1)=some (xObj C h.objs.size):=by heap_get
  have hcC:(Value.ref C :: bm).contains (.ref C)=true:=by simp
  have T₁:=T.keeps k
  unfold isInstance
  repeat (first | with_reducible refine wpAny_loadPart_at hget ?_ | (with_reducible refine wpAny_isSubtype_exc hC₁ ?_; rw [hcC]) | wp_step)
  refine wpAny_isSubtype_exc hC₁ ?_
  rw [hcC]
  have t1:Looks (model prog w) ((h.push (xTup [])).push (xObj C h.objs.size)) (typeOf (.ref (h.objs.size + 1))) (.ref C):=(Looks.ld hget).andThen .now
  unfold callSpecial? specialOf
  simp only [Bool.not_true,Bool.false_eq_true,if_false]
  refine wpAny_bind (wpAny_holding (wpAny_bind (wpAny_bind (t1.at (wpAny_typeLookup_tail hC₁ hn₁ T₁ F.mroIs F.init.lookup ?_)))))
  rw [hni]
  dsimp only
  refine wpAny_holding (wpAny_bind (wpAny_of_eq (F.init.bind _) ?_))
  refine wpAny_bind (wpAny_call (codeAny_call_builtin F.init.plain F.initEntry (wpAny_check_init_subT F T₁ hC₁ hget rfl ?_)))
  wp_walk
  refine hq _ (h.objs.size + 2) (fun b o hb=>?_) ?_
  · rw [Heap.get?_update_other _ _ (Nat.ne_of_gt (Nat.lt_succ_of_lt (Heap.lt_size hb)))]
    exact Heap.get?_push_of_some _ (k b o hb)
  · rw [Heap.get?_update_self _ (Heap.get?_push_of_some _ hget) rfl]
    simp only [Heap.size_push]
    rfl
end
end PySem.W
set_option Elab.async false
set_option linter.all false
set_option maxRecDepth 100000
set_option maxHeartbeats 4000000
namespace PySem.W
open PySem PySem.Calls PyProof.Rows Builtin Builtin.ObjectAttr Builtin.Getset_descriptor
noncomputable abbrev veMro:List Value:=[.type "ValueError",.type "Exception",.type "BaseException",.type "object"]
noncomputable def overVE:List Value→Bool
  | .ref _ :: r=>overVE r
  | l=>l == veMro
theorem refuse_ve (self:Value):∀ {l:List Value},overVE l=true→refuseLoop self "__setattr__" l=pure ()
  | .ref c :: r,e=>by rw [refuseLoop_ref]; exact refuse_ve self (l:=r) e
  | [],e=>by cases e
  | .type n :: r,e=>by
    have e':(Value.type n :: r)=veMro:=beq_iff_eq.mp e
    rw [e']; exact PySem.F.store_ValueError.passes self
  | .none :: r,e=>by cases (beq_iff_eq.mp e:(Value.none :: r)=veMro)
  | .bool _ :: r,e=>by cases (beq_iff_eq.mp e:(Value.bool _ :: r)=veMro)
  | .int _ _ :: r,e=>by cases (beq_iff_eq.mp e:(Value.int _ _ :: r)=veMro)
  | .str _ _ :: r,e=>by cases (beq_iff_eq.mp e:(Value.str _ _ :: r)=veMro)
  | .bytes _ _ :: r,e=>by cases (beq_iff_eq.mp e:(Value.bytes _ _ :: r)=veMro)
  | .float _ _ :: r,e=>by cases (beq_iff_eq.mp e:(Value.float _ _ :: r)=veMro)
  | .builtin _ :: r,e=>by cases (beq_iff_eq.mp e:(Value.builtin _ :: r)=veMro)
  | .notImplemented :: r,e=>by cases (beq_iff_eq.mp e:(Value.notImplemented :: r)=veMro)
  | .ellipsis :: r,e=>by cases (beq_iff_eq.mp e:(Value.ellipsis :: r)=veMro)
theorem ve_has:∀ {l:List Value} {b:Value},overVE l=true→veMro.contains b=true→l.contains b=true
  | .ref c :: r,b,e,q=>by rw [List.contains_cons,ve_has (l:=r) e q,Bool.or_true]
  | [],b,e,q=>by cases e
  | .type n :: r,b,e,q=>by rw [(beq_iff_eq.mp e:(Value.type n :: r)=veMro)]; exact q
  | .none :: r,_,e,_=>by cases (beq_iff_eq.mp e:(Value.none :: r)=veMro)
  | .bool _ :: r,_,e,_=>by cases (beq_iff_eq.mp e:(Value.bool _ :: r)=veMro)
  | .int _ _ :: r,_,e,_=>by cases (beq_iff_eq.mp e:(Value.int _ _ :: r)=veMro)
  | .str _ _ :: r,_,e,_=>by cases (beq_iff_eq.mp e:(Value.str _ _ :: r)=veMro)
  | .bytes _ _ :: r,_,e,_=>by cases (beq_iff_eq.mp e:(Value.bytes _ _ :: r)=veMro)
  | .float _ _ :: r,_,e,_=>by cases (beq_iff_eq.mp e:(Value.float _ _ :: r)=veMro)
  | .builtin _ :: r,_,e,_=>by cases (beq_iff_eq.mp e:(Value.builtin _ :: r)=veMro)
  | .notImplemented :: r,_,e,_=>by cases (beq_iff_eq.mp e:(Value.notImplemented :: r)=veMro)
  | .ellipsis :: r,_,e,_=>by cases (beq_iff_eq.mp e:(Value.ellipsis :: r)=veMro)
structure XC (K:Frag) (C:Addr):Prop where
  over:(clsIn K C).any (fun cd=>overVE cd.mro)=true
  sa:findIn K (.ref C) "__setattr__" = some (some (.builtin "object.__setattr__"))
  ga:findIn K (.ref C) "__getattribute__" = some (some (.builtin "BaseException.__getattribute__"))
  gh:findIn K (.ref C) "__getattr__" = some none
  hd:hasDictIn K C=true
  ca:findIn K (.ref C) "__class__" = some (some (.builtin "object.__class__"))
  cg:specialIn K (.builtin "object.__class__") "__get__" = some (some (.builtin "getset_descriptor.__get__"))
  ct:takesIn K (.builtin "object.__class__")=some true
section
variable {prog:Program} {w:World} {A:Around} {E:Value→Shared→Prop} {K:Frag} {C x:Addr} {s:Shared} {R:Result→Shared→Prop}
theorem XC.mro (c:XC K C) {b:Value} (hb:veMro.contains b=true):mroIn K C b=some true:=by
  obtain ⟨cd,hc,ho⟩:=any_some c.over
  have ne:cd.mro.isEmpty=false:=by cases q:cd.mro with | nil=>rw [q] at ho; cases ho | cons _ _=>rfl
  unfold mroIn; rw [hc,Option.bind_some,if_neg (by rw [ne]; decide),ve_has ho hb]
theorem osa_x {ox:Obj} {od:Option Obj} {name:Str} {tk:Tok} {v:Value} {r:Option Value} (X:K.In s.heap) (I:InstAt s.heap x ox C od) (c:XC K C) (ht:takerIn K C name=some r)
    (h:∀ b,wpAny (model prog w) A.in1 (match r with | some a=>setByDescriptor a (.ref x) v | none=>storeInOwnDict (.ref x) (.ref C) (.str name tk) name v b)
      (fun fin s'=>match fin with | .done f=>R (.ok f) s' | .again c'=>c'.quiet=true∧codeAny (model prog w) A c' R s') (fun e s'=>R (.error e) s') s) :
    codeAny (model prog w) A (.call (.builtin "object.__setattr__") ⟨[.ref x,.str name tk,v],[]⟩) R s:=by
  have SF:=PySem.F.store_object
  obtain ⟨cd,hc,ho⟩:=any_some c.over
  have sub:Looks (model prog w) s.heap (isInstance (.ref x) (.type "object")) true:=I.type.andThen (looks_mroIn X (c.mro (by decide)))
  refine codeAny_call_builtin SF.slot.plain SF.entry (@check_slot (model prog w) _ _ s "object.__setattr__" "object" "__setattr__" (.ref x) [.str name tk,v] [] _ SF.kind SF.split sub (SF.args (.ref x) (.str name tk) v) ?_)
  obtain ⟨attr,ha,hr⟩:=Option.bind_eq_some_iff.mp ht
  have hm:Looks (model prog w) s.heap (mroOf (.ref C)) cd.mro:=(looks_clsIn X hc).andThen .now
  have L3:Looks (model prog w) s.heap (storeTaker? attr) r:=by
    cases attr with
    | none=>cases hr; exact .now
    | some a =>
      obtain ⟨b,hb,rfl⟩:=Option.map_eq_some_iff.mp hr
      refine (looks_takesIn X hb).andThen ?_
      cases b <;> exact .now
  rw [osa_eq,refuse_eq]
  refine wpAny_bind (wpAny_bind (I.type.here (wpAny_bind (hm.here ?_))))
  rw [refuse_ve _ ho]
  refine wpAny_pure (wpAny_bind (I.type.here (wpAny_bind ((looks_findIn X ha).here (wpAny_bind (L3.here ?_))))))
  exact h _
theorem set_x0 {name:Str} {v:Value} {Q:Unit→Shared→Prop} {vs:Array Value} (X:K.In s.heap) (c:XC K C) (hx:s.heap.get? x=some ⟨.ref C,none,.fields vs,#[]⟩) (ht:takerIn K C name=some none)
    (h:∀ h',h'.get? x=some ⟨.ref C,some s.heap.objs.size,.fields vs,#[]⟩→h'.Ns1 s.heap.objs.size (fun y=>if y=name then some v else none) →
      (∀ b o,b≠x→s.heap.get? b=some o→h'.get? b=some o)→Q () { s with heap:=h',toks:=s.toks + 2 }) :
    wpAny (model prog w) A (setAttr (.ref x) name v) Q E s:=by
  have J:InstAt s.heap x ⟨.ref C,none,.fields vs,#[]⟩ C none:=⟨hx,rfl,rfl,trivial⟩
  refine set_plain X J c.sa (osa_x (s:={ s with toks:=s.toks + 1 }) (r:=none) X J c ht fun b=>?_)
  obtain ⟨cd,hc,hd'⟩:=any_some c.hd
  obtain ⟨hp,g,d,t,os⟩:=s
  refine wpAny_bind (wpAny_pure (wpAny_bind (wpAny_bind (wpAny_loadPart hx (wpAny_bind (Looks.here (s:=⟨hp,g,d,t + 1,os⟩) (looks_clsIn X hc) ?_))))))
  rw [hd']
  have hx₁:(hp.push { cls:=.type "dict",data:=.dict #[] }).get? x=some ⟨.ref C,none,.fields vs,#[]⟩:=Heap.get?_push_of_some _ hx
  have hxs:x≠hp.objs.size:=Nat.ne_of_lt (Heap.lt_size hx)
  show wpAny _ _ (alloc { cls:=.type "dict",data:=.dict #[] } >>= fun d=>update x (fun o=>{ cls:=o.cls,dict:=some d,data:=o.data,slots:=o.slots }) >>= fun _=>dictMade (.ref C) x d) _ _ _
  refine wpAny_bind (wpAny_alloc' ?_)
  refine wpAny_bind (wpAny_update' hx₁ ?_)
  refine wpAny_pure ?_
  have hgd:((hp.push { cls:=.type "dict",data:=.dict #[] }).update x fun o=>{ cls:=o.cls,dict:=some hp.objs.size,data:=o.data,slots:=o.slots }).get? hp.objs.size
      = some { cls:=.type "dict",data:=.dict #[] } :=
    (Heap.get?_update_ne _ _ _ _ hxs.symm).trans (Heap.get?_push_at rfl rfl)
  have hnd:((hp.push { cls:=.type "dict",data:=.dict #[] }).update x fun o=>{ cls:=o.cls,dict:=some hp.objs.size,data:=o.data,slots:=o.slots }).Ns hp.objs.size (fun _=>none) :=
    ⟨_,#[],_,hgd,rfl,fun e he=>absurd he (by simp),fun _=>rfl⟩
  show wpAny _ _ (storeInDict hp.objs.size (.str name t) name v) _ _ _
  unfold storeInDict newKeyGuard
  refine wpAny_bind (wpAny_pure (wpAny_bind (wpAny_nsSet1 (Heap.Ns1.of_empty hnd) fun h' hn' hs=>?_)))
  obtain ⟨oD,esD,epD,hoD,hdD,hcD⟩:=hn'.count (Within.cons name v Within.nil)
  refine wpAny_bind (wpAny_lookBehind hoD (by rw [hdD]; exact pastItsLine_dict (Nat.le_trans hcD (by rw [List.length_cons,List.length_nil,sizeLine_eq]; omega))) ?_)
  refine wpAny_pure (h h' ?_ hn' fun b o hb e=>?_)
  · refine (hs.2 x hxs).trans (Heap.get?_update_self _ hx₁ rfl)
  · exact (hs.2 b (Nat.ne_of_lt (Heap.lt_size e))).trans ((Heap.get?_update_ne _ _ _ _ hb).trans (Heap.get?_push_of_some _ e))
theorem bga_kind:builtinKind "BaseException.__getattribute__" = some .slot:=by decide +kernel
theorem bga_split:splitId "BaseException.__getattribute__" = some ("BaseException","__getattribute__"):=by decide +kernel
theorem bga_slot:Slot "ValueError" "__getattribute__" "BaseException.__getattribute__" :=
  .of (owner := "BaseException") (n := "__getattribute__") (by rw [typeLookup_type,builtinLookup_eq_fast]; kernel_rfl) (by decide +kernel) (by decide +kernel) (by decide +kernel)
    (by first | exact .inl (by decide +kernel) | exact .inr (by decide +kernel)) (by rw [isSubtype_type]; kernel_rfl)
theorem gx_core {ox:Obj} {od:Option Obj} {name:Str} {fill expr:Bool} {r:Found} {t:Tok} {Q:Value→Shared→Prop} (X:K.In s.heap) (I:InstAt s.heap x ox C od) (c:XC K C)
    (hf:findObj K C od name=some r)
    (h:wpAny (model prog w) A.in1 (match r with | .value v=>ret v | .bind g a=>bindTo g a (.ref x) (.ref C) | .missing=>unsupported "") (fun fin s'=>∃ v,fin=.done (.ret v)∧wpAny (model prog w) A (handedOut v) Q E s') (fun _ _=>False) s)
    (hr:r≠.missing):wpAny (model prog w) A (getAttrBy (.ref x) (.str name t) fill expr) Q E s:=by
  obtain ⟨hp,g,d,tk,os⟩:=s
  have L0:=I.type (M:=model prog w)
  have L1:=looks_findIn (M:=model prog w) X c.ga
  have LG:=looks_findIn (M:=model prog w) X c.gh
  have L2:=looks_find (M:=model prog w) X I hf
  have hx0:(expr && onTheHeap (Value.builtin "BaseException.__getattribute__"))=false:=by cases expr <;> rfl
  have hx2:(Value.builtin "BaseException.__getattribute__" == Value.builtin "object.__getattribute__")=false:=by decide +kernel
  have hx1:(onTheHeap (Value.ref C) && Value.builtin "BaseException.__getattribute__" == Value.builtin "object.__getattribute__")=false:=by rw [hx2]; rfl
  have sub:Looks (model prog w) hp (isInstance (.ref x) (.type "BaseException")) true:=I.type.andThen (looks_mroIn X (c.mro (by decide)))
  have hbnd:=bga_slot.bind (.ref x)
  unfold getAttrBy
  refine wpAny_holding (wpAny_bind (L0.at (wpAny_bind (L1.at ?_))))
  dsimp only
  rw [if_neg (by rw [hx1]; decide)]
  unfold getAttrByItsOwn hookBefore
  rw [if_pos (show onTheHeap (Value.ref C)=true from rfl)]
  refine wpAny_bind (LG.at (wpAny_bind (wpAny_attempt (wpAny_holding ?_))))
  unfold callGetattribute
  rw [if_neg (by rw [hx0]; decide)]
  unfold boundAndCalled
  rw [hbnd]
  refine wpAny_bind (wpAny_pure ?_)
  refine wpAny_call (codeAny_call_builtin bga_slot.plain F.entry_bexc_ga (@check_slot (model prog w) _ _ ⟨hp,g,d,tk,os⟩ "BaseException.__getattribute__" "BaseException" "__getattribute__" (.ref x) [.str name t] [] _ bga_kind bga_split sub (F.args_bexc_ga (.ref x) (.str name t)) ?_))
  refine wpAny_bind (wpAny_pure (wpAny_bind (wpAny_pure (wpAny_bind (L0.at (wpAny_bind (L2.at ?_)))))))
  cases r with
  | value v =>
    refine wpAny_mono h (fun fin s' z=>?_) fun _ _ z=>z.elim
    obtain ⟨v,rfl,z⟩:=z
    exact z
  | bind g a =>
    refine wpAny_mono h (fun fin s' z=>?_) fun _ _ z=>z.elim
    obtain ⟨v,rfl,z⟩:=z
    exact z
  | missing=>exact absurd rfl hr
theorem get_x {ox:Obj} {od:Option Obj} {name:Str} {expr:Bool} {v:Value} {Q:Value→Shared→Prop} (X:K.In s.heap) (I:InstAt s.heap x ox C od) (c:XC K C)
    (hf:findObj K C od name=some (.value v)) (hh:handedIn v=true) (h:Q v { s with toks:=s.toks + 1 }):wpAny (model prog w) A (getAttr (.ref x) name expr) Q E s:=by
  unfold getAttr
  refine wpAny_bind (wpAny_mkText (gx_core (s:={ s with toks:=s.toks + 1 }) X I c hf (wpAny_pure ⟨v,rfl,?_⟩) (fun q=>by cases q)))
  rw [handedOut_of hh]; exact wpAny_pure h
theorem cls_x {ox:Obj} {od:Option Obj} {Q:Option Value→Shared→Prop} (X:K.In s.heap) (I:InstAt s.heap x ox C od) (c:XC K C) (h:Q (some (.ref C)) { s with toks:=s.toks + 1 }) :
    wpAny (model prog w) A (getAttr? (.ref x) "__class__") Q E s:=by
  have hf:findObj K C od "__class__" = some (.bind (.builtin "getset_descriptor.__get__") (.builtin "object.__class__")):=by
    obtain ⟨cd,hc,_⟩:=any_some c.hd
    unfold findObj
    rw [hc,Option.bind_some,c.ca,Option.bind_some]
    show ((specialIn K (.builtin "object.__class__") "__get__").bind _)=_
    rw [c.cg,Option.bind_some]
    show ((takesIn K (.builtin "object.__class__")).bind _)=_
    rw [c.ct]
    rfl
  unfold getAttr? getAttrBy?
  refine wpAny_bind (wpAny_mkText (wpAny_bind (wpAny_attempt (gx_core (s:={ s with toks:=s.toks + 1 }) X I c hf ?_ (fun q=>by cases q)))))
  show wpAny _ _ (holding [_] (call (.builtin "getset_descriptor.__get__") [.builtin "object.__class__",.ref x,.ref C]) >>= ret) _ _ _
  refine wpAny_bind (wpAny_holding (wpAny_call (class_get (s:={ s with toks:=s.toks + 1 }) X I (c.mro (by decide)) (wpAny_pure ⟨_,rfl,?_⟩))))
  exact handed_on rfl (wpAny_pure h)
theorem kitx_x {ox:Obj} {od:Option Obj} (c:XC K C):KitX K (.ref x) (.ref C) (fun h=>InstAt h x ox C od) where
  ty:=fun _ _ _ I=>I.type
  it:=fun _ _ X _=>by
    obtain ⟨cdD,hcD,_⟩:=any_some c.hd
    unfold clsIn at hcD
    split at hcD
    · rename_i c' d' cd' sl' ho
      intro A' Q' E' s' k q
      unfold isType loadHead
      exact wpAny_bind (wpAny_loadPart (k _ _ (X _ _ ho)) (wpAny_pure q))
    · cases hcD
  ne:=fun h tp dd its n sl X htp=>by
    obtain ⟨cdD,hcD,_⟩:=any_some c.hd
    refine Bool.eq_false_iff.mpr fun q=>?_
    have e:C=tp:=Value.ref.inj (beq_iff_eq.mp q)
    subst e
    unfold clsIn at hcD
    split at hcD
    · rename_i c' d' cd' sl' ho
      have z:=(X _ _ ho).symm.trans htp
      cases z
    · cases hcD
  ca:=fun X I k=>cls_x X I c k
end
end PySem.W
set_option Elab.async false
set_option linter.all false
set_option maxRecDepth 100000
set_option maxHeartbeats 4000000
namespace L2
open PySem PySem.Spec PyProof.Rows
open PySem.W (XC)
noncomputable def XO (fr:Bool) (x C:Addr) (od:Option Addr):HO:=.ext fun h=>∃ o vs,h.get? x=some o∧o.cls=.ref C∧o.dict=od∧o.data=.fields vs∧(fr=true→o.slots=#[]∧vs[1]?=some .none)
noncomputable def XD (dx:Addr) (fs:List (Str×V)):HO:=.ext fun h=>∃ mA,h.Ns1 dx mA∧(∀ f,RelO (fs.lookup f) (mA f))∧PySem.Within mA (fs.map (·.1))
theorem XO.ok {P:Program} {w:World} {H:Hp} {h:Heap} {fr:Bool} {x C:Addr} {od:Option Addr} (hx:∃ o vs,h.get? x=some o∧o.cls=.ref C∧o.dict=od∧o.data=.fields vs∧(fr=true→o.slots=#[]∧vs[1]?=some .none)):ObjOk P w H h x (XO fr x C od):=by
  refine ⟨hx,?_,fun h1 h2 q k=>?_⟩
  · obtain ⟨o,_,e,_⟩:=hx
    exact ⟨o,e⟩
  · obtain ⟨o,vs,e,r⟩:=q
    exact ⟨o,vs,k o e,r⟩
theorem XD.ok {P:Program} {w:World} {H:Hp} {h:Heap} {dx:Addr} {fs:List (Str×V)} (hx:∃ mA,h.Ns1 dx mA∧(∀ f,RelO (fs.lookup f) (mA f))∧PySem.Within mA (fs.map (·.1))):ObjOk P w H h dx (XD dx fs):=by
  refine ⟨hx,?_,fun h1 h2 q k=>?_⟩
  · obtain ⟨mA,⟨o,es,ep,e,_⟩,_⟩:=hx
    exact ⟨o,e⟩
  · obtain ⟨mA,⟨o,es,ep,e,r⟩,z⟩:=q
    exact ⟨mA,⟨o,es,ep,k o e,r⟩,z⟩
theorem ObjOk.there {P:Program} {w:World} {H:Hp} {h:Heap} {a:Addr} {o:HO} (x:ObjOk P w H h a o):∃ u,h.get? a=some u:=by
  cases o with
  | lst xs=>obtain ⟨_,_,_,_,e⟩:=x; exact ⟨_,e⟩
  | tup xs=>obtain ⟨_,_,_,o,e,_⟩:=x; exact ⟨_,e⟩
  | dK kvs=>obtain ⟨_,_,_,_,o,_,_,e,_⟩:=x; exact ⟨_,e⟩
  | dT kvs=>obtain ⟨_,_,_,_,o,_,_,e,_⟩:=x; exact ⟨_,e⟩
  | set S n=>obtain ⟨o,_,_,_,e,_⟩:=x; exact ⟨_,e⟩
  | ins C dx fs=>obtain ⟨_,_,_,e,_⟩:=x; exact ⟨_,e⟩
  | own y=>obtain ⟨_,e⟩:=x; exact ⟨_,e⟩
  | xd fs=>obtain ⟨_,⟨_,_,_,e,_⟩,_⟩:=x; exact ⟨_,e⟩
  | rng lo hi=>obtain ⟨_,_,_,e⟩:=x; exact ⟨_,e⟩
  | frz ob u=>obtain ⟨e,_⟩:=x; exact ⟨_,e⟩
  | tbl ps=>exact ⟨_,(show h.get? a=some _ from x)⟩
  | met f y=>exact ⟨_,(show h.get? a=some _ from x)⟩
  | ext φ=>obtain ⟨_,⟨_,e⟩,_⟩:=x; exact ⟨_,e⟩
theorem HOk.free {P:Program} {w:World} {H:Hp} {h:Heap} {a:Addr} (x:HOk P w H h) (e:h.get? a=none):H a=none:=by
  cases q:H a with
  | none=>rfl
  | some u =>
    obtain ⟨o,z⟩:=(x a u q).there
    rw [e] at z; cases z
theorem Inv.laidN {X:Cx} {pins:List (Addr×Obj)} {σ:St} {H:Hp} {s:Shared} {h':Heap} {a:Addr} {o:HO} {t':Nat} (I:Inv X pins σ H s) (k:∀ b u,s.heap.get? b=some u→h'.get? b=some u) (hp:s.heap.get? a=none) (new:ObjOk X.prog X.w (upd H a o) h' a o) :
    Inv X pins σ (upd H a o) { s with heap:=h',toks:=t' }:=by
  have hn:=I.hok.free hp
  have nb:∀ b u,s.heap.get? b=some u→b≠a:=fun b u q z=>by rw [z,hp] at q; cases q
  refine I.un (t':=t') ⟨fun b u q _ _ _=>k b u q,fun b u q _ _ _=>⟨u.slots,k b u q⟩,fun b u q n _=>by rw [upd_ne (nb b u q)]; exact n,fun b u q _=>⟨u,k b u q⟩,fun b xs q=>by rw [upd_ne (ne_of_none q hn)]; exact q,
    fun b u xs q=>by rw [upd_ne (ne_of_none q hn)]; exact q,fun b ps q=>⟨#[],by rw [upd_ne (ne_of_none q hn),q]; simp⟩⟩ fun b u e=>?_
  by_cases hb:b=a
  · subst hb; rw [upd_same] at e; cases e; exact new
  · rw [upd_ne hb] at e
    exact (I.hok b u e).stay (fun c v _ q=>k c v q) (fun c q=>by rw [upd_ne (ne_of_none q hn)]; exact q) fun c xs q=>by rw [upd_ne (ne_of_none q hn)]; exact q
theorem XO.get {P:Program} {w:World} {H:Hp} {h:Heap} {fr:Bool} {x C:Addr} {od:Option Addr} (hok:HOk P w H h) (e:H x=some (XO fr x C od)) :
    ∃ o vs,h.get? x=some o∧o.cls=.ref C∧o.dict=od∧o.data=.fields vs∧(fr=true→o.slots=#[]∧vs[1]?=some .none):=(show ObjOk P w H h x (XO fr x C od) from hok x _ e).1
theorem XD.get {P:Program} {w:World} {H:Hp} {h:Heap} {dx:Addr} {fs:List (Str×V)} (hok:HOk P w H h) (e:H dx=some (XD dx fs)) :
    ∃ mA,h.Ns1 dx mA∧(∀ f,RelO (fs.lookup f) (mA f))∧PySem.Within mA (fs.map (·.1)):=(show ObjOk P w H h dx (XD dx fs) from hok dx _ e).1
section
variable {X:Cx} {pins:List (Addr×Obj)} {σ:St} {H:Hp} {s:Shared} {x C dx:Addr} {fs:List (Str×V)} {f:Str} {v:V} {A:Around} {E:Value→Shared→Prop}
theorem xset0 {y:V} {u:Value} {Q:Unit→Shared→Prop} (I:Inv X pins σ H s) (e:H x=some (XO true x C none)) (c:XC X.K C) (n:NoAttr X.K C f) (ry:RelV y u)
    (h:∀ d s',H d=none→d≠x→Inv X pins σ (upd (upd H d (XD d [(f,y)])) x (XO true x C (some d))) s'→Q () s'):wpAny (model X.prog X.w) A (setAttr (.ref x) f u) Q E s:=by
  obtain ⟨o,vs,hx,h1,h2,h3,h40⟩:=XO.get I.hok e
  obtain ⟨h4,h5⟩:=h40 rfl
  clear h40
  obtain ⟨oc,od,odt,osl⟩:=o
  dsimp only at h1 h2 h3 h4
  subst h1 h2 h3 h4
  have hxs:x≠s.heap.objs.size:=Nat.ne_of_lt (Heap.lt_size hx)
  refine PySem.W.set_x0 I.kIn c hx n.taker fun h' e1 e2 e3=>h s.heap.objs.size _ (I.hok.fresh (Nat.le_refl _)) hxs.symm ?_
  have mu:Mut (H x):=by rw [e]; exact True.intro
  have keep:∀ b o,b≠x→s.heap.get? b=some o→h'.get? b=some o:=e3
  have hx':∃ o vs,h'.get? x=some o∧o.cls=.ref C∧o.dict=some s.heap.objs.size∧o.data=.fields vs∧(true=true→o.slots=#[]∧vs[1]?=some .none):=⟨_,vs,e1,rfl,rfl,rfl,fun _=>⟨rfl,h5⟩⟩
  have hfree:H s.heap.objs.size=none:=I.hok.fresh (Nat.le_refl _)
  have neF:∀ b o,s.heap.get? b=some o→b≠s.heap.objs.size:=fun b o q=>Nat.ne_of_lt (Heap.lt_size q)
  have neT:∀ b u,H b=some u→b≠s.heap.objs.size:=fun b u q z=>by rw [z,hfree] at q; cases q
  have nx:∀ b,H b=none→b≠x:=fun b q z=>by rw [z,e] at q; cases q
  have tr:∀ b u,H b=some u→b≠x→(upd (upd H s.heap.objs.size (XD s.heap.objs.size [(f,y)])) x (XO true x C (some s.heap.objs.size))) b=some u:=fun b u q z=>by rw [upd_ne z,upd_ne (neT b u q)]; exact q
  refine I.un (t':=s.toks + 2) ⟨fun b o q q2 _ _=>keep b o (nx b q2) q,fun b o q q2 _ _=>⟨o.slots,keep b o (nx b q2) q⟩,fun b o q q2 _=>?_,fun b o q _=>?_,fun b xs q=>?_,fun b o u q=>?_,fun b ps q=>⟨#[],?_⟩⟩ ?_
  · rw [upd_ne (nx b q2),upd_ne (neF b o q)]; exact q2
  · by_cases z:b=x
    · subst z; exact ⟨_,e1⟩
    · exact ⟨o,keep b o z q⟩
  · exact tr b _ q (fun z=>by rw [z,e] at q; cases q)
  · exact tr b _ q (fun z=>by rw [z,e] at q; cases q)
  · rw [tr b _ q (fun z=>by rw [z,e] at q; cases q)]; simp
  · intro b u q
    by_cases z:b=x
    · subst z
      rw [upd_same] at q
      cases q
      exact XO.ok hx'
    · rw [upd_ne z] at q
      by_cases z2:b=s.heap.objs.size
      · subst z2
        rw [upd_same] at q
        cases q
        refine XD.ok ⟨_,e2,fun g=>?_,fun g hg=>?_⟩
        · have l:=lookup_putF f g y []
          rw [show putF f y []=[(f,y)] from rfl] at l
          rw [l]
          by_cases w:g=f
          · rw [if_pos w,if_pos w]; exact ry
          · rw [if_neg w,if_neg w]; exact True.intro
        · by_cases w:g=f
          · rw [w]; simp
          · exact absurd (if_neg w) hg
      · rw [upd_ne z2] at q
        refine (I.hok b u q).stay (fun c' v' hc q'=>keep c' v' ?_ q') (fun b' q'=>tr b' _ q' (fun z=>by rw [z,e] at q'; cases q')) (fun b' xs q'=>tr b' _ q' (fun z=>by rw [z,e] at q'; cases q'))
        rcases hc with hc | hc
        · rw [hc]; exact z
        · exact fun z=>by rw [z,e] at hc; cases hc
theorem XO.inst {fr:Bool} {od:Option Addr} (I:Inv X pins σ H s) (e:H x=some (XO fr x C od)) (he:∀ d,od=some d→∃ o,s.heap.get? d=some o):∃ ox odo,PySem.W.InstAt s.heap x ox C odo∧∀ d,od=some d→∃ o,odo=some o∧s.heap.get? d=some o:=by
  obtain ⟨o,vs,hx,h1,h2,h3,_⟩:=XO.get I.hok e
  cases od with
  | none=>exact ⟨o,none,⟨hx,h1,by unfold PySem.W.notCls; rw [h3],by rw [h2]; trivial⟩,fun d z=>by cases z⟩
  | some d =>
    obtain ⟨od,hd⟩:=he d rfl
    exact ⟨o,some od,⟨hx,h1,by unfold PySem.W.notCls; rw [h3],by rw [h2]; exact hd⟩,fun d' z=>by cases z; exact ⟨od,rfl,hd⟩⟩
theorem xget {fr b:Bool} {Q:Value→Shared→Prop} (I:Inv X pins σ H s) (e:H x=some (XO fr x C (some dx))) (ed:H dx=some (XD dx fs)) (c:XC X.K C) (n:NoAttr X.K C f) (l:fs.lookup f=some v)
    (h:∀ u s',Inv X pins σ H s'→RelV v u→Q u s'):wpAny (model X.prog X.w) A (getAttr (.ref x) f b) Q E s:=by
  obtain ⟨mA,hn,r,wi⟩:=XD.get I.hok ed
  obtain ⟨u,hu,ru⟩:=RelO.some_of (v:=v) (o:=mA f) (by rw [← l]; exact r f)
  obtain ⟨od,hod,hl⟩:=lookIn_ns hn
  obtain ⟨ox,odo,J,k⟩:=XO.inst I e fun d z=>by cases z; exact ⟨od,hod⟩
  obtain ⟨o',rfl,ho'⟩:=k dx rfl
  rw [hod] at ho'
  cases ho'
  exact PySem.W.get_x I.kIn J c (PySem.W.findObj_own c.hd n rfl (by rw [hl,hu])) (handed_of ru) (h u _ (I.tok _) ru)
end
noncomputable def sX0 (K:PySem.W.Frag) (ta tv:TE) (f:Str):TS:=fun D σ H=>tv σ H fun y H1=>ta σ H1 fun x H2=>∃ a C,x=.ref a∧H2 a=some (XO true a C none)∧XC K C∧NoAttr K C f ∧
  ∀ d,H2 d=none→d≠a→D.nx σ (upd (upd H2 d (XD d [(f,y)])) a (XO true a C (some d)))
noncomputable def tXFld (K:PySem.W.Frag) (ta:TE) (f:Str):TE:=fun σ H Q=>ta σ H fun x H1=>∃ fr a C d fs v,x=.ref a∧H1 a=some (XO fr a C (some d))∧H1 d=some (XD d fs)∧XC K C∧NoAttr K C f∧fs.lookup f=some v∧Q v H1
section
variable {X:Cx} {o e value:Expr} {f:Str} {pos pos' tpos:Pos} {ta tv:TE}
theorem ps_x0 (ha:PE X o ta) (hv:PE X value tv) (hs:swapsWith value (some (.Attribute o f pos')) pos.line X.env=pure false):PS X (.Assign [.Attribute o f pos'] value pos) (sX0 X.K ta tv f):=by
  intro pins s σ H D I h
  refine plainObj_wpAny_Assign_Attribute (thn (hv pins s σ H _ I h) fun u s1 ⟨y,H1,I1,ry,q⟩=>thn (ha pins s1 σ H1 _ I1 q) fun ov s2 ⟨x,H2,I2,rx,a,C,ex,ea,c,n,q2⟩=>?_) hs
  subst ex
  obtain rfl:ov=Value.ref a:=rx
  exact xset0 I2 ea c n ry fun d s3 hd hne I3=>⟨σ,_,I3,q2 d hd hne⟩
theorem pe_xfld (he:PE X e ta) (hb:attributeBase e f X.env (eval e X.env)=eval e X.env):PE X (.Attribute e f pos) (tXFld X.K ta f):=by
  intro pins s σ H Q I h
  refine attr_of hb (thn (he pins s σ H _ I h) fun u s1 ⟨x,H1,I1,rx,fr,a,C,dx,fs,v,ex,ea,ed,c,n,l,q⟩=>?_)
  subst ex
  obtain rfl:u=Value.ref a:=rx
  exact xget I1 ea ed c n l fun u' s2 I2 ru=>⟨v,H1,I2,ru,q⟩
end
noncomputable def xcIn (K:PySem.W.Frag) (C:Addr):Bool:=match K.lookup C with
  | some ⟨.type "type",_,.cls cd,sl⟩=>(match cd.mro,sl.toList with
    | .ref C' :: bm,[_,_,_,_,some (.builtin n),_]=>C' == C && n == "ValueError.__new__" && !cd.hasDel && PySem.W.tailIn K PySem.W.veMro bm
    | _,_=>false)
  | _=>false
theorem xc_cls {K:PySem.W.Frag} {h:Heap} {C:Addr} (X:K.In h) (q:xcIn K C=true):∃ nm qn N bs bm hdct sn sub ab col dd k0 k1 k2 k3 k5,
    h.get? C=some (excClassObj nm qn C N bs bm hdct sn sub ab col dd k0 k1 k2 k3 k5 "ValueError.__new__")∧OwnTail h PySem.W.veMro bm:=by
  unfold xcIn at q
  split at q
  · rename_i dd cd sl ho
    split at q
    · rename_i C' bm k0 k1 k2 k3 n k5 hm hs
      simp only [Bool.and_eq_true,beq_iff_eq,Bool.not_eq_true'] at q
      obtain ⟨⟨⟨rfl,rfl⟩,hdel⟩,ht⟩:=q
      obtain ⟨nm,bs,mro,ns,qn,hd,sn,sub,ab,col,del⟩:=cd
      dsimp only at hm hdel
      subst hm hdel
      have hsl:sl=#[k0,k1,k2,k3,some (.builtin "ValueError.__new__"),k5]:=by
        obtain ⟨l⟩:=sl
        simp only at hs
        rw [hs]
      subst hsl
      exact ⟨nm,qn,ns,bs,bm,hd,sn,sub,ab,col,dd,k0,k1,k2,k3,k5,X _ _ ho,PySem.W.tail_of_in X ht⟩
    · cases q
  · cases q
structure XMk (K:PySem.W.Frag) (C f:Addr):Prop where
  sh:xcIn K C=true
  init:PySem.W.findIn K (.ref C) "__init__" = some (some (.ref f))
  fn:PySem.W.isFn K (.ref f)=true
  kp:PySem.W.keepIn K (.ref C)=true
section
variable {X:Cx} {CX:CXT} {k:Nat} {f C:Addr} {fd:FuncData} {ps:List Str} {sp:Sp} {E:XK} {x m:Str} {p pos apos:Pos} {e o:Expr} {es:List Expr} {ta:TE} {t:TA}
theorem Inv.madeX {pins:List (Addr×Obj)} {σ:St} {H:Hp} {s:Shared} {us:List Value} (I:Inv X pins σ H s) :
    Inv X pins σ (upd H (s.heap.objs.size + 1) (XO true (s.heap.objs.size + 1) C none)) { s with heap:=(s.heap.push (PySem.W.xTup us)).push (PySem.W.xObj C s.heap.objs.size) }:=by
  have I1:=I.kept (h':=s.heap.push (PySem.W.xTup us)) (t':=s.toks) fun b o e=>Heap.get?_push_of_some _ e
  have e2:((s.heap.push (PySem.W.xTup us)).push (PySem.W.xObj C s.heap.objs.size)).get? (s.heap.objs.size + 1)=some (PySem.W.xObj C s.heap.objs.size):=by
    have:=Heap.get?_push_size (s.heap.push (PySem.W.xTup us)) (o:=PySem.W.xObj C s.heap.objs.size) rfl
    rwa [Heap.size_push] at this
  exact I1.laid (a:=s.heap.objs.size + 1) (o:=XO true (s.heap.objs.size + 1) C none) (t':=s.toks) (fun b u q=>Heap.get?_push_of_some _ q) (Nat.le_of_eq (Heap.size_push _ _)) (XO.ok ⟨_,_,e2,rfl,rfl,rfl,fun _=>⟨rfl,rfl⟩⟩)
theorem run_mkx_core {pins:List (Addr×Obj)} {σ:St} {H:Hp} {s:Shared} {Q:VK} {us:List Value} {vs:List V} (M:XMk X.K C f) (F:FnOk X.prog X.w X.K X.mg X.base CX k f fd ps sp) (hr:Room (k + 1) X.A) (hb:Binds X.K fd ps [])
    (hx:Passes CX X E) (I:Inv X pins σ H s) (r:Vals vs us) (hz:vs.length≤sizeLine)
    (hq:sp (.ref (s.heap.objs.size + 1) :: vs) (upd H (s.heap.objs.size + 1) (XO true (s.heap.objs.size + 1) C none)) (fun v H2=>v=.non∧Q (.ref (s.heap.objs.size + 1)) H2) E) :
    wpAny (model X.prog X.w) X.A (call (.ref C) us) (fun u s'=>u=.ref (s.heap.objs.size + 1)∧EP X pins σ Q u s') X.xe s:=by
  have I2:=Inv.madeX (C:=C) (us:=us) I
  have r2:Vals (V.ref (s.heap.objs.size + 1) :: vs) (Value.ref (s.heap.objs.size + 1) :: us):=.cons rfl r
  have hl:(Value.ref (s.heap.objs.size + 1) :: us++[]).length=ps.length:=by
    have e:=r2.length
    rw [F.len _ _ _ _ hq] at e
    rw [List.append_nil]
    exact e.symm
  obtain ⟨nm,qn,N,bs,bm,hdct,sn,sub,ab,col,dd,k0,k1,k2,k3,k5,hC,hT⟩:=xc_cls I.kIn M.sh
  have hbd:=hb _ (Value.ref (s.heap.objs.size + 1) :: us) I2.kIn hl
  rw [List.append_nil] at hbd
  have hrun:=F.run _ X.stack _ _ ⟨Value.ref (s.heap.objs.size + 1) :: us,[]⟩ (Value.ref (s.heap.objs.size + 1) :: us) _ _ E (hr.make C us []) (I2.env0.make C us []) hbd r2 hq
  obtain ⟨hh,g,d,tk,os⟩:=s
  refine wpAny_call (PySem.W.type_call_x PySem.F.excBase_ValueError hT hC (PySem.W.looks_findIn I.kIn M.init) (fun self=>PySem.W.bind_fn I.kIn self (beq_iff_eq.mp M.fn)) (codeAny_mono hrun fun r s' hq'=>?_) (by rw [← r.length]; exact hz))
  cases r with
  | error e=>exact hx pins σ _ _ e s' I2 hq'
  | ok fl =>
    cases fl with
    | ret u =>
      obtain ⟨v,H',I3,rv,ev,q3⟩:=I2.after hq'
      subst ev
      exact ⟨rv,rfl,⟨V.ref (hh.objs.size + 1),H',I3,rfl,q3⟩⟩
    | next=>exact False.elim hq'
    | brk=>exact False.elim hq'
    | cont=>exact False.elim hq'
structure XMk0 (K:PySem.W.Frag) (C:Addr):Prop where
  ex:PySem.W.excIn K C PySem.W.veMro "ValueError.__new__" = true
  kp:PySem.W.keepIn K (.ref C)=true
theorem run_mkx0 {pins:List (Addr×Obj)} {σ:St} {H:Hp} {s:Shared} {Q:VK} {A:Around} {E:Value→Shared→Prop} (M:XMk0 X.K C) (I:Inv X pins σ H s) (h:Q (.ref (s.heap.objs.size + 1)) (upd H (s.heap.objs.size + 1) (XO true (s.heap.objs.size + 1) C none))) :
    wpAny (model X.prog X.w) A (call (.ref C) []) (EP X pins σ Q) E s:=by
  have q:=M.ex
  unfold PySem.W.excIn at q
  split at q
  · rename_i dd cd sl ho
    split at q
    · rename_i C' bm k0 k1 k2 k3 n k5 hm hs
      simp only [Bool.and_eq_true,beq_iff_eq,Bool.not_eq_true'] at q
      obtain ⟨⟨⟨⟨⟨rfl,rfl⟩,hdel⟩,ht⟩,hok⟩,hni⟩:=q
      obtain ⟨nm,bs,mro,ns,qn,hd,sn,sub,ab,col,del⟩:=cd
      dsimp only at hm hdel hok hni
      subst hm hdel
      have hsl:sl=#[k0,k1,k2,k3,some (.builtin "ValueError.__new__"),k5]:=by
        obtain ⟨l⟩:=sl
        simp only at hs
        rw [hs]
      subst hsl
      obtain ⟨hh,g,d,tk,os⟩:=s
      refine PySem.W.type_call_x0 PySem.F.excBase_ValueError (PySem.W.tail_of_in I.kIn ht) (I.kIn _ _ ho) (Heap.Ns.of_isNs (PySem.W.isNs_of_in I.kIn hok)) (PySem.W.nsMap_none_of_in I.kIn hok hni) (fun h' t2 kp hx=>?_)
      exact ⟨.ref (hh.objs.size + 1),_,I.laidN (a:=hh.objs.size + 1) (o:=XO true (hh.objs.size + 1) C' none) (t':=tk) kp (Heap.get?_none_of_le (Nat.le_succ _)) (XO.ok ⟨_,_,hx,rfl,rfl,rfl,fun _=>⟨rfl,rfl⟩⟩),rfl,h⟩
    · cases q
  · cases q
end
end L2
set_option Elab.async false
set_option linter.all false
set_option maxRecDepth 100000
set_option maxHeartbeats 4000000
namespace L2
open PySem PySem.Spec PyProof.Rows
open PySem.W (XC)
inductive TyX (K:PySem.W.Frag) (H:Hp):V→Value→Prop where
  | of {x:V} {t:Value} (h:TyOf K H x t):TyX K H x t
  | exc {fr:Bool} {a C d:Addr} {fs:List (Str×V)} (e:H a=some (XO fr a C (some d))) (ed:H d=some (XD d fs)) (c:XC K C):TyX K H (.ref a) (.ref C)
  | exc0 {fr:Bool} {a C:Addr} (e:H a=some (XO fr a C none)) (c:XC K C):TyX K H (.ref a) (.ref C)
section
variable {X:Cx}
noncomputable def InstB (K:PySem.W.Frag) (H:Hp) (t:Value) (c:V) (b:Bool):Prop :=
  (∃ n,c=.ty n∧PySem.W.kitOne K t (.type n)=some b)∨(∃ C,c=.ref C∧PySem.W.kitOne K t (.ref C)=some b)∨∃ (a:Addr) (cs:List String),c=.ref a∧H a=some (.tup (cs.map V.ty))∧PySem.W.kitAny K t (cs.map Value.type)=some b
noncomputable def rInst (K:PySem.W.Frag):List V→Hp→VK→Prop:=fun vs H Q=>∃ x c t b,vs=[x,c]∧TyX K H x t∧InstB K H t c b∧Q (.bl b) H
theorem tyvals:∀ {cs:List String} {us:List Value},Vals (cs.map V.ty) us→us=cs.map Value.type
  | [],_,.nil=>rfl
  | c :: cs,_,.cons r t=>by
    have e:_=Value.type c:=r
    rw [e,tyvals t]; rfl
theorem inst_core {pins:List (Addr×Obj)} {s:Shared} {σ:St} {H:Hp} {Q:VK} {c:V} {u cv t:Value} {b:Bool} {HH:Heap→Prop} (I:Inv X pins σ H s) (Z:PySem.W.KitX X.K u t HH) (p:HH s.heap) (rc:RelV c cv) (e:InstB X.K H t c b)
    (hx:u≠.builtin "__main__.__loader__#opaque") (q:Q (.bl b) H):wpAny (model X.prog X.w) X.A (call (.builtin "isinstance") [u,cv]) (EP X pins σ Q) X.xe s:=by
  have fin:∀ tk,EP X pins σ Q (.bool b) { s with toks:=tk }:=fun tk=>⟨.bl b,H,I.tok tk,rfl,q⟩
  rcases e with ⟨n,rfl,e⟩ | ⟨C,rfl,e⟩ | ⟨a,cs,rfl,ha,e⟩
  · cases rc; exact PySem.W.kia_one Z I.kIn p e hx fin
  · cases rc; exact PySem.W.kia_one Z I.kIn p e hx fin
  · cases rc
    obtain ⟨z,its,r,o,ho,hc,n,hd⟩:=(show ObjOk X.prog X.w H s.heap a (.tup (cs.map V.ty)) from I.hok a _ ha)
    obtain rfl:=tyvals r
    obtain ⟨oc,od,odt,osl⟩:=o
    dsimp only at hc hd
    subst hc hd
    exact PySem.W.kia_tup Z I.kIn p ho e hx fin
theorem call_inst:CallR X (.builtin "isinstance") (rInst X.K):=by
  intro pins s σ H xs us Q I rv h
  obtain ⟨x,c,t,b,rfl,ty,e,q⟩:=h
  obtain ⟨u,cv,rfl,rx,rc⟩:=Vals.two rv
  cases ty with
  | exc ea ed c =>
    rename_i fr a C d fs
    cases (show u=Value.ref a from rx)
    obtain ⟨mA,hn,_,_⟩:=XD.get I.hok ed
    obtain ⟨od,hod,_⟩:=lookIn_ns hn
    obtain ⟨ox,odo,J,k⟩:=XO.inst I ea fun d z=>by cases z; exact ⟨od,hod⟩
    exact inst_core I (PySem.W.kitx_x c) J rc e (fun z=>nomatch z) q
  | exc0 ea c =>
    rename_i fr a C
    cases (show u=Value.ref a from rx)
    obtain ⟨ox,odo,J,k⟩:=XO.inst I ea fun d z=>by cases z
    exact inst_core I (PySem.W.kitx_x c) J rc e (fun z=>nomatch z) q
  | of ty =>
    cases ty with
    | non=>cases (show u=Value.none from rx); exact inst_core I PySem.W.kitx_none True.intro rc e (fun z=>nomatch z) q
    | bl y=>cases (show u=Value.bool y from rx); exact inst_core I PySem.W.kitx_bool True.intro rc e (fun z=>nomatch z) q
    | int i=>obtain ⟨t,z⟩:=(show ∃ t,u=Value.int i t from rx); cases z; exact inst_core I PySem.W.kitx_int True.intro rc e (fun z=>nomatch z) q
    | str y=>obtain ⟨t,z⟩:=(show ∃ t,u=Value.str y t from rx); cases z; exact inst_core I PySem.W.kitx_str True.intro rc e (fun z=>nomatch z) q
    | flt y=>obtain ⟨t,z⟩:=(show ∃ t,u=Value.float y t from rx); cases z; exact inst_core I PySem.W.kitx_float True.intro rc e (fun z=>nomatch z) q
    | @lst a xs ea =>
      cases (show u=Value.ref a from rx)
      obtain ⟨_,_,n,_,h1⟩:=(show ObjOk X.prog X.w H s.heap a (.lst xs) from I.hok a _ ea)
      exact inst_core I PySem.W.kitx_list ⟨_,h1,rfl⟩ rc e (fun z=>nomatch z) q
    | @frz a ob xs ea =>
      cases (show u=Value.ref a from rx)
      obtain ⟨_,_,_,n,_,h1⟩:=(show ObjOk X.prog X.w H s.heap a (.frz ob (.lst xs)) from I.hok a _ ea)
      exact inst_core I PySem.W.kitx_list ⟨_,h1,rfl⟩ rc e (fun z=>nomatch z) q
    | @tup a xs ea =>
      cases (show u=Value.ref a from rx)
      obtain ⟨_,_,_,p⟩:=(show ObjOk X.prog X.w H s.heap a (.tup xs) from I.hok a _ ea)
      obtain ⟨o,h1,h2,_⟩:=p
      exact inst_core I PySem.W.kitx_tuple ⟨o,h1,h2⟩ rc e (fun z=>nomatch z) q
    | @dK a kvs ea =>
      cases (show u=Value.ref a from rx)
      obtain ⟨_,_,vs,_,p⟩:=(show ObjOk X.prog X.w H s.heap a (.dK kvs) from I.hok a _ ea)
      obtain ⟨o,es,ep,h1,h2,_⟩:=p
      exact inst_core I PySem.W.kitx_dict ⟨o,h1,h2.1⟩ rc e (fun z=>nomatch z) q
    | @dT a kvs ea =>
      cases (show u=Value.ref a from rx)
      obtain ⟨_,_,xs,_,o,es,ep,h1,h2,_⟩:=(show ObjOk X.prog X.w H s.heap a (.dT kvs) from I.hok a _ ea)
      exact inst_core I PySem.W.kitx_dict ⟨o,h1,h2.1⟩ rc e (fun z=>nomatch z) q
    | @ins a C dx fs ea cl ha hn htk hm =>
      cases (show u=Value.ref a from rx)
      obtain ⟨mA,O,_⟩:=ins_get I.hok ea
      obtain ⟨od,J,_⟩:=O.look
      exact inst_core I (PySem.W.kitx_own (cl.get _) cl.hd ha hn htk hm) J rc e (fun z=>nomatch z) q
noncomputable def rAll (K:PySem.W.Frag):List V→Hp→VK→Prop:=fun vs H Q=>∃ (a:Addr) (bs:List Bool),vs=[.ref a]∧SqL K H a (bs.map V.bl)∧Q (.bl (bs.all id)) H
theorem boolsAre:∀ {bs:List Bool} {us:List Value},Vals (bs.map V.bl) us→PyProof.Rows.LSm.BoolsAre us bs
  | [],_,.nil=>.nil
  | b :: bs,_,.cons r t=>by
    have e:_=Value.bool b:=r
    subst e
    exact .cons b (boolsAre t)
theorem call_all (hc:X.calm=true):CallR X (.builtin "all") (rAll X.K):=by
  intro pins s σ H xs us Q I rv h
  obtain ⟨a,bs,rfl,hq,q⟩:=h
  obtain ⟨u,rfl,ru⟩:=rv.one
  cases (show u=Value.ref a from ru)
  obtain ⟨its,r,p,hz⟩:=I.list hq
  have hl:=p.isList
  have hb:=boolsAre r
  have hlt:a < s.heap.objs.size:=by obtain ⟨_,e,_⟩:=hl; exact Heap.lt_size e
  refine call_all_walk (wpAny_pyIter_list hl ?_)
  refine ⟨s.heap.objs.size,[s.heap.objs.size,a],[s.heap.objs.size],its.toArray.size,_,_,fun i=>(bs[i]?).getD true,rfl,Walks.list (A:=X.A.in1) (I.ok.hd hc) _ a (Nat.ne_of_lt hlt) its.toArray,
    ⟨⟨_,Heap.get?_push_size _ rfl,rfl,rfl⟩,hl.push _⟩,fun i v s' Q' E' hP hQ=>?_,fun h' tk hk=>?_⟩
  · obtain ⟨b,e,rfl⟩:=hb.get i v (by simpa using hP)
    simp only [e,Option.getD_some] at hQ
    exact wpAny_truthy_bool hQ
  · have e:((List.range its.toArray.size).all fun i=>(bs[i]?).getD true)=bs.all id:=by
      rw [List.size_toArray,hb.length]; exact PyProof.Rows.LSm.range_all bs
    rw [e]
    exact ⟨.bl _,H,I.kept (PyProof.Rows.LSm.kept_iter hk),rfl,q⟩
end
end L2
set_option Elab.async false
set_option linter.all false
set_option maxRecDepth 100000
set_option maxHeartbeats 4000000
namespace L2
open PySem PySem.Spec PyProof.Rows
theorem closure_ok {scope:Scope} {env:Env} (h:∀ p∈scope.names,p.2=.free→∃ c,env.cells.lookup p.1=some c) :
    ∃ cl,closureFor scope env=pure cl∧(∀ y c,cl.lookup y=some c→env.cells.lookup y=some c)∧∀ y,(y,NameKind.free)∈scope.names→∃ c,cl.lookup y=some c:=by
  have key:∀ (names:List (Str×NameKind)) (cs:List (Str×Addr)),(∀ p∈names,p.2=.free→∃ c,env.cells.lookup p.1=some c)→(∀ y c,cs.lookup y=some c→env.cells.lookup y=some c) →
      ∃ cl,(forIn names cs (fun (p:Str×NameKind) (r:List (Str×Addr))=>match p with | (name,kind)=>if (kind == NameKind.free)=true then cellOf env name >>= fun c=>pure (ForInStep.yield ((name,c) :: r)) else pure (ForInStep.yield r)):Sem (List (Str×Addr)))=pure cl ∧
        (∀ y c,cl.lookup y=some c→env.cells.lookup y=some c)∧(∀ y,(y,NameKind.free)∈names→∃ c,cl.lookup y=some c)∧∀ y c,cs.lookup y=some c→∃ c',cl.lookup y=some c':=by
    intro names
    induction names with
    | nil=>intro cs _ hc; exact ⟨cs,rfl,hc,(fun y hy=>by cases hy),fun y c e=>⟨c,e⟩⟩
    | cons p r ih =>
      intro cs hp hc
      obtain ⟨pn,pk⟩:=p
      rw [List.forIn_cons]
      dsimp only
      by_cases hk:pk=.free
      · obtain ⟨c,e⟩:=hp (pn,pk) List.mem_cons_self hk
        have hco:cellOf env pn=pure c:=by
          unfold cellOf
          dsimp only at e
          rw [e]
        have hb:(pk == NameKind.free)=true:=by rw [hk]; rfl
        obtain ⟨cl,h1,h2,h3,h4⟩:=ih ((pn,c) :: cs) (fun q hq=>hp q (List.mem_cons_of_mem _ hq)) (fun y c' e'=>by
          rw [List.lookup_cons] at e'
          split at e'
          · rename_i z
            have:y=pn:=beq_iff_eq.mp z
            subst this
            cases e'; exact e
          · exact hc y c' e')
        refine ⟨cl,?_,h2,fun y hy=>?_,fun y c' e'=>?_⟩
        · rw [if_pos hb,hco,pure_bind,pure_bind]; exact h1
        · rcases List.mem_cons.mp hy with z | z
          · have:y=pn:=congrArg Prod.fst z
            subst this
            exact h4 _ c (by rw [List.lookup_cons]; simp)
          · exact h3 y z
        · by_cases z:y=pn
          · subst z; exact h4 _ c (by rw [List.lookup_cons]; simp)
          · exact h4 y c' (by rw [List.lookup_cons,beq_eq_false_iff_ne.mpr z]; exact e')
      · have hb:¬ (pk == NameKind.free)=true:=by simpa using hk
        obtain ⟨cl,h1,h2,h3,h4⟩:=ih cs (fun q hq=>hp q (List.mem_cons_of_mem _ hq)) hc
        refine ⟨cl,?_,h2,fun y hy=>?_,h4⟩
        · rw [if_neg hb,pure_bind]; exact h1
        · rcases List.mem_cons.mp hy with z | z
          · exact absurd (congrArg Prod.snd z).symm hk
          · exact h3 y z
  obtain ⟨cl,h1,h2,h3,_⟩:=key scope.names [] h (fun y c e=>by cases e)
  refine ⟨cl,?_,h2,h3⟩
  unfold closureFor
  exact (bind_pure _).trans h1
theorem relabel_look {env:Env}:∀ {names:List (Str×NameKind)} {x:Str} {k:NameKind},(names.map fun (n,k)=>if (k == NameKind.free && env.scope.kind == .function && env.kindOf n == some .cell) then (n,NameKind.cell) else (n,k)).lookup x=some k →
    k=.cell∨k=.free→(∀ y∈names,y.2≠.cell)→(x,NameKind.free)∈names
  | [],_,_,h,_,_=>by simp at h
  | (n,k0) :: r,x,k,h,hk,hc=>by
    have h:List.lookup x ((if (k0 == NameKind.free && env.scope.kind == .function && env.kindOf n == some .cell)=true then (n,NameKind.cell) else (n,k0)) :: (r.map fun (n,k)=>if (k == NameKind.free && env.scope.kind == .function && env.kindOf n == some .cell) then (n,NameKind.cell) else (n,k)))=some k:=h
    by_cases hx:x=n
    · subst hx
      by_cases hcnd:(k0 == NameKind.free && env.scope.kind == .function && env.kindOf x == some .cell)=true
      · have:k0=.free:=by
          rw [Bool.and_eq_true,Bool.and_eq_true] at hcnd
          exact beq_iff_eq.mp hcnd.1.1
        rw [this]; exact List.mem_cons_self
      · rw [if_neg hcnd,List.lookup_cons,beq_self_eq_true] at h
        have e:k0=k:=Option.some.inj h
        subst e
        rcases hk with e | e
        · exact absurd e (hc (x,k0) List.mem_cons_self)
        · rw [e]; exact List.mem_cons_self
    · refine List.mem_cons_of_mem _ (relabel_look (env:=env) (k:=k) ?_ hk fun y hy=>hc y (List.mem_cons_of_mem _ hy))
      have hb:(x == n)=false:=beq_eq_false_iff_ne.mpr hx
      by_cases hcnd:(k0 == NameKind.free && env.scope.kind == .function && env.kindOf n == some .cell)=true
      · rw [if_pos hcnd,List.lookup_cons,hb] at h; exact h
      · rw [if_neg hcnd,List.lookup_cons,hb] at h; exact h
structure CompOk (X:Cx) (x:Str) (js:List Nat) (scope:Scope):Prop where
  kind:scope.kind=.function
  cell:∀ y∈scope.names,y.2≠.cell
  loc:∀ y∈scope.names,y.2=.local→scope.names.lookup y.1=some .local
  xl:scope.names.lookup x=some .local
  free:∀ y∈scope.names,y.2=.free→X.env.kindOf y.1=some .cell∨X.env.kindOf y.1=some .free
  caps:∀ j∈js,scope.names.lookup (X.N.getD j x)=some .free
  nd:(x :: js.map (fun j=>X.N.getD j x)).Nodup
section
variable {X:Cx} {pins:List (Addr×Obj)} {σ:St} {H:Hp} {s:Shared}
theorem relabel_kind {scope:Scope} {env:Env} {y:Str} (h:scope.names.lookup y=some .free):(relabel scope env).names.lookup y=some .cell∨(relabel scope env).names.lookup y=some .free:=by
  unfold relabel
  generalize scope.names=names at h
  dsimp only
  induction names with
  | nil=>cases h
  | cons p r ih =>
    obtain ⟨n,k⟩:=p
    rw [List.map_cons]
    dsimp only
    by_cases hx:y=n
    · subst hx
      rw [List.lookup_cons,beq_self_eq_true] at h
      have e:k=.free:=Option.some.inj h
      subst e
      by_cases hc:(NameKind.free == NameKind.free && env.scope.kind == .function && env.kindOf y == some .cell)=true
      · rw [if_pos hc,List.lookup_cons,beq_self_eq_true]; exact .inl rfl
      · rw [if_neg hc,List.lookup_cons,beq_self_eq_true]; exact .inr rfl
    · have hb:(y == n)=false:=beq_eq_false_iff_ne.mpr hx
      rw [List.lookup_cons,hb] at h
      by_cases hc:(k == NameKind.free && env.scope.kind == .function && env.kindOf n == some .cell)=true
      · rw [if_pos hc,List.lookup_cons,hb]; exact ih h
      · rw [if_neg hc,List.lookup_cons,hb]; exact ih h
end
end L2
set_option Elab.async false
set_option linter.all false
set_option maxRecDepth 100000
set_option maxHeartbeats 4000000
namespace L2
open PySem PySem.Spec PyProof.Rows
structure Loose (X:Cx) (pins:List (Addr×Obj)) (H:Hp) (C:Addr):Prop where
  free:H C=none
  ne:C≠X.env.locals
  yng:X.s₀.heap.objs.size≤C
  cell:∀ x c,X.env.cells.lookup x=some c→c≠C
  pin:∀ p∈X.pn++pins,p.1≠C
section
variable {X:Cx}
end
end L2
set_option Elab.async false
set_option linter.all false
set_option maxRecDepth 100000
set_option maxHeartbeats 4000000
namespace L2
open PySem PySem.Spec PyProof.Rows
open PySem.W (XC)
noncomputable def Fly (h:Heap) (x C:Addr) (od T:Option Addr):Prop:=∃ o vs,h.get? x=some o∧o.cls=.ref C∧o.dict=od∧o.data=.fields vs∧1 < vs.size ∧
  match T with
  | none=>vs[1]?=some .none
  | some t=>vs[1]?=some (.ref t)∧t≠x∧∃ ot ts,h.get? t=some ot∧ot.data=.fields ts∧3 < ts.size
theorem dict_mapFields (o:Obj) (f):(o.mapFields f).dict=o.dict:=by
  obtain ⟨c,d,dt,sl⟩:=o
  cases dt <;> rfl
section
variable {M:Model} {A:Around} {E:Value→Shared→Prop} {s:Shared}
theorem note_raw {base:Heap} {env:Env} {outer:List Env} {L x:Addr} {oe:Obj} {vs:Array Value} {head:Value} {hadNext:Bool} {Q:Unit→Shared→Prop}
    (hfr:A.frames=some (env :: outer)) (hl:s.heap.FunFrames base (env :: outer)) (hf:env.frame=some L) (he:s.heap.get? x=some oe) (hd:oe.data=.fields vs) (hsz:1 < vs.size)
    (h:∀ h' T,(∀ b o,b≠x→b ∉ frs (env :: outer)→s.heap.get? b=some o→h'.get? b=some o)→(∀ b o,s.heap.get? b=some o→b≠x→∃ sl,h'.get? b=some { o with slots:=sl }) →
      h'.get? x=some (oe.mapFields (·.setIfInBounds 1 (.ref T)))→s.heap.objs.size≤T→(∃ ot ts,h'.get? T=some ot∧ot.data=.fields ts∧3 < ts.size)→Q () { s with heap:=h' }) :
    wpAny M A (do let a ← frameOf env; let pl ← entryPlaceOf L hadNext; let b ← EntryCells.newEntry head a .none (rawInt L) .none pl; setField (.ref x) 1 b) Q E s:=by
  have hene:x ∉ (env :: outer).filterMap (·.frame):=fun hm=>by
    obtain ⟨_,o,ho,hnf⟩:=hl.mem hm
    rw [he] at ho
    injection ho with ho
    subst ho
    exact hnf vs hd
  refine wpAny_bind (wpAny_frameOf_fun hfr hl hf fun h₁ hs₁=>?_)
  refine wpAny_bind (wpAny_entryPlaceOf fun pl hpl=>?_)
  unfold EntryCells.newEntry newFields
  refine wpAny_bind (wpAny_newObj_type ?_ (hpl.sizeOk5 _ _ _ _ _))
  have he₁:h₁.get? x=some oe:=(hs₁.2.1 x hene).trans he
  generalize hO:({ cls:=.type "traceback",dict:=none,data:=.fields ([head,.ref L,.none,rawInt L,.none]++(if pl.isEmpty then List.replicate 6 Value.none else pl)).toArray }:Obj)=ot
  have hod:ot.data=.fields ([head,.ref L,.none,rawInt L,.none]++(if pl.isEmpty then List.replicate 6 Value.none else pl)).toArray:=by rw [← hO]
  have he₂:=Heap.get?_push_of_some (h:=h₁) ot he₁
  refine wpAny_setField he₂ hd hsz ?_
  have hTe:h₁.objs.size≠x:=Nat.ne_of_gt (Heap.lt_size he₁)
  have hd₃:=Obj.data_mapFields hd (·.setIfInBounds 1 (Value.ref h₁.objs.size))
  have hfree:ot.isFreed=false:=Obj.isFreed_of_fields hod
  refine h _ h₁.objs.size (fun b o hbe hbf hb=>?_) (fun b o hb hbe=>?_) (Heap.get?_update_self _ he₂ (Obj.isFreed_of_fields hd₃)) (by rw [hs₁.1]; exact Nat.le_refl _) ⟨ot,_,?_,hod,?_⟩
  · rw [Heap.get?_update_other _ _ (Ne.symm hbe)]
    exact Heap.get?_push_of_some _ ((hs₁.2.1 b hbf).trans hb)
  · obtain ⟨sl,e⟩:=hs₁.2.2 b o hb
    exact ⟨sl,by rw [Heap.get?_update_other _ _ (Ne.symm hbe)]; exact Heap.get?_push_of_some _ e⟩
  · rw [Heap.get?_update_other _ _ (Ne.symm hTe)]
    exact Heap.get?_push_size h₁ hfree
  · simp only [List.size_toArray,List.length_append,List.length_cons,List.length_nil]
    omega
end
noncomputable def Top (X:Cx):Prop:=X.stack=X.env :: X.outer∧X.env.frame=some X.env.locals
section
variable {X:Cx} {pins:List (Addr×Obj)} {σ:St} {H:Hp} {s:Shared} {A:Around} {E:Value→Shared→Prop} {x C:Addr} {od T:Option Addr}
theorem Inv.stir {h':Heap} {ch:List Addr} (I:Inv X pins σ H s) (hch:∀ b∈ch,Loose X pins H b) (tp:Top X)
    (keep:∀ b o,b ∉ ch→b ∉ frs X.stack→s.heap.get? b=some o→h'.get? b=some o) (slot:∀ b o,b ∉ ch→s.heap.get? b=some o→∃ sl,h'.get? b=some { o with slots:=sl })
    (nx:∀ b∈ch,∃ o,h'.get? b=some o):Inv X pins σ H { s with heap:=h' }:=by
  have mem:∀ b,b≠X.env.locals→b ∉ X.fs→b ∉ frs X.stack:=fun b h1 h2 h3=>by
    rcases List.mem_cons.mp (I.stkSub b h3) with z | z
    · exact h1 z
    · exact h2 z
  refine I.step (g':=s.gens) (d':=s.drawn) (t':=s.toks) (ch:=ch) (fun b hb=>⟨.inr (hch b hb).yng,(hch b hb).ne,(hch b hb).cell,(hch b hb).pin⟩) (fun b o h1 h2 h3 e _=>keep b o h3 (mem b h1 h2) e) (fun b o _ _ h3 e _=>slot b o h3 e) (fun b o _ _ n=>n)
    (fun b o h3 e=>by obtain ⟨sl,q⟩:=slot b o h3 e; exact ⟨_,q⟩) (fun _ _ e=>e) (fun _ _ _ e=>e) (fun b ps e=>⟨#[],by rw [e]; simp⟩) (fun m hm=>?_) (fun b u e=>?_) I.bare
  · obtain ⟨o,es,ep,ho,r⟩:=hm
    obtain ⟨sl,q⟩:=slot _ o (fun z=>(hch _ z).ne rfl) ho
    exact ⟨_,es,ep,q,r⟩
  · have nch:∀ c v,H c=some v→c ∉ ch:=fun c v q z=>by rw [(hch c z).free] at q; cases q
    have nfr:∀ c v,H c=some v→c ∉ frs X.stack:=fun c v q z=>by rw [I.stkFree c z] at q; cases q
    refine (I.hok b u e).stay (fun c v hc q=>?_) (fun _ q=>q) fun _ _ q=>q
    rcases hc with z | z
    · subst z; exact keep c v (nch c _ e) (nfr c _ e) q
    · exact keep c v (nch c _ z) (nfr c _ z) q
theorem Inv.loose_new (I:Inv X pins σ H s) {t:Addr} (h:s.heap.objs.size≤t):Loose X pins H t :=
  ⟨I.hok.fresh h,Nat.ne_of_gt (Nat.lt_of_lt_of_le I.lt h),Nat.le_trans I.sz h,fun y c e=>by obtain ⟨v,z⟩:=I.cell y c e; exact Nat.ne_of_lt (Nat.lt_of_lt_of_le z.lt h),fun p hp=>Nat.ne_of_lt (Nat.lt_of_lt_of_le (Heap.lt_size (I.pin p hp).1) h)⟩
theorem note_new {M:Model} {Q:Unit→Shared→Prop} {head:Value} {hadNext:Bool} (I:Inv X pins σ H s) (tp:Top X) (hA:A.frames=some X.stack) (f:Fly s.heap x C od T) (lx:Loose X pins H x)
    (h:∀ s' t,Inv X pins σ H s'→Fly s'.heap x C od (some t)→Loose X pins H t→Q () s') :
    wpAny M A (do let a ← frameOf X.env; let pl ← entryPlaceOf X.env.locals hadNext; let b ← EntryCells.newEntry head a .none (rawInt X.env.locals) .none pl; setField (.ref x) 1 b) Q E s:=by
  obtain ⟨t1,tf⟩:=id tp
  rw [t1] at hA
  have hlF:s.heap.FunFrames X.base (X.env :: X.outer):=t1 ▸ I.stack
  obtain ⟨o,vs,hx,hc,hd,hdat,hsz,_⟩:=f
  refine note_raw hA hlF tf hx hdat hsz fun h' t k1 k2 k3 k4 ⟨ot,ts,k5,k6,k7⟩=>h _ t ?_ ?_ (I.loose_new k4)
  · refine I.stir (ch:=[x]) (fun b hb=>by rw [List.mem_singleton.mp hb]; exact lx) tp (fun b o hb hf e=>k1 b o (fun z=>hb (by simp [z])) (by rw [← t1]; exact hf) e) (fun b o hb e=>k2 b o e fun z=>hb (by simp [z])) (fun b hb=>by rw [List.mem_singleton.mp hb]; exact ⟨_,k3⟩)
  · have hne:t≠x:=Nat.ne_of_gt (Nat.lt_of_lt_of_le (Heap.lt_size hx) k4)
    refine ⟨_,_,k3,(Obj.cls_mapFields _ _).trans hc,(dict_mapFields _ _).trans hd,Obj.data_mapFields hdat _,by simpa using hsz,by simp [hsz],hne,ot,ts,k5,k6,k7⟩
theorem note_ok {M:Model} {Q:Unit→Shared→Prop} (I:Inv X pins σ H s) (tp:Top X) (hA:A.frames=some X.stack) (f:Fly s.heap x C od T) (lx:Loose X pins H x) (lt:∀ t,T=some t→Loose X pins H t)
    (h:∀ s' t,Inv X pins σ H s'→Fly s'.heap x C od (some t)→Loose X pins H t→Q () s'):wpAny M A (noteFrame (.ref x) X.env) Q E s:=by
  obtain ⟨o,vs,hx,hc,hd,hdat,hsz,hT⟩:=id f
  unfold noteFrame
  simp only [tp.2]
  cases T with
  | none =>
    refine wpAny_bind (wpAny_field hx hdat hT ?_)
    rw [if_neg (by decide)]
    exact note_new I tp hA f lx h
  | some t =>
    obtain ⟨h1,hne,ot,ts,ht,htd,hts⟩:=hT
    have lt:=lt t rfl
    refine wpAny_bind (wpAny_field hx hdat h1 ?_)
    rw [if_pos (show (Value.ref t != Value.none)=true from by simp)]
    have h3:ts[3]?=some ts[3]:=by simp [hts]
    refine wpAny_bind (wpAny_field ht htd h3 ?_)
    by_cases q:(ts[3] == rawInt X.env.locals)=true
    · rw [if_pos q]
      exact wpAny_pure (h s t I f lt)
    · rw [if_neg q]
      refine wpAny_bind (wpAny_setField ht htd hts ?_)
      have other:∀ b,b≠t→(s.heap.update t (Obj.mapFields (·.setIfInBounds 3 Value.none))).get? b=s.heap.get? b:=fun b hb=>Heap.get?_update_other _ _ (Ne.symm hb)
      have ht':=Heap.get?_update_self (Obj.mapFields (·.setIfInBounds 3 Value.none)) ht (Obj.isFreed_of_fields (Obj.data_mapFields htd _))
      have I1:Inv X pins σ H { s with heap:=s.heap.update t (Obj.mapFields (·.setIfInBounds 3 Value.none)) } :=
        I.stir (ch:=[t]) (fun b hb=>by rw [List.mem_singleton.mp hb]; exact lt) tp (fun b o hb hf e=>(other b fun z=>hb (by simp [z])).trans e) (fun b o hb e=>⟨o.slots,(other b fun z=>hb (by simp [z])).trans e⟩) (fun b hb=>by rw [List.mem_singleton.mp hb]; exact ⟨_,ht'⟩)
      exact note_new (T:=some t) I1 tp hA ⟨o,vs,(other x (Ne.symm hne)).trans hx,hc,hd,hdat,hsz,h1,hne,_,_,ht',Obj.data_mapFields htd _,by simpa using hts⟩ lx h
theorem flight_ok {M:Model} {fr:Option Addr} {Q:Unit→Shared→Prop} (I:Inv X pins σ H s) (tp:Top X) (f:Fly s.heap x C od T) (lt:∀ t,T=some t→Loose X pins H t)
    (h:∀ s',Inv X pins σ H s'→Fly s'.heap x C od T→Q () s'):wpAny M A (setFlight (.ref x) fr) Q E s:=by
  obtain ⟨o,vs,hx,hc,hd,hdat,hsz,hT⟩:=id f
  unfold setFlight
  cases T with
  | none =>
    refine wpAny_bind (wpAny_field hx hdat hT ?_)
    rw [if_neg (by decide)]
    exact wpAny_pure (h s I f)
  | some t =>
    obtain ⟨h1,hne,ot,ts,ht,htd,hts⟩:=hT
    have lt:=lt t rfl
    refine wpAny_bind (wpAny_field hx hdat h1 ?_)
    rw [if_pos (show (Value.ref t != Value.none)=true from by simp)]
    refine wpAny_setField ht htd hts (h _ ?_ ?_)
    · have other:∀ b,b≠t→(s.heap.update t (Obj.mapFields (·.setIfInBounds 3 (fr.elim Value.none fun f=>rawInt f)))).get? b=s.heap.get? b:=fun b hb=>Heap.get?_update_other _ _ (Ne.symm hb)
      have ht':=Heap.get?_update_self (Obj.mapFields (·.setIfInBounds 3 (fr.elim Value.none fun f=>rawInt f))) ht (Obj.isFreed_of_fields (Obj.data_mapFields htd _))
      exact I.stir (ch:=[t]) (fun b hb=>by rw [List.mem_singleton.mp hb]; exact lt) tp (fun b o hb hf e=>(other b fun z=>hb (by simp [z])).trans e) (fun b o hb e=>⟨o.slots,(other b fun z=>hb (by simp [z])).trans e⟩) (fun b hb=>by rw [List.mem_singleton.mp hb]; exact ⟨_,ht'⟩)
    · have ht':=Heap.get?_update_self (Obj.mapFields (·.setIfInBounds 3 (fr.elim Value.none fun f=>rawInt f))) ht (Obj.isFreed_of_fields (Obj.data_mapFields htd _))
      exact ⟨o,vs,(Heap.get?_update_other _ _ hne).trans hx,hc,hd,hdat,hsz,h1,hne,_,_,ht',Obj.data_mapFields htd _,by simpa using hts⟩
end
end L2
set_option Elab.async false
set_option linter.all false
set_option maxRecDepth 100000
set_option maxHeartbeats 4000000
namespace L2
open PySem PySem.Spec PyProof.Rows
open PySem.W (XC)
noncomputable abbrev XW:=Addr→Option Addr→St→Hp→Prop
noncomputable def FlyIn (X:Cx) (pins:List (Addr×Obj)) (W:XW) (e:Value) (s:Shared):Prop :=
  ∃ x C od T σ H,e=.ref x∧Inv X pins σ H s∧Fly s.heap x C od T∧Loose X pins H x∧(∀ t,T=some t→Loose X pins H t)∧W C od σ H
noncomputable def Flies (X:Cx) (W:XW):Prop:=∀ pins e s,FlyIn X pins W e s→X.xe e s
noncomputable def CX1 (P:Program) (w:World):CXT:=fun outer H s E e s' =>
  ∃ x C od T H',e=.ref x∧s'.os=s.os∧AllBare s'.gens∧Un (frs outer) [] H H' s.heap s'.heap∧HOk P w H' s'.heap∧Fly s'.heap x C od T∧H' x=none∧s.heap.objs.size≤x∧(∀ t,T=some t→H' t=none∧s.heap.objs.size≤t)∧E (.ref C) od H'
section
variable {X:Cx} {pins:List (Addr×Obj)} {σ:St} {H:Hp} {s:Shared} {A:Around} {E:Value→Shared→Prop}
theorem fly_call {W:XW} {e:Value} {s':Shared} (I:Inv X pins σ H s) (h:CX1 X.prog X.w X.stack H s (fun Cv od H'=>∃ C,Cv=.ref C∧W C od σ H') e s'):FlyIn X pins W e s':=by
  obtain ⟨x,C,od,T,H',rfl,os,bare,un,hok,f,hx,hy,ht,C',ec,q⟩:=h
  cases ec
  have I':Inv X pins σ H' s':=I.call' (ch:=[]) os un hok bare fun b z=>by cases z
  have ls:∀ t,H' t=none→s.heap.objs.size≤t→Loose X pins H' t:=fun t h0 hz=>by
    have l:=I.loose_new hz
    exact ⟨h0,l.ne,l.yng,l.cell,l.pin⟩
  exact ⟨x,C,od,T,σ,H',rfl,I',f,ls x hx hy,fun t e=>ls t (ht t e).1 (ht t e).2,q⟩
noncomputable def tCallX (sp:Sp) (W:XW) (t:TA):TE:=fun σ H Q=>t σ H fun vs H1=>sp vs H1 Q fun Cv od H'=>∃ C,Cv=.ref C∧W C od σ H'
theorem run_fnX {k:Nat} {f:Addr} {fd:FuncData} {ps:List Str} {sp:Sp} {W:XW} {Q:VK} {us:List Value} {vs:List V} (F:FnOk X.prog X.w X.K X.mg X.base (CX1 X.prog X.w) k f fd ps sp) (hr:Room k X.A) (hb:Binds X.K fd ps []) (hf:Flies X W)
    (I:Inv X pins σ H s) (r:Vals vs us) (h:sp vs H Q fun Cv od H'=>∃ C,Cv=.ref C∧W C od σ H'):wpAny (model X.prog X.w) X.A (call (.ref f) us) (EP X pins σ Q) X.xe s:=by
  have hl:(us++[]).length=ps.length:=by rw [List.append_nil,← r.length]; exact F.len _ _ _ _ h
  have hbd:=hb s us I.kIn hl
  rw [List.append_nil] at hbd
  refine wpAny_call (codeAny_mono (F.run X.A X.stack s H ⟨us,[]⟩ us vs Q _ hr I.env0 hbd r h) fun r s' hq=>?_)
  cases r with
  | error e=>exact hf pins e s' (fly_call I hq)
  | ok fl =>
    cases fl with
    | ret u=>exact I.after hq
    | next=>exact False.elim hq
    | brk=>exact False.elim hq
    | cont=>exact False.elim hq
theorem pe_callX {k:Nat} {f:Addr} {fd:FuncData} {ps:List Str} {sp:Sp} {W:XW} {x:Str} {p pos:Pos} {e:Expr} {es:List Expr} {t:TA} (F:FnOk X.prog X.w X.K X.mg X.base (CX1 X.prog X.w) k f fd ps sp) (hr:Room k X.A) (hg:Gl X x) (hm:X.mg x=some (.ref f))
    (hk:PySem.W.keepIn X.K (.ref f)=true) (hb:Binds X.K fd ps []) (hf:Flies X W)
    (ha:PA X (e :: es) t) (hdb:(x == ("__debug__" : Str))=false:=by decide) (he:starEach (e :: es) X.env=(false,eval e X.env) :: starEach es X.env:=by rfl) (hpl:(backTo pos (starEach es X.env)).any (·.1)=false:=by rfl) :
    PE X (.Call (.Name x p) (e :: es) [] pos) (tCallX sp W t):=by
  intro pins s σ H Q I h
  refine wpAny_Call_Name_kw (ld_glob I hg hm ?_ hdb)
  refine PySem.W.callWith_K (h₀:=X.base) I.ok.mod.kin hk (thn (ha pos pins s σ H _ I h) fun us s1 ⟨vs,H1,I1,r,q⟩=>⟨I1.kIn,?_⟩) he hpl
  exact run_fnX F hr hb hf I1 r q
noncomputable def tMakeX (C:Addr) (sp:Sp) (W:XW) (t:TA):TE:=fun σ H Q=>t σ H fun vs H1=>∀ x dx,H1 x=none→H1 dx=none→dx≠x →
  sp (.ref x :: vs) (upd (upd H1 dx (.own x)) x (.ins C dx [])) (fun v H2=>v=.non∧Q (.ref x) H2) fun Cv od H'=>∃ C,Cv=.ref C∧W C od σ H'
theorem pe_makeX {k:Nat} {f C:Addr} {fd:FuncData} {ps:List Str} {sp:Sp} {W:XW} {x:Str} {p pos:Pos} {e:Expr} {es:List Expr} {t:TA} (M:Mk X.K C f) (F:FnOk X.prog X.w X.K X.mg X.base (CX1 X.prog X.w) k f fd ps sp) (hr:Room (k + 1) X.A) (hg:Gl X x)
    (hm:X.mg x=some (.ref C)) (hb:Binds X.K fd ps []) (hf:Flies X W)
    (ha:PA X (e :: es) t) (hdb:(x == ("__debug__" : Str))=false:=by decide) (he:starEach (e :: es) X.env=(false,eval e X.env) :: starEach es X.env:=by rfl) (hpl:(backTo pos (starEach es X.env)).any (·.1)=false:=by rfl) :
    PE X (.Call (.Name x p) (e :: es) [] pos) (tMakeX C sp W t):=by
  intro pins s σ H Q I h
  refine wpAny_Call_Name_kw (ld_glob I hg hm ?_ hdb)
  refine PySem.W.callWith_K (h₀:=X.base) I.ok.mod.kin M.kp (thn (ha pos pins s σ H _ I h) fun us s1 ⟨vs,H1,I1,r,q⟩=>⟨I1.kIn,?_⟩) he hpl
  have hq:=q (s1.heap.objs.size + 1) s1.heap.objs.size (I1.hok.fresh (Nat.le_succ _)) (I1.hok.fresh (Nat.le_refl _)) (Nat.ne_of_lt (Nat.lt_succ_self _))
  have I2:=Inv.made (C:=C) I1
  have r2:Vals (V.ref (s1.heap.objs.size + 1) :: vs) (Value.ref (s1.heap.objs.size + 1) :: us):=.cons rfl r
  have hl:(Value.ref (s1.heap.objs.size + 1) :: us++[]).length=ps.length:=by
    have e:=r2.length
    rw [F.len _ _ _ _ hq] at e
    rw [List.append_nil]
    exact e.symm
  have hbd:=hb _ (Value.ref (s1.heap.objs.size + 1) :: us) I2.kIn hl
  rw [List.append_nil] at hbd
  refine wpAny_call (make_map (f:=f) I1.kIn M.makes M.init (beq_iff_eq.mp M.fn) (codeAny_mono (F.run _ X.stack _ _ ⟨Value.ref (s1.heap.objs.size + 1) :: us,[]⟩ (Value.ref (s1.heap.objs.size + 1) :: us) _ _ _ (hr.make C us [])
    (I2.env0.make C us []) hbd r2 hq) fun r s' hq'=>?_))
  cases r with
  | error e=>exact hf pins e s' (fly_call I2 hq')
  | ok fl =>
    cases fl with
    | ret u =>
      obtain ⟨v,H',I3,rv,ev,q3⟩:=I2.after hq'
      subst ev
      exact ⟨rv,⟨V.ref (s1.heap.objs.size + 1),H',I3,rfl,q3⟩⟩
    | next=>exact False.elim hq'
    | brk=>exact False.elim hq'
    | cont=>exact False.elim hq'
end
section
variable {P:Program} {w:World} {K:PySem.W.Frag} {mg:Str→Option Value} {base:Heap}
noncomputable abbrev cxX (P:Program) (w:World) (K:PySem.W.Frag) (mg:Str→Option Value) (base:Heap) (N:List Str) (qual:Str) (scope:Scope) (f:Addr) (cd:Value) (A:Around) (outer:List Env) (s:Shared) (H:Hp) (E:XK):Cx :=
  cxOf (CX1 P w) P w K mg base N qual scope f cd A outer s H E
theorem flies_fn {N:List Str} {qual:Str} {scope:Scope} {f:Addr} {cd:Value} {A:Around} {outer:List Env} {s:Shared} {H:Hp} {E:XK}:Flies (cxX P w K mg base N qual scope f cd A outer s H E) fun C od _ H'=>E (.ref C) od H':=by
  intro pins e s' h
  obtain ⟨x,C,od,T,σ,H',rfl,I,ff,lx,lt,q⟩:=h
  have tp:Top (cxX P w K mg base N qual scope f cd A outer s H E):=⟨rfl,rfl⟩
  show wpAny _ _ (leaving _ (.ref x)) _ _ _
  unfold leaving
  refine wpAny_bind (note_ok I tp I.ok.frames ff lx lt fun s1 t I1 f1 l1=>flight_ok I1 tp f1 (fun t' e=>by cases e; exact l1) fun s2 I2 f2=>?_)
  exact ⟨x,C,od,some t,H',rfl,I2.os,I2.bare,I2.base,I2.hok,f2,lx.free,lx.yng,fun t' e=>by cases e; exact ⟨l1.free,l1.yng⟩,q⟩
theorem Fun.okX {x qual:Str} {st:Stmt} {f:Addr} {fd:FuncData} {N ps:List Str} {k:Nat} {sp:Sp} (F:Fun K x qual st f fd) (S:FnScope N ps (defScope st)) (len:∀ vs H Q E,sp vs H Q E→vs.length=ps.length)
    (hbody:∀ (cdv:Value) (A:Around) (outer:List Env) (s:Shared) (H:Hp) (vs:List V) (Q:VK) (E:XK),Room k (A.deeper (envOfC qual (defScope st) s.heap.objs.size f cdv))→sp vs H Q E →
      ∃ t,PSs (cxX P w K mg base N qual (defScope st) f cdv A outer s H E) (defBody st) t∧t { nx:=fun _ H'=>Q .non H',rt:=Q } (start N vs) H):FnOk P w K mg base (CX1 P w) (k + 1) f fd ps sp:=by
  obtain ⟨oc,od,kV,doc,pm,an,cdv,ct,osl,rfl,lk,hcd⟩:=F.ex
  exact fn_of lk hcd S len fun A outer s H vs Q E hr hsp=>hbody cdv A outer s H vs Q E hr hsp
end
section
variable {X:Cx} {pins:List (Addr×Obj)} {σ:St} {H:Hp} {s:Shared}
noncomputable def drop (H:Hp) (x:Addr):Hp:=fun b=>if b=x then none else H b
theorem drop_ne {H:Hp} {x b:Addr} (h:b≠x):drop H x b=H b:=if_neg h
theorem drop_self {H:Hp} {x:Addr}:drop H x x=none:=if_pos rfl
theorem Inv.drop {φ:Heap→Prop} {x:Addr} (I:Inv X pins σ H s) (e:H x=some (.ext φ)):Inv X pins σ (drop H x) s:=by
  have ne:∀ b u,H b=some u→(∀ ψ,u≠.ext ψ)→b≠x:=fun b u q n z=>by rw [z,e] at q; exact n φ (Option.some.inj q).symm
  have nn:∀ b,H b=none→L2.drop H x b=none:=fun b q=>by
    by_cases z:b=x
    · rw [z]; exact drop_self
    · rw [drop_ne z]; exact q
  have hown:∀ b a,H b=some (.own a)→L2.drop H x b=some (.own a):=fun b a q=>by rw [drop_ne (ne b _ q fun ψ z=>by cases z)]; exact q
  have htup:∀ b xs,H b=some (.tup xs)→L2.drop H x b=some (.tup xs):=fun b xs q=>by rw [drop_ne (ne b _ q fun ψ z=>by cases z)]; exact q
  refine ⟨I.ok,I.os,I.bare,⟨I.base.keep,I.base.slot,fun b o q n hx=>nn b (I.base.free b o q n hx),I.base.there,fun b xs q=>htup b xs (I.base.tups b xs q),fun b o u q=>?_,fun b ps q=>?_⟩,I.loc,I.cell,nn _ I.free,fun y c q=>nn c (I.freeC y c q),fun p hp=>?_,fun b u q=>?_,I.len⟩
  · have z:=I.base.frzs b o u q
    rw [drop_ne (ne b _ z fun ψ z=>by cases z)]; exact z
  · obtain ⟨m,z⟩:=I.base.tbls b ps q
    exact ⟨m,by rw [drop_ne (ne b _ z fun ψ z=>by cases z)]; exact z⟩
  · obtain ⟨a,b,c⟩:=I.pin p hp
    exact ⟨a,nn _ b,c⟩
  · have hb:b≠x:=fun z=>by rw [z,drop_self] at q; cases q
    rw [drop_ne hb] at q
    exact (I.hok b u q).stay (fun _ _ _ z=>z) (fun c z=>hown c _ z) fun c xs z=>htup c xs z
theorem raise_raw {M:Model} {A:Around} {E:Value→Shared→Prop} {env:Env} {xt:Sem Value} {Q:Flow→Shared→Prop} {C:Addr} {s:Shared} (hh:A.handled=none)
    (h:wpAny M A xt (fun v s1=>∃ e od vs nm qn N bs bm hdct sn sub ab col dd k0 k1 k2 k3 k5 nid,v=.ref e∧s1.heap.get? C=some (excClassObj nm qn C N bs bm hdct sn sub ab col dd k0 k1 k2 k3 k5 nid)∧bm.contains (.type "BaseException")=true ∧
      s1.heap.get? e=some ⟨.ref C,od,.fields vs,#[]⟩∧vs[1]?=some .none∧E (.ref e) s1) E s) :
    wpAny M A (raiseStmt env (some xt) none) Q E s:=by
  unfold raiseStmt
  refine wpAny_bind (wpAny_mono h (fun v s1 h1=>?_) fun _ _ x=>x)
  obtain ⟨e,od,vs,nm,qn,N,bs,bm,hdct,sn,sub,ab,col,dd,k0,k1,k2,k3,k5,nid,rfl,hC,hb,he,hv,hE⟩:=h1
  have hcB:(Value.ref C :: bm).contains (.type "BaseException")=true:=by rw [List.contains_cons,hb,Bool.or_true]
  obtain ⟨hp,g,d,tk,os⟩:=s1
  repeat (first | with_reducible refine wpAny_loadPart_at he ?_ | with_reducible refine wpAny_loadPart_at hC ?_ | (with_reducible refine wpAny_isSubtype_exc hC ?_; rw [hcB]) | wp_step)
  rw [hv]
  refine wpAny_pure ?_
  rw [if_neg (by decide)]
  exact wpAny_pure (wpAny_raiseNew_none hh hE)
theorem raise_at {M:Model} {C x:Addr} {od:Option Addr} {W:XW} (hf:Flies X W) (I:Inv X pins σ H s) (e:H x=some (XO true x C od)) (hK:xcIn X.K C=true) (hy:X.s₀.heap.objs.size≤x) (q:W C od σ (L2.drop H x)) :
    ∃ e' od' vs nm qn N bs bm hdct sn sub ab col dd k0 k1 k2 k3 k5 nid,Value.ref x=.ref e'∧s.heap.get? C=some (excClassObj nm qn C N bs bm hdct sn sub ab col dd k0 k1 k2 k3 k5 nid)∧bm.contains (.type "BaseException")=true ∧
      s.heap.get? e'=some ⟨.ref C,od',.fields vs,#[]⟩∧vs[1]?=some .none∧X.xe (.ref e') s:=by
  obtain ⟨o,vs,hx,h1,h2,h3,h40⟩:=XO.get I.hok e
  obtain ⟨h4,h5⟩:=h40 rfl
  clear h40
  obtain ⟨nm,qn,N,bs,bm,hdct,sn,sub,ab,col,dd,k0,k1,k2,k3,k5,hC,hT⟩:=xc_cls I.kIn hK
  have I':=Inv.drop I e
  obtain ⟨oc,odd,odt,osl⟩:=o
  dsimp only at h1 h2 h3 h4
  subst h1 h2 h3 h4
  refine ⟨x,odd,vs,nm,qn,N,bs,bm,hdct,sn,sub,ab,col,dd,k0,k1,k2,k3,k5,_,rfl,hC,hT.hasType rfl,hx,h5,?_⟩
  refine hf pins _ _ ⟨x,C,odd,none,σ,_,rfl,I',⟨_,vs,hx,rfl,rfl,rfl,(Array.getElem?_eq_some_iff.mp h5).1,h5⟩,⟨drop_self,fun z=>?_,hy,fun y c q z=>?_,fun p hp z=>?_⟩,(fun t z=>by cases z),q⟩
  · have:=I.free; rw [← z,e] at this; cases this
  · have:=I.freeC y c q; rw [z,e] at this; cases this
  · have:=(I.pin p hp).2.1; rw [z,e] at this; cases this
noncomputable def tRaiseX (C:Addr) (sp:Sp) (W:XW) (t:TA):TS:=fun _ σ H=>t σ H fun vs H1=>vs.length≤sizeLine∧∀ x,H1 x=none →
  sp (.ref x :: vs) (upd H1 x (XO true x C none)) (fun v H2=>v=.non∧∃ od,H2 x=some (XO true x C od)∧W C od σ (L2.drop H2 x)) E0
noncomputable def tRaise0 (C:Addr) (W:XW):TS:=fun _ σ H=>∀ x,H x=none→W C none σ (L2.drop (upd H x (XO true x C none)) x)
theorem ps_raiseX {k:Nat} {f C:Addr} {fd:FuncData} {ps:List Str} {sp:Sp} {W:XW} {x:Str} {p cpos pos:Pos} {e:Expr} {es:List Expr} {t:TA} (hc:X.calm=true) (hf:Flies X W) (M:XMk X.K C f) (F:FnOk X.prog X.w X.K X.mg X.base CX0 k f fd ps sp) (hr:Room (k + 1) X.A)
    (hg:Gl X x) (hm:X.mg x=some (.ref C)) (hb:Binds X.K fd ps [])
    (ha:PA X (e :: es) t) (hdb:(x == ("__debug__" : Str))=false:=by decide) (he:starEach (e :: es) X.env=(false,eval e X.env) :: starEach es X.env:=by rfl) (hpl:(backTo cpos (starEach es X.env)).any (·.1)=false:=by rfl) :
    PS X (.Raise (some (.Call (.Name x p) (e :: es) [] cpos)) none pos) (tRaiseX C sp W t):=by
  intro pins s σ H D I h
  show wpAny _ _ (do standAt pos; raiseStmt X.env (some (do let v ← eval (.Call (.Name x p) (e :: es) [] cpos) X.env; standAt pos; pure v)) none) _ _ _
  refine wpAny_bind (wpAny_standAt (raise_raw (C:=C) (I.ok.hd hc) (wpAny_bind (thn (Q:=fun v s1=>∃ x H2 od,v=.ref x∧X.s₀.heap.objs.size≤x∧Inv X pins σ H2 s1∧H2 x=some (XO true x C od)∧W C od σ (L2.drop H2 x)) ?_ fun v s1 ⟨x,H2,od,ev,hy,I2,e2,q2⟩=>wpAny_bind (wpAny_standAt (wpAny_pure ?_))))))
  · refine wpAny_Call_Name_kw (ld_glob I hg hm ?_ hdb)
    refine PySem.W.callWith_K (h₀:=X.base) I.ok.mod.kin M.kp (thn (ha cpos pins s σ H _ I h) fun us s1 ⟨vs,H1,I1,r,hz,q⟩=>⟨I1.kIn,?_⟩) he hpl
    refine thn (run_mkx_core (Q:=fun v H2=>∃ od,H2 (s1.heap.objs.size + 1)=some (XO true (s1.heap.objs.size + 1) C od)∧W C od σ (L2.drop H2 (s1.heap.objs.size + 1))) M F hr hb (pass0 (X:=X)) I1 r hz (q _ (I1.hok.fresh (Nat.le_succ _)))) fun v s2 ⟨ev,y,H2,I2,ry,od,q1,q2⟩=>?_
    exact ⟨_,H2,od,ev,Nat.le_trans I1.sz (Nat.le_succ _),I2,q1,q2⟩
  · subst ev
    exact raise_at (M:=model X.prog X.w) hf I2 e2 M.sh hy q2
theorem ps_raise0 {C:Addr} {W:XW} {x:Str} {p cpos pos:Pos} (hc:X.calm=true) (hf:Flies X W) (M:XMk0 X.K C) (hK:xcIn X.K C=true) (hg:Gl X x) (hm:X.mg x=some (.ref C)) (hdb:(x == ("__debug__" : Str))=false:=by decide) :
    PS X (.Raise (some (.Call (.Name x p) [] [] cpos)) none pos) (tRaise0 C W):=by
  intro pins s σ H D I h
  show wpAny _ _ (do standAt pos; raiseStmt X.env (some (do let v ← eval (.Call (.Name x p) [] [] cpos) X.env; standAt pos; pure v)) none) _ _ _
  refine wpAny_bind (wpAny_standAt (raise_raw (C:=C) (I.ok.hd hc) (wpAny_bind (thn (Q:=fun v s1=>∃ x H2,v=.ref x∧X.s₀.heap.objs.size≤x∧Inv X pins σ H2 s1∧H2 x=some (XO true x C none)∧W C none σ (L2.drop H2 x)) ?_ fun v s1 ⟨x,H2,ev,hy,I2,e2,q2⟩=>wpAny_bind (wpAny_standAt (wpAny_pure ?_))))))
  · refine wpAny_Call_Name_kw (ld_glob I hg hm ?_ hdb)
    refine PySem.W.callWith_K0 I.kIn M.kp (thn (run_mkx0 (Q:=fun v H2=>v=.ref (s.heap.objs.size + 1)∧H2 (s.heap.objs.size + 1)=some (XO true (s.heap.objs.size + 1) C none)∧W C none σ (L2.drop H2 (s.heap.objs.size + 1))) M I ⟨rfl,upd_same,h _ (I.hok.fresh (Nat.le_succ _))⟩) fun v s2 ⟨y,H2,I2,ry,ey,q1,q2⟩=>?_)
    subst ey
    exact ⟨_,H2,ry,Nat.le_trans I.sz (Nat.le_succ _),I2,q1,q2⟩
  · subst ev
    exact raise_at (M:=model X.prog X.w) hf I2 e2 hK hy q2
end
end L2
set_option Elab.async false
set_option linter.all false
set_option maxRecDepth 100000
set_option maxHeartbeats 4000000
namespace L2
open PySem PySem.Spec PyProof.Rows
open PySem.W (XC)
section
variable {X:Cx} {pins:List (Addr×Obj)} {σ:St} {H:Hp} {s:Shared}
theorem gone_ok {M:Model} {A:Around} {E:Value→Shared→Prop} {i:Nat} {n:Str} {pos:Pos} {Q:Unit→Shared→Prop} (I:Inv X pins σ H s) (hN:X.N.Nodup) (hi:X.N[i]?=some n) (hk:X.env.scope.names.lookup n=some .local)
    (h:∀ s',Inv X pins (σ.set i none) H s'→Q () s'):wpAny M A (do bindName X.env n .none; unbindBehindTheSuite X.env n pos) Q E s:=by
  have hcls:(X.env.scope.kind == .class || (X.env.scope.kind == .module && X.env.locals != X.env.globals))=false:=by rw [I.ok.kind]; rfl
  refine wpAny_bind (wpAny_bindName (store_ok (v:=.non) I hN hi (.inl hk) rfl (fun s1 I1=>?_) (.inr hk)))
  unfold unbindBehindTheSuite
  refine wpAny_onRaise ?_
  obtain ⟨m,hn,hl⟩:=id I1.loc
  have hiσ:i < σ.length:=by rw [I.len]; exact (List.getElem?_eq_some_iff.mp hi).1
  obtain ⟨u,ru,l⟩:=hl i n .non hi (List.getElem?_set_self hiσ) (.inl hk)
  have hm:m n=some u:=by
    rcases l with ⟨_,z⟩ | ⟨z,_⟩
    · exact z
    · have z':X.env.scope.names.lookup n=some .cell∨X.env.scope.names.lookup n=some .free:=z
      rw [hk] at z'
      rcases z' with z' | z' <;> cases z'
  refine wpAny_unbindName_local hk hn hm hcls fun h' w hn' hs=>h _ ?_
  have cne:=I1.cne
  obtain ⟨oL,_,_,hoL,_⟩:=id hn
  have up:∀ b,X.s₀.heap.objs.size≤X.env.locals→∀ o,X.s₀.heap.get? b=some o→b≠X.env.locals:=fun b hz o e=>Nat.ne_of_lt (Nat.lt_of_lt_of_le (Heap.lt_size e) hz)
  refine ⟨I1.ok,I1.os,I1.bare,⟨fun b o e n hb hx=>?_,fun b o e n hb hx=>?_,I1.base.free,fun b o e hx=>?_,I1.base.tups,I1.base.frzs,I1.base.tbls⟩,⟨_,hn',fun j y v' e1 e2 e3=>?_⟩,fun y c e=>?_,I1.free,I1.freeC,fun p hp=>?_,fun b ob e=>?_,?_⟩
  · exact (hs.2 b (up b I1.ok.above o e)).trans (I1.base.keep b o e n hb hx)
  · obtain ⟨sl,q⟩:=I1.base.slot b o e n hb hx
    exact ⟨sl,(hs.2 b (up b I1.ok.above o e)).trans q⟩
  · obtain ⟨o',q⟩:=I1.base.there b o e hx
    exact ⟨o',(hs.2 b (up b I1.ok.above o e)).trans q⟩
  · by_cases hj:j=i
    · subst hj
      rw [List.getElem?_set_self hiσ] at e2
      cases e2
    · rw [List.getElem?_set_ne (Ne.symm hj)] at e2
      obtain ⟨u',r',q⟩:=hl j y v' e1 (by rw [List.getElem?_set_ne (Ne.symm hj)]; exact e2) e3
      refine ⟨u',r',?_⟩
      rcases q with ⟨k,e⟩ | ⟨k,c,e,z⟩
      · refine .inl ⟨k,?_⟩
        have:y≠n:=fun e=>hj (nodup_ix hN e1 (e ▸ hi))
        simp [this,e]
      · exact .inr ⟨k,c,e,z.sameBut hs (cne y c e)⟩
  · obtain ⟨w',z⟩:=I1.cell y c e
    exact ⟨w',z.sameBut hs (cne y c e)⟩
  · obtain ⟨e,n,ne,nf,d⟩:=I1.pin p hp
    exact ⟨(hs.2 p.1 ne).trans e,n,ne,nf,d⟩
  · refine (I1.hok b ob e).stay (fun c w' hc q=>(hs.2 c ?_).trans q) (fun _ q=>q) fun _ _ q=>q
    intro z
    have fr:=I1.free
    rw [← z] at fr
    rcases hc with hc | hc
    · rw [hc,e] at fr; cases fr
    · rw [hc] at fr; cases fr
  · rw [List.length_set]; exact I.len
noncomputable abbrev Cx.more (X:Cx) (pins:List (Addr×Obj)):Cx:={ X with pn:=X.pn++pins }
noncomputable abbrev Cx.tr (X:Cx) (pins:List (Addr×Obj)) (W:XW):Cx:={ X with pn:=X.pn++pins,xe:=fun e s'=>FlyIn (X.more pins) [] W e s' }
noncomputable abbrev Cx.hdl (X:Cx) (x:Addr):Cx:={ X with A:=X.A.mark (some (.ref x)),calm:=false,xe:=fun _ _=>False }
theorem okMore (ok:X.Ok):(X.more pins).Ok:=⟨ok.mod,ok.kind,ok.glob,ok.blt,ok.above,ok.inj,ok.has,ok.cab,ok.hd,ok.frames,ok.stk,ok.exf,ok.bs,ok.bsz,ok.noex,ok.exfs,ok.funs,ok.frf⟩
theorem Inv.tr {W:XW} (I:Inv X pins σ H s):Inv (X.tr pins W) [] σ H s :=
  ⟨⟨I.ok.mod,I.ok.kind,I.ok.glob,I.ok.blt,I.ok.above,I.ok.inj,I.ok.has,I.ok.cab,I.ok.hd,I.ok.frames,I.ok.stk,I.ok.exf,I.ok.bs,I.ok.bsz,I.ok.noex,I.ok.exfs,I.ok.funs,I.ok.frf⟩,I.os,I.bare,I.base,I.loc,I.cell,I.free,I.freeC,fun p hp=>I.pin p (by simpa using hp),I.hok,I.len⟩
theorem Inv.untr {pins':List (Addr×Obj)} {Y:Cx} {W:XW} (hY:Y=X.tr pins W∨Y=X.more pins) (I:Inv Y pins' σ H s):Inv X pins σ H s:=by
  rcases hY with rfl | rfl
  · exact ⟨⟨I.ok.mod,I.ok.kind,I.ok.glob,I.ok.blt,I.ok.above,I.ok.inj,I.ok.has,I.ok.cab,I.ok.hd,I.ok.frames,I.ok.stk,I.ok.exf,I.ok.bs,I.ok.bsz,I.ok.noex,I.ok.exfs,I.ok.funs,I.ok.frf⟩,I.os,I.bare,I.base,I.loc,I.cell,I.free,I.freeC,fun p hp=>I.pin p (List.mem_append_left _ hp),I.hok,I.len⟩
  · exact ⟨⟨I.ok.mod,I.ok.kind,I.ok.glob,I.ok.blt,I.ok.above,I.ok.inj,I.ok.has,I.ok.cab,I.ok.hd,I.ok.frames,I.ok.stk,I.ok.exf,I.ok.bs,I.ok.bsz,I.ok.noex,I.ok.exfs,I.ok.funs,I.ok.frf⟩,I.os,I.bare,I.base,I.loc,I.cell,I.free,I.freeC,fun p hp=>I.pin p (List.mem_append_left _ hp),I.hok,I.len⟩
theorem Inv.hdl {x:Addr} (I:Inv X pins σ H s):Inv (X.hdl x) pins σ H s :=
  ⟨⟨I.ok.mod,I.ok.kind,I.ok.glob,I.ok.blt,I.ok.above,I.ok.inj,I.ok.has,I.ok.cab,(fun z=>by cases z),I.ok.frames,I.ok.stk,I.ok.exf,I.ok.bs,I.ok.bsz,I.ok.noex,I.ok.exfs,I.ok.funs,I.ok.frf⟩,I.os,I.bare,I.base,I.loc,I.cell,I.free,I.freeC,I.pin,I.hok,I.len⟩
theorem Inv.unhdl {x:Addr} (ok:X.Ok) (I:Inv (X.hdl x) pins σ H s):Inv X pins σ H s:=⟨ok,I.os,I.bare,I.base,I.loc,I.cell,I.free,I.freeC,I.pin,I.hok,I.len⟩
theorem flies_tr {W:XW}:Flies (X.tr pins W) W:=by
  intro pins' e s' h
  obtain ⟨x,C,od,T,σ,H',rfl,I,f,lx,lt,q⟩:=h
  have ls:∀ t,Loose (X.tr pins W) pins' H' t→Loose (X.more pins) [] H' t:=fun t l=>⟨l.free,l.ne,l.yng,l.cell,fun p hp=>l.pin p (List.mem_append_left _ (by simpa using hp))⟩
  have I0:Inv X pins σ H' s':=I.untr (W:=W) (.inl rfl)
  exact ⟨x,C,od,T,σ,H',rfl,⟨okMore I0.ok,I.os,I.bare,I.base,I.loc,I.cell,I.free,I.freeC,fun p hp=>I0.pin p (by simpa using hp),I.hok,I.len⟩,f,ls x lx,fun t e=>ls t (lt t e),q⟩
theorem SP.untr {W:XW} {D:Ends} {f:Flow} {s':Shared} (h:SP (X.tr pins W) [] D f s'):SP X pins D f s':=by
  cases f with
  | next=>obtain ⟨σ',H',I,q⟩:=h; exact ⟨σ',H',I.untr (W:=W) (.inl rfl),q⟩
  | brk=>obtain ⟨σ',H',I,q⟩:=h; exact ⟨σ',H',I.untr (W:=W) (.inl rfl),q⟩
  | cont=>obtain ⟨σ',H',I,q⟩:=h; exact ⟨σ',H',I.untr (W:=W) (.inl rfl),q⟩
  | ret u=>obtain ⟨v,σ',H',I,r,q⟩:=h; exact ⟨v,σ',H',I.untr (W:=W) (.inl rfl),r,q⟩
theorem SP.unhdl {x:Addr} {D:Ends} {f:Flow} {s':Shared} (ok:X.Ok) (h:SP (X.hdl x) pins D f s'):SP X pins D f s':=by
  cases f with
  | next=>obtain ⟨σ',H',I,q⟩:=h; exact ⟨σ',H',I.unhdl ok,q⟩
  | brk=>obtain ⟨σ',H',I,q⟩:=h; exact ⟨σ',H',I.unhdl ok,q⟩
  | cont=>obtain ⟨σ',H',I,q⟩:=h; exact ⟨σ',H',I.unhdl ok,q⟩
  | ret u=>obtain ⟨v,σ',H',I,r,q⟩:=h; exact ⟨v,σ',H',I.unhdl ok,r,q⟩
noncomputable abbrev XTS:=Addr→Option Addr→TS
noncomputable def PH (X:Cx) (hs:List ExceptHandler) (t:XTS):Prop:=∀ (pins:List (Addr×Obj)) (x C:Addr) (od T:Option Addr) (s:Shared) (σ:St) (H:Hp) (D:Ends),Inv X pins σ H s→Fly s.heap x C od T→Loose X pins H x→(∀ t,T=some t→Loose X pins H t)→t C od D σ H →
  wpAny (model X.prog X.w) X.A (handleBy (.ref x) X.env hs) (SP X pins D) X.xe s
theorem ph_nil:PH X [] fun _ _ _ _ _=>False:=fun _ _ _ _ _ _ _ _ _ _ _ _ _ h=>h.elim
structure XHd (K:PySem.W.Frag) (D:Addr):Prop where
  ty:PySem.W.typeIn K (.ref D)=some (.type "type")
  cl:(PySem.W.clsIn K D).isSome=true
  sub:PySem.W.mroIn K D (.type "BaseException")=some true
theorem matches_x {A:Around} {E:Value→Shared→Prop} {x C D:Addr} {od T:Option Addr} {b:Bool} {Q:Bool→Shared→Prop} (I:Inv X pins σ H s) (f:Fly s.heap x C od T) (d:XHd X.K D) (hb:PySem.W.mroIn X.K C (.ref D)=some b) (q:Q b s) :
    wpAny (model X.prog X.w) A (excMatches (.ref x) (.ref D)) Q E s:=by
  obtain ⟨o,vs,hx,hc,_⟩:=f
  have L1:=PySem.W.looks_typeIn (M:=model X.prog X.w) I.kIn d.ty
  have L2:=PySem.W.looks_mroIn (M:=model X.prog X.w) I.kIn d.sub
  have L3:=PySem.W.looks_mroIn (M:=model X.prog X.w) I.kIn hb
  have L0:PySem.W.Looks (model X.prog X.w) s.heap (typeOf (.ref x)) (.ref C):=hc ▸ (PySem.W.Looks.ld hx).andThen .now
  have L4:PySem.W.Looks (model X.prog X.w) s.heap (isType (.ref D)) true:=by
    have z:=d.cl
    unfold PySem.W.clsIn at z
    split at z
    · rename_i ho
      intro A' Q' E' s' k q
      unfold isType loadHead
      exact wpAny_bind (wpAny_loadPart (k _ _ (I.kIn _ _ ho)) (wpAny_pure q))
    · cases z
  have LT:PySem.W.Looks (model X.prog X.w) s.heap (isInstance (.ref D) (.type "tuple")) false:=L1.andThen (PySem.W.Looks.of_pure tc_notTuple)
  have LE:PySem.W.Looks (model X.prog X.w) s.heap (isExcClass (.ref D)) true:=L4.andThen L2
  unfold excMatches
  refine wpAny_bind (LT.here ?_)
  dsimp only
  rw [if_neg Bool.false_ne_true]
  refine wpAny_bind (wpAny_pure ?_)
  simp only [List.forIn_cons,List.forIn_nil]
  refine wpAny_bind (wpAny_bind (wpAny_bind (LE.here ?_)))
  rw [if_neg (by decide)]
  refine wpAny_pure (wpAny_pure (wpAny_bind (L0.here (wpAny_bind (wpAny_bind (wpAny_bind (L3.here ?_)))))))
  cases b with
  | true =>
    rw [if_pos rfl]
    exact wpAny_pure (wpAny_pure (wpAny_pure q))
  | false =>
    rw [if_neg Bool.false_ne_true]
    exact wpAny_pure (wpAny_pure (wpAny_pure q))
theorem ph_cons {D:Addr} {y:Str} {np pos:Pos} {b₀:Stmt} {suite:List Stmt} {rest:List ExceptHandler} {ts:TS} {tr:XTS} (tp:Top X) (d:XHd X.K D) (hg:Gl X y) (hm:X.mg y=some (.ref D)) (hs:∀ x,PSs (X.hdl x) (b₀ :: suite) ts) (hr:PH X rest tr)
    (hdb:(y == ("__debug__" : Str))=false:=by decide) :
    PH X (.ExceptHandler (some (.Name y np)) none (b₀ :: suite) pos :: rest) (fun C od E σ H=>∃ b,PySem.W.mroIn X.K C (.ref D)=some b∧if b=true then ts E σ H else tr C od E σ H):=by
  intro pins x C od T s σ H E I f lx lt ⟨b,hb,q⟩
  refine wpAny_handleBy_cons (codeAny_handlers_test (ld_glob (X:=X.hdl x) I.hdl hg hm ?_ hdb)) (by intro z; cases z)
  refine matches_x I f d hb ?_
  cases b with
  | true =>
    rw [if_pos rfl] at q
    refine codeAny_handlers_suite (flight_ok I tp f lt fun s1 I1 f1=>?_)
    exact wpAny_mono (hs x pins s1 σ H E I1.hdl q) (fun fl s2 z=>z.unhdl I.ok) fun _ _ z=>z.elim
  | false =>
    rw [if_neg Bool.false_ne_true] at q
    exact hr pins x C od T s σ H E I f lx lt q
theorem Inv.track {x C:Addr} {od T:Option Addr} (I:Inv X pins σ H s) (l:Loose X pins H x) (f:Fly s.heap x C od T):Inv X pins σ (upd H x (XO false x C od)) s:=by
  obtain ⟨o,vs,hx,h1,h2,h3,_⟩:=f
  have nx:∀ b u,H b=some u→b≠x:=fun b u q z=>by rw [z,l.free] at q; cases q
  refine ⟨I.ok,I.os,I.bare,⟨I.base.keep,I.base.slot,fun b ob q n hx=>?_,I.base.there,fun b xs q=>?_,fun b ob u q=>?_,fun b ps q=>?_⟩,I.loc,I.cell,?_,fun y c q=>?_,fun p hp=>?_,fun b u q=>?_,I.len⟩
  · rw [upd_ne (Nat.ne_of_lt (Nat.lt_of_lt_of_le (Heap.lt_size q) l.yng))]
    exact I.base.free b ob q n hx
  · have z:=I.base.tups b xs q
    rw [upd_ne (nx b _ z)]; exact z
  · have z:=I.base.frzs b ob u q
    rw [upd_ne (nx b _ z)]; exact z
  · obtain ⟨m,z⟩:=I.base.tbls b ps q
    exact ⟨m,by rw [upd_ne (nx b _ z)]; exact z⟩
  · rw [upd_ne l.ne.symm]; exact I.free
  · rw [upd_ne (l.cell y c q)]; exact I.freeC y c q
  · obtain ⟨a,b,c⟩:=I.pin p hp
    exact ⟨a,by rw [upd_ne (l.pin p hp)]; exact b,c⟩
  · by_cases z:b=x
    · subst z
      rw [upd_same] at q
      cases q
      exact XO.ok ⟨o,vs,hx,h1,h2,h3,fun z=>by cases z⟩
    · rw [upd_ne z] at q
      exact (I.hok b u q).stay (fun _ _ _ w=>w) (fun c w=>by rw [upd_ne (nx c _ w)]; exact w) fun c xs w=>by rw [upd_ne (nx c _ w)]; exact w
theorem ph_as {D:Addr} {y n:Str} {i:Nat} {np pos:Pos} {b₀:Stmt} {suite:List Stmt} {rest:List ExceptHandler} {ts:TS} {tr:XTS} (tp:Top X) (d:XHd X.K D) (hg:Gl X y) (hm:X.mg y=some (.ref D)) (hN:X.N.Nodup) (hi:X.N[i]?=some n) (hk:X.env.scope.names.lookup n=some .local)
    (hs:∀ x,PSs (X.hdl x) (b₀ :: suite) ts) (hr:PH X rest tr) (hdb:(y == ("__debug__" : Str))=false:=by decide) :
    PH X (.ExceptHandler (some (.Name y np)) (some n) (b₀ :: suite) pos :: rest) (fun C od E σ H=>∃ b,PySem.W.mroIn X.K C (.ref D)=some b∧if b=true then
      (∀ x,H x=none→ts { nx:=fun σ' H'=>E.nx (σ'.set i none) H',rt:=E.rt,bk:=fun σ' H'=>E.bk (σ'.set i none) H',ct:=fun σ' H'=>E.ct (σ'.set i none) H' } (σ.set i (some (.ref x))) (upd H x (XO false x C od))) else tr C od E σ H):=by
  intro pins x C od T s σ H E I f lx lt ⟨b,hb,q⟩
  refine wpAny_handleBy_cons (codeAny_handlers_test (ld_glob (X:=X.hdl x) I.hdl hg hm ?_ hdb)) (by intro z; cases z)
  refine matches_x I f d hb ?_
  cases b with
  | true =>
    rw [if_pos rfl] at q
    refine codeAny_handlers_suite_as (flight_ok I tp f lt fun s1 I1 f1=>?_)
    have I2:Inv X pins σ (upd H x (XO false x C od)) s1:=I1.track lx f1
    refine store_ok (v:=.ref x) I2 hN hi (.inl hk) rfl (fun s2 I3=>?_) (.inr hk)
    refine wpAny_mono (hs x pins s2 _ _ _ I3.hdl (q x lx.free)) (fun fl s3 z=>?_) fun _ _ z=>z.elim
    have z:=z.unhdl I.ok
    cases fl with
    | next=>obtain ⟨σ',H',I4,q4⟩:=z; exact gone_ok I4 hN hi hk fun s4 I5=>⟨_,H',I5,q4⟩
    | brk=>obtain ⟨σ',H',I4,q4⟩:=z; exact gone_ok I4 hN hi hk fun s4 I5=>⟨_,H',I5,q4⟩
    | cont=>obtain ⟨σ',H',I4,q4⟩:=z; exact gone_ok I4 hN hi hk fun s4 I5=>⟨_,H',I5,q4⟩
    | ret u=>obtain ⟨v,σ',H',I4,r4,q4⟩:=z; exact gone_ok I4 hN hi hk fun s4 I5=>⟨v,_,H',I5,r4,q4⟩
  | false =>
    rw [if_neg Bool.false_ne_true] at q
    exact hr pins x C od T s σ H E I f lx lt q
noncomputable def tTry (tb:XW→TS) (th:XTS):TS:=fun D σ H=>∃ W:XW,tb W D σ H∧∀ C od σ' H',W C od σ' H'→th C od D σ' H'
theorem ps_try {body:List Stmt} {h₀:ExceptHandler} {hs:List ExceptHandler} {pos:Pos} {tb:XW→TS} {th:XTS} (tp:Top X) (hb:∀ pins W,PSs (X.tr pins W) body (tb W)) (hh:PH X (h₀ :: hs) th):PS X (.Try body (h₀ :: hs) [] [] pos) (tTry tb th):=by
  intro pins s σ H D I ⟨W,q,hW⟩
  refine wpAny_Try_except (wpAny_mono (hb pins W [] s σ H D I.tr q) (fun f s1 z=>?_) fun e s1 z=>?_)
  · have z:=z.untr
    cases f with
    | next=>exact wpAny_execs_nil z
    | brk=>exact z
    | cont=>exact z
    | ret u=>exact z
  · obtain ⟨x,C,od,T,σ',H',rfl,I1,f,lx,lt,q1⟩:=z
    have I0:Inv X pins σ' H' s1:=I1.untr (W:=W) (.inr rfl)
    have ls:∀ t,Loose (X.more pins) [] H' t→Loose X pins H' t:=fun t l=>⟨l.free,l.ne,l.yng,l.cell,fun p hp=>l.pin p (List.mem_append_left _ hp)⟩
    refine note_ok I0 tp I0.ok.frames f (ls x lx) (fun t e=>ls t (lt t e)) fun s2 t I2 f2 l2=>?_
    refine flight_ok I2 tp f2 (fun t' e=>by cases e; exact l2) fun s3 I3 f3=>?_
    exact hh pins x C od (some t) s3 σ' H' D I3 f3 (ls x lx) (fun t' e=>by cases e; exact l2) (hW C od σ' H' q1)
end
end L2
set_option Elab.async false
set_option linter.all false
set_option maxRecDepth 100000
set_option maxHeartbeats 4000000
namespace L2
open PySem PySem.Spec PyProof.Rows
open PySem.W (XC)
structure DefAt (K:PySem.W.Frag) (mg:Str→Option Value) (x:Str) (st:Stmt) (ps:List Str) (f:Addr) (fd:FuncData):Prop where
  F:Fun K x x st f fd
  m:mg x=some (.ref f)
  b:Binds K fd ps []
structure FnAt (P:Program) (w:World) (K:PySem.W.Frag) (mg:Str→Option Value) (base:Heap) (CX:CXT) (x:Str) (k:Nat) (ps:List Str) (sp:Sp):Prop where
  ex:∃ f fd,FnOk P w K mg base CX k f fd ps sp∧mg x=some (.ref f)∧PySem.W.keepIn K (.ref f)=true∧Binds K fd ps []
theorem DefAt.at {P:Program} {w:World} {K:PySem.W.Frag} {mg:Str→Option Value} {base:Heap} {CX:CXT} {x:Str} {st:Stmt} {ps:List Str} {f:Addr} {fd:FuncData} {k:Nat} {sp:Sp} (D:DefAt K mg x st ps f fd) (F:FnOk P w K mg base CX k f fd ps sp):FnAt P w K mg base CX x k ps sp :=
  ⟨f,fd,F,D.m,D.F.kp,D.b⟩
section
variable {X:Cx} {x:Str} {p pos:Pos} {e:Expr} {es:List Expr} {t:TA} {k:Nat} {ps:List Str} {sp:Sp}
theorem pe_cX {W:XW} (G:FnAt X.prog X.w X.K X.mg X.base (CX1 X.prog X.w) x k ps sp) (hr:Room k X.A) (hf:Flies X W) (ha:PA X (e :: es) t) (hg:Gl X x:=by rfl) (hdb:(x == ("__debug__" : Str))=false:=by decide)
    (he:starEach (e :: es) X.env=(false,eval e X.env) :: starEach es X.env:=by rfl) (hpl:(backTo pos (starEach es X.env)).any (·.1)=false:=by rfl):PE X (.Call (.Name x p) (e :: es) [] pos) (tCallX sp W t):=by
  obtain ⟨f,fd,F,m,kp,b⟩:=G.ex
  exact pe_callX F hr hg m kp b hf ha hdb he hpl
theorem pty (n:String) {y:Str} (hm:X.mg y=none) (hv:bootBuiltins y=some (.type n)) (hg:Gl X y:=by rfl) (hn:y ≠ "__name__" := by decide) (hd:(y == ("__debug__" : Str))=false:=by decide):PE X (.Name y pos) (tC (.ty n)):=pe_bltn hg hm hv rfl hn hd
end
theorem bt_len:bootBuiltins "len" = some (.builtin "len"):=by kernel_rfl
theorem bt_abs:bootBuiltins "abs" = some (.builtin "abs"):=by kernel_rfl
theorem bt_all:bootBuiltins "all" = some (.builtin "all"):=by kernel_rfl
theorem bt_max:bootBuiltins "max" = some (.builtin "max"):=by kernel_rfl
theorem bt_isinstance:bootBuiltins "isinstance" = some (.builtin "isinstance"):=by kernel_rfl
theorem bt_int:bootBuiltins "int" = some (.type "int"):=by kernel_rfl
theorem bt_bool:bootBuiltins "bool" = some (.type "bool"):=by kernel_rfl
theorem bt_list:bootBuiltins "list" = some (.type "list"):=by kernel_rfl
theorem bt_tuple:bootBuiltins "tuple" = some (.type "tuple"):=by kernel_rfl
structure Deck (H:Hp) (D S:Addr) (n:Nat):Prop where
  ex:∃ c k:Int,H D=some (.lst [.ref S,.int c,.int k])∧0≤c∧0≤k∧k≤n
end L2
namespace L2
open PySem PySem.Spec PyProof.Rows
end L2
namespace L2
theorem atI_mod {α:Type} {xs:List α} {k:Int} (h:0 < xs.length):∃ v,atI xs (k % (xs.length:Nat))=some v∧v∈xs:=by
  have h1:=Int.emod_nonneg k (b:=(xs.length:Int)) (by omega)
  have h2:=Int.emod_lt_of_pos k (b:=(xs.length:Int)) (by omega)
  have hj:(k % (xs.length:Nat)).toNat < xs.length:=by omega
  refine ⟨xs[(k % (xs.length:Nat)).toNat],?_,List.getElem_mem hj⟩
  have e:k % (xs.length:Nat)=(((k % (xs.length:Nat)).toNat:Nat):Int):=by omega
  have q:∀ z:Int,z=k % (xs.length:Nat)→z=((z.toNat:Nat):Int)→∀ hz:z.toNat < xs.length,atI xs z=some xs[z.toNat]:=by
    intro z _ hz2 hz3
    generalize z.toNat=j at hz2 hz3
    subst hz2
    exact atI_nat (List.getElem?_eq_getElem hz3)
  exact q _ rfl e hj
end L2
set_option Elab.async false
set_option linter.all false
set_option maxRecDepth 100000
set_option maxHeartbeats 8000000
namespace L2
open PySem PySem.Spec PyProof.Rows
noncomputable def BT:List String:=["NoneType","bool","int","str","list","tuple","dict"]
theorem kt_all (K:PySem.W.Frag) {n:String} (h:n∈BT):PySem.W.kitOne K (.type n) (.type "bool")=some (n == "bool")∧PySem.W.kitOne K (.type n) (.type "int")=some (n == "int" || n == "bool") ∧
    PySem.W.kitOne K (.type n) (.type "list")=some (n == "list")∧PySem.W.kitOne K (.type n) (.type "tuple")=some (n == "tuple")∧PySem.W.kitAny K (.type n) [.type "list",.type "tuple"]=some (n == "list" || n == "tuple"):=by
  simp only [BT,List.mem_cons,List.not_mem_nil,or_false] at h
  rcases h with rfl | rfl | rfl | rfl | rfl | rfl | rfl
  · exact ⟨by kernel_rfl,by kernel_rfl,by kernel_rfl,by kernel_rfl,by kernel_rfl⟩
  · exact ⟨by kernel_rfl,by kernel_rfl,by kernel_rfl,by kernel_rfl,by kernel_rfl⟩
  · exact ⟨by kernel_rfl,by kernel_rfl,by kernel_rfl,by kernel_rfl,by kernel_rfl⟩
  · exact ⟨by kernel_rfl,by kernel_rfl,by kernel_rfl,by kernel_rfl,by kernel_rfl⟩
  · exact ⟨by kernel_rfl,by kernel_rfl,by kernel_rfl,by kernel_rfl,by kernel_rfl⟩
  · exact ⟨by kernel_rfl,by kernel_rfl,by kernel_rfl,by kernel_rfl,by kernel_rfl⟩
  · exact ⟨by kernel_rfl,by kernel_rfl,by kernel_rfl,by kernel_rfl,by kernel_rfl⟩
structure Thing (K:PySem.W.Frag) (H:Hp) (x:V) (n:String):Prop where
  ty:TyOf K H x (.type n)
  mem:n∈BT
end L2
set_option Elab.async false
set_option linter.all false
set_option maxRecDepth 100000
set_option maxHeartbeats 8000000
namespace L2
open PySem PySem.Spec PyProof.Rows
open PySem.W (XC veMro)
structure ErrC (K:PySem.W.Frag) (W C:Addr):Prop where
  mro:(PySem.W.clsIn K C).map (·.mro)=some (.ref C :: .ref W :: veMro)
  ty:PySem.W.typeIn K (.ref C)=some (.type "type")
  xc:XC K C
theorem ErrC.mroIn {K:PySem.W.Frag} {W C:Addr} (c:ErrC K W C) (b:Value):PySem.W.mroIn K C b=some ((Value.ref C :: .ref W :: veMro).contains b):=by
  obtain ⟨cd,h1,h2⟩:=Option.map_eq_some_iff.mp c.mro
  unfold PySem.W.mroIn
  rw [h1,Option.bind_some,h2]
  rfl
theorem Same.new {H:Hp} {p:Addr} {o:HO} (h:H p=none):Same H (upd H p o):=fun b u e=>by rw [upd_ne (ne_of_none e h)]; exact e
noncomputable def spXI (C:Addr) (a:Str):Sp:=fun vs H Q _=>∃ (x:Addr) (v:V),vs=[.ref x,v]∧H x=some (XO true x C none)∧∀ d,H d=none→d≠x→Q .non (upd (upd H d (XD d [(a,v)])) x (XO true x C (some d)))
end L2
namespace L2
open PySem PySem.Spec PyProof.Rows
open PySem.W (XC veMro)
structure MkE (P:Program) (w:World) (K:PySem.W.Frag) (mg:Str→Option Value) (base:Heap) (x:Str) (C:Addr) (k:Nat) (ps:List Str) (sp:Sp):Prop where
  ex:∃ f fd,XMk K C f∧FnOk P w K mg base CX0 k f fd ps sp∧Binds K fd ps []
  m:mg x=some (.ref C)
theorem ps_raiseE {X:Cx} {W:XW} {x:Str} {C:Addr} {k:Nat} {ps:List Str} {sp:Sp} {p cpos pos:Pos} {e:Expr} {es:List Expr} {t:TA} (hc:X.calm=true) (hf:Flies X W) (M:MkE X.prog X.w X.K X.mg X.base x C k ps sp) (hr:Room (k + 1) X.A) (ha:PA X (e :: es) t) (hg:Gl X x:=by rfl)
    (hdb:(x == ("__debug__" : Str))=false:=by decide) (he:starEach (e :: es) X.env=(false,eval e X.env) :: starEach es X.env:=by rfl) (hpl:(backTo cpos (starEach es X.env)).any (·.1)=false:=by rfl) :
    PS X (.Raise (some (.Call (.Name x p) (e :: es) [] cpos)) none pos) (tRaiseX C sp W t):=by
  obtain ⟨f,fd,h1,h2,h3⟩:=M.ex
  exact ps_raiseX hc hf h1 h2 hr hg M.m h3 ha hdb he hpl
theorem sz1 {a:V}:[a].length≤PySem.sizeLine:=by show 1≤PySem.sizeLine; decide
end L2
set_option Elab.async false
set_option linter.all false
set_option maxRecDepth 100000
set_option maxHeartbeats 4000000
namespace DL
open PySem PySem.Spec L2
open PySem.W (XC)
inductive D where
  | non | bl (b:Bool) | int (i:Int) | str (x:Str)
  | lst (xs:List D) | tup (xs:List D) | scr (xs:List D) | dic (kvs:List (Key×D)) | dwk (kvs:List (Key×D))
  | ins (C:Addr) (fs:List (Str×D)) | exc (C:Addr) (fs:List (Str×D))
  | ref (a:Addr) | ty (n:String)
noncomputable abbrev Frag:=PySem.W.Frag
mutual
noncomputable def Rep (K:Frag) (F:Hp):D→V→Prop
  | .non,v=>v=.non
  | .bl b,v=>v=.bl b
  | .int i,v=>v=.int i
  | .str x,v=>v=.str x
  | .lst ds,v=>∃ a vs,v=.ref a∧F a=some (.lst vs)∧Reps K F ds vs
  | .tup ds,v=>∃ a vs,v=.ref a∧F a=some (.tup vs)∧Reps K F ds vs
  | .scr ds,v=>∃ a vs,v=.ref a∧SqL K F a vs∧Reps K F ds vs
  | .dic kvs,v=>∃ a us,v=.ref a∧F a=some (.dK us)∧RepK K F kvs us
  | .dwk kvs,v=>∃ a o us,v=.ref a∧F a=some (.frz o (.dK us))∧RepK K F kvs us
  | .ins C fs,v=>∃ a dx us,v=.ref a∧F a=some (.ins C dx us)∧F dx=some (.own a)∧RepF K F fs us
  | .exc C fs,v=>∃ a fr,v=.ref a∧((fs=[]∧F a=some (XO fr a C none))∨∃ d us,F a=some (XO fr a C (some d))∧F d=some (XD d us)∧RepF K F fs us)
  | .ref a,v=>v=.ref a
  | .ty n,v=>v=.ty n
noncomputable def Reps (K:Frag) (F:Hp):List D→List V→Prop
  | [],vs=>vs=[]
  | d :: ds,vs=>∃ v r,vs=v :: r∧Rep K F d v∧Reps K F ds r
noncomputable def RepF (K:Frag) (F:Hp):List (Str×D)→List (Str×V)→Prop
  | [],vs=>vs=[]
  | (x,d) :: ds,vs=>∃ v r,vs=(x,v) :: r∧Rep K F d v∧RepF K F ds r
noncomputable def RepK (K:Frag) (F:Hp):List (Key×D)→List (Key×V)→Prop
  | [],vs=>vs=[]
  | (x,d) :: ds,vs=>∃ v r,vs=(x,v) :: r∧Rep K F d v∧RepK K F ds r
end
theorem _root_.L2.Same.rd {F F':Hp} {a:Addr} {u:HO} (s:Same F F') (h:Rd F a u):Rd F' a u:=by
  rcases h with h | ⟨o,h⟩
  · exact .inl (s _ _ h)
  · exact .inr ⟨o,s _ _ h⟩
theorem _root_.L2.Same.sqL {K:Frag} {F F':Hp} {a:Addr} {xs:List V} (s:Same F F') (h:SqL K F a xs):SqL K F' a xs:=h.imp s.rd id
theorem _root_.L2.Same.sqT {K:Frag} {F F':Hp} {a:Addr} {xs:List V} (s:Same F F') (h:SqT K F a xs):SqT K F' a xs:=h.imp s.rd id
mutual
theorem Rep.mono {K:Frag} {F F':Hp} (s:Same F F'):∀ {d:D} {v:V},Rep K F d v→Rep K F' d v
  | .non,v,h=>by unfold Rep at h ⊢; exact h
  | .bl b,v,h=>by unfold Rep at h ⊢; exact h
  | .int i,v,h=>by unfold Rep at h ⊢; exact h
  | .str x,v,h=>by unfold Rep at h ⊢; exact h
  | .lst ds,v,h=>by unfold Rep at h ⊢; obtain ⟨a,vs,e,q,r⟩:=h; exact ⟨a,vs,e,s _ _ q,Reps.mono s r⟩
  | .tup ds,v,h=>by unfold Rep at h ⊢; obtain ⟨a,vs,e,q,r⟩:=h; exact ⟨a,vs,e,s _ _ q,Reps.mono s r⟩
  | .scr ds,v,h=>by unfold Rep at h ⊢; obtain ⟨a,vs,e,q,r⟩:=h; exact ⟨a,vs,e,s.sqL q,Reps.mono s r⟩
  | .dic ds,v,h=>by unfold Rep at h ⊢; obtain ⟨a,vs,e,q,r⟩:=h; exact ⟨a,vs,e,s _ _ q,RepK.mono s r⟩
  | .dwk ds,v,h=>by unfold Rep at h ⊢; obtain ⟨a,o,vs,e,q,r⟩:=h; exact ⟨a,o,vs,e,s _ _ q,RepK.mono s r⟩
  | .ins C fs,v,h=>by unfold Rep at h ⊢; obtain ⟨a,dx,vs,e,q,q2,r⟩:=h; exact ⟨a,dx,vs,e,s _ _ q,s _ _ q2,RepF.mono s r⟩
  | .exc C fs,v,h=>by
    unfold Rep at h ⊢
    obtain ⟨a,fr,e,h⟩:=h
    refine ⟨a,fr,e,?_⟩
    rcases h with ⟨e1,q⟩ | ⟨d,us,q,q2,r⟩
    · exact .inl ⟨e1,s _ _ q⟩
    · exact .inr ⟨d,us,s _ _ q,s _ _ q2,RepF.mono s r⟩
  | .ref a,v,h=>by unfold Rep at h ⊢; exact h
  | .ty n,v,h=>by unfold Rep at h ⊢; exact h
theorem Reps.mono {K:Frag} {F F':Hp} (s:Same F F'):∀ {ds:List D} {vs:List V},Reps K F ds vs→Reps K F' ds vs
  | [],vs,h=>by unfold Reps at h ⊢; exact h
  | d :: ds,vs,h=>by unfold Reps at h ⊢; obtain ⟨v,r,e,q,z⟩:=h; exact ⟨v,r,e,Rep.mono s q,Reps.mono s z⟩
theorem RepF.mono {K:Frag} {F F':Hp} (s:Same F F'):∀ {ds:List (Str×D)} {vs:List (Str×V)},RepF K F ds vs→RepF K F' ds vs
  | [],vs,h=>by unfold RepF at h ⊢; exact h
  | (x,d) :: ds,vs,h=>by unfold RepF at h ⊢; obtain ⟨v,r,e,q,z⟩:=h; exact ⟨v,r,e,Rep.mono s q,RepF.mono s z⟩
theorem RepK.mono {K:Frag} {F F':Hp} (s:Same F F'):∀ {ds:List (Key×D)} {vs:List (Key×V)},RepK K F ds vs→RepK K F' ds vs
  | [],vs,h=>by unfold RepK at h ⊢; exact h
  | (x,d) :: ds,vs,h=>by unfold RepK at h ⊢; obtain ⟨v,r,e,q,z⟩:=h; exact ⟨v,r,e,Rep.mono s q,RepK.mono s z⟩
end
section
variable {K:Frag} {F H:Hp}
theorem rep_non {v:V}:Rep K F .non v ↔ v=.non:=by unfold Rep; exact Iff.rfl
theorem rep_bl {b:Bool} {v:V}:Rep K F (.bl b) v ↔ v=.bl b:=by unfold Rep; exact Iff.rfl
theorem rep_int {i:Int} {v:V}:Rep K F (.int i) v ↔ v=.int i:=by unfold Rep; exact Iff.rfl
theorem rep_str {x:Str} {v:V}:Rep K F (.str x) v ↔ v=.str x:=by unfold Rep; exact Iff.rfl
theorem rep_ref {a:Addr} {v:V}:Rep K F (.ref a) v ↔ v=.ref a:=by unfold Rep; exact Iff.rfl
theorem rep_ty {n:String} {v:V}:Rep K F (.ty n) v ↔ v=.ty n:=by unfold Rep; exact Iff.rfl
theorem rep_lst {ds:List D} {v:V}:Rep K F (.lst ds) v ↔ ∃ a vs,v=.ref a∧F a=some (.lst vs)∧Reps K F ds vs:=by rw [Rep]
theorem rep_tup {ds:List D} {v:V}:Rep K F (.tup ds) v ↔ ∃ a vs,v=.ref a∧F a=some (.tup vs)∧Reps K F ds vs:=by rw [Rep]
theorem rep_scr {ds:List D} {v:V}:Rep K F (.scr ds) v ↔ ∃ a vs,v=.ref a∧SqL K F a vs∧Reps K F ds vs:=by rw [Rep]
theorem rep_dwk {ds:List (Key×D)} {v:V}:Rep K F (.dwk ds) v ↔ ∃ a o us,v=.ref a∧F a=some (.frz o (.dK us))∧RepK K F ds us:=by rw [Rep]
theorem rep_dic {ds:List (Key×D)} {v:V}:Rep K F (.dic ds) v ↔ ∃ a us,v=.ref a∧F a=some (.dK us)∧RepK K F ds us:=by rw [Rep]
theorem rep_ins {C:Addr} {fs:List (Str×D)} {v:V}:Rep K F (.ins C fs) v ↔ ∃ a dx us,v=.ref a∧F a=some (.ins C dx us)∧F dx=some (.own a)∧RepF K F fs us:=by rw [Rep]
theorem rep_exc {C:Addr} {fs:List (Str×D)} {v:V}:Rep K F (.exc C fs) v ↔ ∃ a fr,v=.ref a∧((fs=[]∧F a=some (XO fr a C none))∨∃ d us,F a=some (XO fr a C (some d))∧F d=some (XD d us)∧RepF K F fs us):=by rw [Rep]
theorem reps_nil {vs:List V}:Reps K F [] vs ↔ vs=[]:=by rw [Reps]
theorem reps_cons {d:D} {ds:List D} {vs:List V}:Reps K F (d :: ds) vs ↔ ∃ v r,vs=v :: r∧Rep K F d v∧Reps K F ds r:=by rw [Reps]
theorem Reps.cons {d:D} {ds:List D} {v:V} {vs:List V} (h:Rep K F d v) (t:Reps K F ds vs):Reps K F (d :: ds) (v :: vs):=reps_cons.mpr ⟨v,vs,rfl,h,t⟩
theorem Reps.nil:Reps K F [] []:=reps_nil.mpr rfl
theorem Reps.length:∀ {ds:List D} {vs:List V},Reps K F ds vs→vs.length=ds.length
  | [],vs,h=>by rw [reps_nil.mp h]; rfl
  | d :: ds,vs,h=>by obtain ⟨v,r,rfl,_,z⟩:=reps_cons.mp h; rw [List.length_cons,List.length_cons,Reps.length z]
theorem Reps.append:∀ {ds es:List D} {vs us:List V},Reps K F ds vs→Reps K F es us→Reps K F (ds++es) (vs++us)
  | [],es,vs,us,h,h'=>by rw [reps_nil.mp h]; exact h'
  | d :: ds,es,vs,us,h,h'=>by obtain ⟨v,r,rfl,q,z⟩:=reps_cons.mp h; exact Reps.cons q (Reps.append z h')
theorem Reps.get:∀ {ds:List D} {vs:List V} {i:Nat} {d:D},Reps K F ds vs→ds[i]?=some d→∃ v,vs[i]?=some v∧Rep K F d v
  | [],vs,i,d,h,e=>by simp at e
  | d :: ds,vs,0,d',h,e=>by obtain ⟨v,r,rfl,q,z⟩:=reps_cons.mp h; simp at e; subst e; exact ⟨v,rfl,q⟩
  | d :: ds,vs,i + 1,d',h,e=>by obtain ⟨v,r,rfl,q,z⟩:=reps_cons.mp h; simp at e; obtain ⟨u,a,b⟩:=Reps.get z e; exact ⟨u,by simpa using a,b⟩
theorem Reps.set {d:D} {v:V} (q:Rep K F d v):∀ {ds:List D} {vs:List V} (i:Nat),Reps K F ds vs→Reps K F (ds.set i d) (vs.set i v)
  | [],vs,i,h=>by rw [reps_nil.mp h]; exact Reps.nil
  | e :: ds,vs,0,h=>by obtain ⟨u,r,rfl,_,z⟩:=reps_cons.mp h; exact Reps.cons q z
  | e :: ds,vs,i + 1,h=>by obtain ⟨u,r,rfl,p,z⟩:=reps_cons.mp h; exact Reps.cons p (Reps.set q i z)
theorem Reps.atI {ds:List D} {vs:List V} {i:Int} {d:D} (h:Reps K F ds vs) (e:L2.atI ds i=some d):∃ v,L2.atI vs i=some v∧Rep K F d v:=by
  unfold L2.atI at e ⊢
  rw [h.length]
  cases hj:ixN ds.length i with
  | none=>rw [hj] at e; cases e
  | some j =>
    rw [hj] at e
    obtain ⟨v,a,b⟩:=h.get e
    exact ⟨v,a,b⟩
end
end DL
set_option Elab.async false
set_option linter.all false
set_option maxRecDepth 100000
set_option maxHeartbeats 4000000
namespace DL
open PySem PySem.Spec L2
open PySem.W (XC)
noncomputable abbrev Dk:=Option (Addr×List D)
inductive Cell where
  | no | val (d:D) | own (ds:List D) | obj (C:Addr) (fs:List (Str×D)) | ownD (kvs:List (Key×D))
noncomputable abbrev En:=List Cell
noncomputable def CellOk (K:Frag) (F H H₀:Hp) (sf:Option Addr):Cell→Option V→Prop
  | .no,_=>True
  | .val d,v=>∃ u,v=some u∧Rep K F d u
  | .own ds,v=>∃ a vs,v=some (.ref a)∧H a=some (.lst vs)∧F a=none∧H₀ a=none∧Reps K F ds vs
  | .obj C fs,v=>∃ a dx us,v=some (.ref a)∧sf=some a∧H a=some (.ins C dx us)∧H dx=some (.own a)∧F a=none∧F dx=none∧H₀ a=none∧H₀ dx=none∧RepF K F fs us
  | .ownD kvs,v=>∃ a us,v=some (.ref a)∧H a=some (.dK us)∧F a=none∧H₀ a=none∧RepK K F kvs us
noncomputable def Off (δ:Dk) (b:Addr):Prop:=∀ a ds,δ=some (a,ds)→b≠a
noncomputable def DkOk (K:Frag) (F H:Hp) (δ:Dk):Prop:=∀ a ds,δ=some (a,ds)→F a=none∧∃ vs,H a=some (.lst vs)∧Reps K F ds vs
noncomputable def DkTo (H₀:Hp) (δ₀ δ:Dk):Prop:=(∀ a ds,δ₀=some (a,ds)→∃ es,δ=some (a,es))∧∀ a ds,δ=some (a,ds)→δ₀=none→H₀ a=none
structure Ran (K:Frag) (F₀ H₀:Hp) (δ₀:Dk) (F H:Hp) (δ:Dk):Prop where
  sub:Same F H
  dk:DkOk K F H δ
  keep:∀ b o,H₀ b=some o→Off δ₀ b→H b=some o
  f0:Same F₀ F
  fnew:∀ b o,F b=some o→F₀ b=some o∨H₀ b=none
  dto:DkTo H₀ δ₀ δ
structure Y2 where
  F₀:Hp
  H₀:Hp
  δ₀:Dk
  sf:Option Addr:=none
noncomputable def ownAt (ρ:En) (σ:St) (i:Nat) (a:Addr):Prop:=((∃ ds,ρ[i]?=some (.own ds))∨(∃ C fs,ρ[i]?=some (.obj C fs))∨∃ kvs,ρ[i]?=some (.ownD kvs))∧σ[i]?=some (some (.ref a))
structure I2 (K:Frag) (Y:Y2) (F H:Hp) (σ:St) (ρ:En) (δ:Dk):Prop where
  ran:Ran K Y.F₀ Y.H₀ Y.δ₀ F H δ
  env:∀ (i:Nat) (c:Cell),ρ[i]?=some c→CellOk K F H Y.H₀ Y.sf c (σ[i]?).join
  len:ρ.length=σ.length
  apart:∀ (i j:Nat) (a:Addr),i≠j→ownAt ρ σ i a→ownAt ρ σ j a→False
  off:∀ (i:Nat) (a:Addr),ownAt ρ σ i a→Off δ a
section
variable {K:Frag} {Y:Y2} {F H F' H':Hp} {σ:St} {ρ:En} {δ:Dk}
theorem I2.sub (I:I2 K Y F H σ ρ δ):Same F H:=I.ran.sub
theorem join_some {σ:St} {i:Nat} {v:V} (h:(σ[i]?).join=some v):σ[i]?=some (some v):=by
  cases e:σ[i]? with
  | none=>rw [e] at h; cases h
  | some o=>rw [e] at h; exact congrArg some h
theorem Ran.fresh (R:Ran K Y.F₀ Y.H₀ Y.δ₀ F H δ) {p:Addr} (h:H p=none):Y.H₀ p=none:=by
  cases q:Y.H₀ p with
  | none=>rfl
  | some o =>
    by_cases z:∃ ds,Y.δ₀=some (p,ds)
    · obtain ⟨ds,z⟩:=z
      obtain ⟨es,z2⟩:=R.dto.1 p ds z
      obtain ⟨_,vs,z3,_⟩:=R.dk p es z2
      rw [h] at z3; cases z3
    · have:=R.keep p o q (fun a ds e w=>z ⟨ds,by rw [e,w]⟩)
      rw [h] at this; cases this
theorem Ran.alloc {o:HO} {p:Addr} (R:Ran K Y.F₀ Y.H₀ Y.δ₀ F H δ) (h:H p=none):Ran K Y.F₀ Y.H₀ Y.δ₀ (upd F p o) (upd H p o) δ:=by
  have hF:F p=none:=R.sub.free h
  have h0:=R.fresh h
  refine ⟨fun b u e=>?_,fun a ds e=>?_,fun b u e f=>?_,fun b u e=>?_,fun b u e=>?_,R.dto⟩
  · by_cases z:b=p
    · subst z; rw [upd_same] at e ⊢; exact e
    · rw [upd_ne z] at e ⊢; exact R.sub _ _ e
  · obtain ⟨q,vs,q2,r⟩:=R.dk a ds e
    have z:a≠p:=ne_of_none q2 h
    exact ⟨by rw [upd_ne z]; exact q,vs,by rw [upd_ne z]; exact q2,r.mono (Same.new hF)⟩
  · rw [upd_ne (ne_of_none (R.keep b u e f) h)]; exact R.keep b u e f
  · rw [upd_ne (ne_of_none (R.f0 b u e) hF)]; exact R.f0 b u e
  · by_cases z:b=p
    · subst z; exact .inr h0
    · rw [upd_ne z] at e; exact R.fnew b u e
theorem CellOk.alloc {o:HO} {p:Addr} {c:Cell} {v:Option V} {H₀:Hp} {sf:Option Addr} (s:Same F H) (h:H p=none) (x:CellOk K F H H₀ sf c v):CellOk K (upd F p o) (upd H p o) H₀ sf c v:=by
  have hF:F p=none:=s.free h
  cases c with
  | no=>trivial
  | val d=>obtain ⟨u,e,r⟩:=x; exact ⟨u,e,r.mono (Same.new hF)⟩
  | own ds =>
    obtain ⟨a,vs,e,q,f,g,r⟩:=x
    have z:=ne_of_none q h
    exact ⟨a,vs,e,by rw [upd_ne z]; exact q,by rw [upd_ne z]; exact f,g,r.mono (Same.new hF)⟩
  | obj C fs =>
    obtain ⟨a,dx,us,e,es,q,q2,f,f2,g,g2,r⟩:=x
    have z:=ne_of_none q h
    have z2:=ne_of_none q2 h
    exact ⟨a,dx,us,e,es,by rw [upd_ne z]; exact q,by rw [upd_ne z2]; exact q2,by rw [upd_ne z]; exact f,by rw [upd_ne z2]; exact f2,g,g2,r.mono (Same.new hF)⟩
  | ownD kvs =>
    obtain ⟨a,us,e,q,f,g,r⟩:=x
    have z:=ne_of_none q h
    exact ⟨a,us,e,by rw [upd_ne z]; exact q,by rw [upd_ne z]; exact f,g,r.mono (Same.new hF)⟩
theorem I2.alloc {o:HO} {p:Addr} (I:I2 K Y F H σ ρ δ) (h:H p=none):I2 K Y (upd F p o) (upd H p o) σ ρ δ :=
  ⟨I.ran.alloc h,fun i c e=>(I.env i c e).alloc I.sub h,I.len,I.apart,I.off⟩
theorem I2.lst {ds:List D} {vs:List V} {p:Addr} (I:I2 K Y F H σ ρ δ) (h:H p=none) (r:Reps K F ds vs):Rep K (upd F p (.lst vs)) (.lst ds) (.ref p) :=
  rep_lst.mpr ⟨p,vs,rfl,upd_same,r.mono (Same.new (I.sub.free h))⟩
theorem I2.tup {ds:List D} {vs:List V} {p:Addr} (I:I2 K Y F H σ ρ δ) (h:H p=none) (r:Reps K F ds vs):Rep K (upd F p (.tup vs)) (.tup ds) (.ref p) :=
  rep_tup.mpr ⟨p,vs,rfl,upd_same,r.mono (Same.new (I.sub.free h))⟩
theorem I2.grow {o:HO} {p:Addr} (I:I2 K Y F H σ ρ δ) (h:H p=none):Same F (upd F p o):=Same.new (I.sub.free h)
theorem I2.put {i:Nat} {v:V} {d:D} (I:I2 K Y F H σ ρ δ) (r:Rep K F d v):I2 K Y F H (σ.set i (some v)) (ρ.set i (.val d)) δ:=by
  have key:∀ j a,ownAt (ρ.set i (.val d)) (σ.set i (some v)) j a→j≠i∧ownAt ρ σ j a:=fun j a o=>by
    by_cases z:j=i
    · subst z
      rcases o.1 with ⟨ds,q⟩ | ⟨C,fs,q⟩ | ⟨kvs,q⟩ <;>
      · rw [List.getElem?_set] at q
        simp at q
    · refine ⟨z,?_⟩
      obtain ⟨o1,o2⟩:=o
      simp only [List.getElem?_set_ne (Ne.symm z)] at o1 o2
      exact ⟨o1,o2⟩
  refine ⟨I.ran,fun j c e=>?_,by simp [I.len],fun a b c n o1 o2=>I.apart a b c n (key a c o1).2 (key b c o2).2,fun j a o=>I.off j a (key j a o).2⟩
  by_cases z:j=i
  · subst z
    rw [List.getElem?_set] at e
    by_cases hl:j < ρ.length
    · simp [hl] at e
      subst e
      refine ⟨v,?_,r⟩
      rw [List.getElem?_set]
      simp [I.len ▸ hl]
    · simp [hl] at e
  · rw [List.getElem?_set_ne (Ne.symm z)] at e ⊢
    exact I.env j c e
theorem I2.gone {i:Nat} (I:I2 K Y F H σ ρ δ):I2 K Y F H (σ.set i none) (ρ.set i .no) δ:=by
  have key:∀ j a,ownAt (ρ.set i .no) (σ.set i none) j a→j≠i∧ownAt ρ σ j a:=fun j a o=>by
    by_cases z:j=i
    · subst z
      rcases o.1 with ⟨ds,q⟩ | ⟨C,fs,q⟩ | ⟨kvs,q⟩ <;>
      · rw [List.getElem?_set] at q
        simp at q
    · refine ⟨z,?_⟩
      obtain ⟨o1,o2⟩:=o
      simp only [List.getElem?_set_ne (Ne.symm z)] at o1 o2
      exact ⟨o1,o2⟩
  refine ⟨I.ran,fun j c e=>?_,by simp [I.len],fun a b c n o1 o2=>I.apart a b c n (key a c o1).2 (key b c o2).2,fun j a o=>I.off j a (key j a o).2⟩
  by_cases z:j=i
  · subst z
    rw [List.getElem?_set] at e
    by_cases hl:j < ρ.length
    · simp [hl] at e
      subst e
      trivial
    · simp [hl] at e
  · rw [List.getElem?_set_ne (Ne.symm z)] at e ⊢
    exact I.env j c e
theorem I2.freeze {i:Nat} {ds:List D} (I:I2 K Y F H σ ρ δ) (e:ρ[i]?=some (.own ds)) :
    ∃ a vs,σ[i]?=some (some (.ref a))∧F a=none∧I2 K Y (upd F a (.lst vs)) H σ (ρ.set i (.val (.lst ds))) δ∧Rep K (upd F a (.lst vs)) (.lst ds) (.ref a):=by
  obtain ⟨a,vs,q,h,f,g,r⟩:=I.env i _ e
  have hs:=join_some q
  have ho:ownAt ρ σ i a:=⟨.inl ⟨ds,e⟩,hs⟩
  have rr:Rep K (upd F a (.lst vs)) (.lst ds) (.ref a):=rep_lst.mpr ⟨a,vs,rfl,upd_same,r.mono (Same.new f)⟩
  refine ⟨a,vs,hs,f,?_,rr⟩
  have key:∀ j b,ownAt (ρ.set i (.val (.lst ds))) σ j b→j≠i∧ownAt ρ σ j b:=fun j b o=>by
    by_cases z:j=i
    · subst z
      rcases o.1 with ⟨ds,q⟩ | ⟨C,fs,q⟩ | ⟨kvs,q⟩ <;>
      · rw [List.getElem?_set] at q
        simp at q
    · refine ⟨z,?_⟩
      obtain ⟨o1,o2⟩:=o
      simp only [List.getElem?_set_ne (Ne.symm z)] at o1
      exact ⟨o1,o2⟩
  refine ⟨⟨fun b u e=>?_,fun b es e=>?_,I.ran.keep,fun b u e=>?_,fun b u e=>?_,I.ran.dto⟩,fun j c e'=>?_,by simp [I.len],fun x y b n o1 o2=>I.apart x y b n (key x b o1).2 (key y b o2).2,fun j b o=>I.off j b (key j b o).2⟩
  · by_cases z:b=a
    · subst z; rw [upd_same] at e; cases e; exact h
    · rw [upd_ne z] at e; exact I.sub _ _ e
  · obtain ⟨q1,us,q2,q3⟩:=I.ran.dk b es e
    exact ⟨by rw [upd_ne (Ne.symm (I.off i a ho b es e))]; exact q1,us,q2,q3.mono (Same.new f)⟩
  · rw [upd_ne (ne_of_none (I.ran.f0 b u e) f)]; exact I.ran.f0 b u e
  · by_cases z:b=a
    · subst z; exact .inr g
    · rw [upd_ne z] at e; exact I.ran.fnew b u e
  · by_cases z:j=i
    · subst z
      rw [List.getElem?_set] at e'
      by_cases hl:j < ρ.length
      · simp [hl] at e'
        subst e'
        exact ⟨_,q,rr⟩
      · simp [hl] at e'
    · rw [List.getElem?_set_ne (Ne.symm z)] at e'
      have w:=I.env j c e'
      cases c with
      | no=>trivial
      | val d=>obtain ⟨u,e1,r1⟩:=w; exact ⟨u,e1,r1.mono (Same.new f)⟩
      | own es =>
        obtain ⟨b,us,e1,h1,f1,g1,r1⟩:=w
        have nb:b≠a:=fun w=>I.apart j i a z ⟨.inl ⟨es,e'⟩,by rw [← w]; exact join_some e1⟩ ho
        exact ⟨b,us,e1,h1,by rw [upd_ne nb]; exact f1,g1,r1.mono (Same.new f)⟩
      | obj C fs =>
        obtain ⟨b,dx,us,e1,es1,h1,h2,f1,f2,g1,g2,r1⟩:=w
        have nb:b≠a:=fun w=>by rw [w,h] at h1; cases h1
        have nd:dx≠a:=fun w=>by rw [w,h] at h2; cases h2
        exact ⟨b,dx,us,e1,es1,h1,h2,by rw [upd_ne nb]; exact f1,by rw [upd_ne nd]; exact f2,g1,g2,r1.mono (Same.new f)⟩
      | ownD kvs =>
        obtain ⟨b,us,e1,h1,f1,g1,r1⟩:=w
        have nb:b≠a:=fun w=>by rw [w,h] at h1; cases h1
        exact ⟨b,us,e1,h1,by rw [upd_ne nb]; exact f1,g1,r1.mono (Same.new f)⟩
theorem I2.freezeD {i:Nat} {ds:List (Key×D)} (I:I2 K Y F H σ ρ δ) (e:ρ[i]?=some (.ownD ds)) :
    ∃ a vs,σ[i]?=some (some (.ref a))∧H a=some (.dK vs)∧F a=none∧∀ o,I2 K Y (upd F a (.frz o (.dK vs))) (upd H a (.frz o (.dK vs))) σ (ρ.set i (.val (.dwk ds))) δ∧Rep K (upd F a (.frz o (.dK vs))) (.dwk ds) (.ref a):=by
  obtain ⟨a,vs,q,h,f,g,r⟩:=I.env i _ e
  have hs:=join_some q
  have ho:ownAt ρ σ i a:=⟨.inr (.inr ⟨ds,e⟩),hs⟩
  refine ⟨a,vs,hs,h,f,fun o=>?_⟩
  have rr:Rep K (upd F a (.frz o (.dK vs))) (.dwk ds) (.ref a):=rep_dwk.mpr ⟨a,o,vs,rfl,upd_same,r.mono (Same.new f)⟩
  refine ⟨?_,rr⟩
  have key:∀ j b,ownAt (ρ.set i (.val (.dwk ds))) σ j b→j≠i∧ownAt ρ σ j b:=fun j b ow=>by
    by_cases z:j=i
    · subst z
      rcases ow.1 with ⟨ds,q⟩ | ⟨C,fs,q⟩ | ⟨kvs,q⟩ <;>
      · rw [List.getElem?_set] at q
        simp at q
    · refine ⟨z,?_⟩
      obtain ⟨o1,o2⟩:=ow
      simp only [List.getElem?_set_ne (Ne.symm z)] at o1
      exact ⟨o1,o2⟩
  refine ⟨⟨fun b u e=>?_,fun b es e=>?_,fun b u e f'=>?_,fun b u e=>?_,fun b u e=>?_,I.ran.dto⟩,fun j c e'=>?_,by simp [I.len],fun x y b n o1 o2=>I.apart x y b n (key x b o1).2 (key y b o2).2,fun j b o=>I.off j b (key j b o).2⟩
  · by_cases z:b=a
    · subst z; rw [upd_same] at e ⊢; exact e
    · rw [upd_ne z] at e ⊢; exact I.sub _ _ e
  · obtain ⟨q1,us,q2,q3⟩:=I.ran.dk b es e
    exact ⟨by rw [upd_ne (Ne.symm (I.off i a ho b es e))]; exact q1,us,by rw [upd_ne (Ne.symm (I.off i a ho b es e))]; exact q2,q3.mono (Same.new f)⟩
  · rw [upd_ne (ne_of_none e g)]; exact I.ran.keep b u e f'
  · rw [upd_ne (ne_of_none (I.ran.f0 b u e) f)]; exact I.ran.f0 b u e
  · by_cases z:b=a
    · subst z; exact .inr g
    · rw [upd_ne z] at e; exact I.ran.fnew b u e
  · by_cases z:j=i
    · subst z
      rw [List.getElem?_set] at e'
      by_cases hl:j < ρ.length
      · simp [hl] at e'
        subst e'
        exact ⟨_,q,rr⟩
      · simp [hl] at e'
    · rw [List.getElem?_set_ne (Ne.symm z)] at e'
      have w:=I.env j c e'
      cases c with
      | no=>trivial
      | val d=>obtain ⟨u,e1,r1⟩:=w; exact ⟨u,e1,r1.mono (Same.new f)⟩
      | own es =>
        obtain ⟨b,us,e1,h1,f1,g1,r1⟩:=w
        have nb:b≠a:=fun w=>by rw [w,h] at h1; cases h1
        exact ⟨b,us,e1,by rw [upd_ne nb]; exact h1,by rw [upd_ne nb]; exact f1,g1,r1.mono (Same.new f)⟩
      | obj C fs =>
        obtain ⟨b,dx,us,e1,es1,h1,h2,f1,f2,g1,g2,r1⟩:=w
        have nb:b≠a:=fun w=>by rw [w,h] at h1; cases h1
        have nd:dx≠a:=fun w=>by rw [w,h] at h2; cases h2
        exact ⟨b,dx,us,e1,es1,by rw [upd_ne nb]; exact h1,by rw [upd_ne nd]; exact h2,by rw [upd_ne nb]; exact f1,by rw [upd_ne nd]; exact f2,g1,g2,r1.mono (Same.new f)⟩
      | ownD kvs =>
        obtain ⟨b,us,e1,h1,f1,g1,r1⟩:=w
        have nb:b≠a:=fun w=>I.apart j i a z ⟨.inr (.inr ⟨kvs,e'⟩),by rw [← w]; exact join_some e1⟩ ho
        exact ⟨b,us,e1,by rw [upd_ne nb]; exact h1,by rw [upd_ne nb]; exact f1,g1,r1.mono (Same.new f)⟩
end
end DL
set_option Elab.async false
set_option linter.all false
set_option maxRecDepth 100000
set_option maxHeartbeats 4000000
namespace DL
open PySem PySem.Spec L2
open PySem.W (XC)
noncomputable abbrev XK2:=Addr→List (Str×D)→En→Dk→Prop
noncomputable abbrev K2:=D→En→Dk→Prop
noncomputable abbrev TE2:=XK2→En→Dk→K2→Prop
noncomputable abbrev TT2:=XK2→En→Dk→(Bool→En→Dk→Prop)→Prop
noncomputable abbrev TA2:=XK2→En→Dk→(List D→En→Dk→Prop)→Prop
noncomputable def XRep (K:Frag) (F:Hp) (od:Option Addr) (fs:List (Str×D)):Prop:=match od with
  | none=>fs=[]
  | some d=>∃ us,F d=some (XD d us)∧RepF K F fs us
noncomputable def XR (K:Frag) (Y:Y2) (W:XW) (F:Hp) (x:XK2):Prop:=∀ C od fs σ' F' H' ρ' δ',I2 K Y F' H' σ' ρ' δ'→Same F F'→XRep K F' od fs→x C fs ρ' δ'→W C od σ' H'
theorem XR.mono {K:Frag} {Y:Y2} {W:XW} {F F1:Hp} {x:XK2} (h:XR K Y W F x) (s:Same F F1):XR K Y W F1 x:=fun C od fs σ' F' H' ρ' δ' I s'=>h C od fs σ' F' H' ρ' δ' I (s.trans s')
noncomputable def upE (K:Frag) (Y:Y2) (W:XW) (t:TE2):TE:=fun σ H Q=>∃ F ρ δ x q,I2 K Y F H σ ρ δ∧t x ρ δ q∧(∀ d v F' H' ρ' δ',I2 K Y F' H' σ ρ' δ'→Same F F'→Rep K F' d v→q d ρ' δ'→Q v H')∧XR K Y W F x
noncomputable def upT (K:Frag) (Y:Y2) (W:XW) (t:TT2):TT:=fun σ H Q=>∃ F ρ δ x q,I2 K Y F H σ ρ δ∧t x ρ δ q∧(∀ b F' H' ρ' δ',I2 K Y F' H' σ ρ' δ'→Same F F'→q b ρ' δ'→Q b H')∧XR K Y W F x
noncomputable def upA (K:Frag) (Y:Y2) (W:XW) (t:TA2):TA:=fun σ H Q=>∃ F ρ δ x q,I2 K Y F H σ ρ δ∧t x ρ δ q∧(∀ ds vs F' H' ρ' δ',I2 K Y F' H' σ ρ' δ'→Same F F'→Reps K F' ds vs→q ds ρ' δ'→Q vs H')∧XR K Y W F x
structure PE2 (X:Cx) (Y:Y2) (W:XW) (e:Expr) (t:TE2):Prop where
  go:PE X e (upE X.K Y W t)
structure PT2 (X:Cx) (Y:Y2) (W:XW) (e:Expr) (t:TT2):Prop where
  go:PT X e (upT X.K Y W t)
structure PW2 (X:Cx) (Y:Y2) (W:XW) (e:Expr) (t:TT2):Prop where
  go:PW X e (upT X.K Y W t)
structure PA2 (X:Cx) (Y:Y2) (W:XW) (es:List Expr) (t:TA2):Prop where
  go:PA X es (upA X.K Y W t)
theorem pe_mono {X:Cx} {e:Expr} {t t':TE} (h:PE X e t) (k:∀ σ H Q,t' σ H Q→t σ H Q):PE X e t':=fun pins s σ H Q I q=>h pins s σ H Q I (k σ H Q q)
theorem pt_mono {X:Cx} {e:Expr} {t t':TT} (h:PT X e t) (k:∀ σ H Q,t' σ H Q→t σ H Q):PT X e t':=fun pins s σ H Q I q=>h pins s σ H Q I (k σ H Q q)
theorem pw_mono {X:Cx} {e:Expr} {t t':TT} (h:PW X e t) (k:∀ σ H Q,t' σ H Q→t σ H Q):PW X e t':=fun w pins s σ H Q I q=>h w pins s σ H Q I (k σ H Q q)
theorem pa_mono {X:Cx} {es:List Expr} {t t':TA} (h:PA X es t) (k:∀ σ H Q,t' σ H Q→t σ H Q):PA X es t':=fun p pins s σ H Q I q=>h p pins s σ H Q I (k σ H Q q)
noncomputable def unStar:Expr→Bool | .Starred _ _=>false | _=>true
theorem star_cons {e:Expr} {es:List Expr} {env:Env} (h:unStar e=true):starEach (e :: es) env=(false,eval e env) :: starEach es env:=by
  cases e <;> first | rfl | cases h
theorem star_any {pos:Pos} {env:Env}:∀ {es:List Expr},es.all unStar=true→(backTo pos (starEach es env)).any (·.1)=false
  | [],_=>rfl
  | e :: es,h=>by
    rw [List.all_cons,Bool.and_eq_true] at h
    rw [star_cons h.1]
    show (false || (backTo pos (starEach es env)).any (·.1))=false
    rw [star_any h.2]; rfl
theorem pe2 {X:Cx} {Y:Y2} {W:XW} {e:Expr} {t:TE} {u:TE2} (h:PE X e t) (k:∀ σ H Q,upE X.K Y W u σ H Q→t σ H Q):PE2 X Y W e u:=⟨pe_mono h k⟩
theorem pt2 {X:Cx} {Y:Y2} {W:XW} {e:Expr} {t:TT} {u:TT2} (h:PT X e t) (k:∀ σ H Q,upT X.K Y W u σ H Q→t σ H Q):PT2 X Y W e u:=⟨pt_mono h k⟩
theorem pw2 {X:Cx} {Y:Y2} {W:XW} {e:Expr} {t:TT} {u:TT2} (h:PW X e t) (k:∀ σ H Q,upT X.K Y W u σ H Q→t σ H Q):PW2 X Y W e u:=⟨pw_mono h k⟩
theorem pa2 {X:Cx} {Y:Y2} {W:XW} {es:List Expr} {t:TA} {u:TA2} (h:PA X es t) (k:∀ σ H Q,upA X.K Y W u σ H Q→t σ H Q):PA2 X Y W es u:=⟨pa_mono h k⟩
section
variable {X:Cx} {Y:Y2} {W:XW} {a b c:Expr} {ta tb tc:TE2} {pos:Pos}
noncomputable def t2C (d:D):TE2:=fun _ ρ δ q=>q d ρ δ
theorem e2_c {e:Expr} {v:V} {d:D} (h:PE X e (tC v)) (r:∀ F,Rep X.K F d v):PE2 X Y W e (t2C d):=pe2 h fun σ H Q ⟨F,ρ,δ,x,q,I,h,k,kx⟩=>k d v F H ρ δ I (Same.refl F) (r F) h
theorem e2_int {i j pos}:PE2 X Y W (.Constant (.int i) j pos) (t2C (.int i)):=e2_c pe_int fun F=>rep_int.mpr rfl
theorem e2_bl {i j pos}:PE2 X Y W (.Constant (.bool i) j pos) (t2C (.bl i)):=e2_c pe_bl fun F=>rep_bl.mpr rfl
theorem e2_non {j pos}:PE2 X Y W (.Constant .none j pos) (t2C .non):=e2_c pe_non fun F=>rep_non.mpr rfl
theorem e2_str {i j pos}:PE2 X Y W (.Constant (.str i) j pos) (t2C (.str i)):=e2_c pe_str fun F=>rep_str.mpr rfl
noncomputable def rdV (ρ:En) (i:Nat) (k:D→En→Prop):Prop:=match ρ[i]? with
  | some (.val d)=>k d ρ
  | some (.own ds)=>k (.lst ds) (ρ.set i (.val (.lst ds)))
  | _=>False
noncomputable def t2V (i:Nat):TE2:=fun _ ρ δ q=>rdV ρ i fun d ρ'=>q d ρ' δ
theorem rd_use {K:Frag} {F H:Hp} {σ:St} {ρ:En} {δ:Dk} {i:Nat} {k:D→En→Prop} (I:I2 K Y F H σ ρ δ) (h:rdV ρ i k) :
    ∃ d v F' ρ',σ[i]?=some (some v)∧I2 K Y F' H σ ρ' δ∧Same F F'∧Rep K F' d v∧k d ρ':=by
  unfold rdV at h
  split at h
  · rename_i d e
    obtain ⟨v,q,r⟩:=I.env i _ e
    exact ⟨d,v,F,ρ,join_some q,I,Same.refl F,r,h⟩
  · rename_i ds e
    obtain ⟨a,vs,q,f,I',r⟩:=I.freeze e
    exact ⟨_,_,_,_,q,I',Same.new f,r,h⟩
  · exact h.elim
theorem e2_v (i:Nat) {x:Str} {pos:Pos} (hN:X.N[i]?=some x:=by rfl) (hv:Vis X.env.scope x:=by walk_at "v3") (hd:(x == ("__debug__" : Str))=false:=by decide)
    (hcd:(x == ("__classdict__" : Str))=false:=by decide):PE2 X Y W (.Name x pos) (t2V i):=pe2 (pe_var hN hv hd hcd) fun σ H Q ⟨F,ρ,δ,x,q,I,h,k,kx⟩=>by
  obtain ⟨d,v,F',ρ',e,I',s,r,h'⟩:=rd_use I h
  exact ⟨v,e,k d v F' H ρ' δ I' s r h'⟩
theorem e2_gi {x:Str} {n:Int} {u:Value} (hm:X.mg x=some u) (r:∃ t,u=.int n t) (hg:Gl X x:=by rfl) (hd:(x == ("__debug__" : Str))=false:=by decide):PE2 X Y W (.Name x pos) (t2C (.int n)):=e2_c (pe_glob (v:=.int n) hg hm r hd) fun F=>rep_int.mpr rfl
theorem e2_ty (n:String) {y:Str} (hm:X.mg y=none) (hv:bootBuiltins y=some (.type n)) (hg:Gl X y:=by rfl) (hn:y ≠ "__name__" := by decide) (hd:(y == ("__debug__" : Str))=false:=by decide):PE2 X Y W (.Name y pos) (t2C (.ty n)) :=
  e2_c (pty n hm hv hg hn hd) fun F=>rep_ty.mpr rfl
noncomputable def t2Nil:TA2:=fun _ ρ δ q=>q [] ρ δ
noncomputable def t2Cons (te:TE2) (tr:TA2):TA2:=fun x ρ δ q=>te x ρ δ fun d ρ1 δ1=>tr x ρ1 δ1 fun ds ρ2 δ2=>q (d :: ds) ρ2 δ2
theorem a2_nil:PA2 X Y W [] t2Nil:=pa2 pa_nil fun σ H Q ⟨F,ρ,δ,x,q,I,h,k,kx⟩=>k [] [] F H ρ δ I (Same.refl F) Reps.nil h
theorem a2_cons {e:Expr} {es:List Expr} {te:TE2} {t:TA2} (ha:PE2 X Y W e te) (hr:PA2 X Y W es t) (hs:starEach (e :: es) X.env=(false,eval e X.env) :: starEach es X.env:=by exact star_cons rfl):PA2 X Y W (e :: es) (t2Cons te t) :=
  pa2 (pa_cons ha.go hr.go hs) fun σ H Q ⟨F,ρ,δ,x,q,I,h,k,kx⟩=>⟨F,ρ,δ,x,_,I,h,fun d1 v1 F1 H1 ρ1 δ1 I1 s1 r1 h1=>⟨F1,ρ1,δ1,x,_,I1,h1,fun ds vs F2 H2 ρ2 δ2 I' s2 r2 h2 =>
    k (d1 :: ds) (v1 :: vs) F2 H2 ρ2 δ2 I' (s1.trans s2) (Reps.cons (r1.mono s2) r2) h2,kx.mono s1⟩,kx⟩
theorem sz_ok {n:Nat} (h:n≤1000):n≤PySem.sizeLine:=Nat.le_trans h (by decide)
noncomputable def t2Lst (t:TA2):TE2:=fun x ρ δ q=>t x ρ δ fun ds ρ1 δ1=>ds.length≤1000∧q (.lst ds) ρ1 δ1
noncomputable def t2Tup (t:TA2):TE2:=fun x ρ δ q=>t x ρ δ fun ds ρ1 δ1=>ds.length≤1000∧q (.tup ds) ρ1 δ1
theorem e2_lst {es:List Expr} {t:TA2} (h:PA2 X Y W es t):PE2 X Y W (.List es pos) (t2Lst t):=pe2 (pe_lst h.go) fun σ H Q ⟨F,ρ,δ,x,q,I,h,k,kx⟩ =>
  ⟨F,ρ,δ,x,_,I,h,fun ds vs F1 H1 ρ1 δ1 I1 s1 r1 h1=>⟨sz_ok (by rw [r1.length]; exact h1.1),fun p hp=>k _ _ _ _ ρ1 δ1 (I1.alloc hp) (s1.trans (I1.grow hp)) (I1.lst hp r1) h1.2⟩,kx⟩
theorem e2_tup {x1} {es:List Expr} {t:TA2} (h:PA2 X Y W es t):PE2 X Y W (.Tuple es x1 pos) (t2Tup t):=pe2 (pe_tup h.go) fun σ H Q ⟨F,ρ,δ,x,q,I,h,k,kx⟩ =>
  ⟨F,ρ,δ,x,_,I,h,fun ds vs F1 H1 ρ1 δ1 I1 s1 r1 h1=>⟨sz_ok (by rw [r1.length]; exact h1.1),fun p hp=>k _ _ _ _ ρ1 δ1 (I1.alloc hp) (s1.trans (I1.grow hp)) (I1.tup hp r1) h1.2⟩,kx⟩
noncomputable abbrev F2:=D→D→(D→Prop)→Prop
noncomputable def OpD (K:Frag) (r:R2) (f:F2):Prop:=∀ (Y:Y2) (F H:Hp) (σ:St) (ρ:En) (δ:Dk) (x y:V) (d1 d2:D) (Q1:VK) (q:D→Prop),I2 K Y F H σ ρ δ→Rep K F d1 x→Rep K F d2 y→f d1 d2 q →
  (∀ d v F' H',I2 K Y F' H' σ ρ δ→Same F F'→Rep K F' d v→q d→Q1 v H')→r x y H Q1
noncomputable def t2Op (f:F2) (ta tb:TE2):TE2:=fun x ρ δ q=>ta x ρ δ fun d1 ρ1 δ1=>tb x ρ1 δ1 fun d2 ρ2 δ2=>f d1 d2 fun d=>q d ρ2 δ2
theorem up_op {r:R2} {f:F2} (hf:OpD X.K r f) {σ:St} {H:Hp} {Q:VK} (h:upE X.K Y W (t2Op f ta tb) σ H Q):tOp r (upE X.K Y W ta) (upE X.K Y W tb) σ H Q:=by
  obtain ⟨F,ρ,δ,x,q,I,h,k,kx⟩:=h
  exact ⟨F,ρ,δ,x,_,I,h,fun d1 v1 F1 H1 ρ1 δ1 I1 s1 r1 h1=>⟨F1,ρ1,δ1,x,_,I1,h1,fun d2 v2 F2 H2 ρ2 δ2 I' s2 r2 h2 =>
    hf Y F2 H2 σ ρ2 δ2 v1 v2 d1 d2 _ _ I' (r1.mono s2) r2 h2 fun d v F' H' I' s' r' q'=>k d v F' H' ρ2 δ2 I' ((s1.trans s2).trans s') r' q',kx.mono s1⟩,kx⟩
theorem e2_op {op:Operator} {r:R2} {f:F2} (ho:OpR X (binaryOp op) r) (hf:OpD X.K r f) (ha:PE2 X Y W a ta) (hb:PE2 X Y W b tb):PE2 X Y W (.BinOp a op b pos) (t2Op f ta tb):=pe2 (pe_op ho ha.go hb.go) fun σ H Q h=>up_op hf h
theorem e2_cmp {op:CmpOp} {r:R2} {f:F2} (ho:OpR X (compareOp op) r) (hf:OpD X.K r f) (ha:PE2 X Y W a ta) (hb:PE2 X Y W b tb) (hm:behindInMarks op b=false):PE2 X Y W (.Compare a [op] [b] pos) (t2Op f ta tb):=pe2 (pe_cmpR ho ha.go hb.go hm) fun σ H Q h=>up_op hf h
theorem e2_ix {r:R2} {f:F2} (hr:IxR X r) (hf:OpD X.K r f) (ha:PE2 X Y W a ta) (hb:PE2 X Y W b tb) (hs:PlainIx b:=by exact fun _ _=>rfl):PE2 X Y W (.Subscript a b pos) (t2Op f ta tb):=pe2 (pe_ix hr ha.go hb.go hs) fun σ H Q h=>up_op hf h
noncomputable def t2B (t:TE2):TT2:=fun x ρ δ q=>t x ρ δ fun d ρ1 δ1=>match d with | .bl k=>q k ρ1 δ1 | _=>False
theorem up_test {t:TE2} {σ:St} {H:Hp} {Q:Bool→Hp→Prop} (h:upT X.K Y W (t2B t) σ H Q):upE X.K Y W t σ H fun x H1=>∃ c,x=.bl c∧Q c H1:=by
  obtain ⟨F,ρ,δ,x,q,I,h,k,kx⟩:=h
  refine ⟨F,ρ,δ,x,_,I,h,fun d v F' H' ρ' δ' I' s' r' h'=>?_,kx⟩
  cases d with
  | bl b=>exact ⟨b,rep_bl.mp r',k b F' H' ρ' δ' I' s' h'⟩
  | _=>exact h'.elim
theorem t2_val {e:Expr} {t:TE2} (h:PE2 X Y W e t) (he:∀ whole,isTrue e X.env whole=(do let v ← whole; standAt e.pos; holding [v] (truthy v)):=by intro _; rfl):PT2 X Y W e (t2B t):=pt2 (pt_val h.go he) fun σ H Q h=>up_test h
theorem t2_cmp {op:CmpOp} {r:R2} {f:F2} (ho:OpR X (compareOp op) r) (hf:OpD X.K r f) (ha:PE2 X Y W a ta) (hb:PE2 X Y W b tb) (hm:behindInMarks op b=false):PT2 X Y W (.Compare a [op] [b] pos) (t2B (t2Op f ta tb)) :=
  pt2 (pt_cmpR ho ha.go hb.go hm) fun σ H Q h=>up_op hf (up_test h)
noncomputable def t2Not (t:TT2):TT2:=fun x ρ δ q=>t x ρ δ fun k ρ1 δ1=>q (!k) ρ1 δ1
theorem t2_not {t:TT2} (h:PT2 X Y W a t):PT2 X Y W (.UnaryOp .Not a pos) (t2Not t):=pt2 (pt_not h.go) fun σ H Q ⟨F,ρ,δ,x,q,I,h,k,kx⟩=>⟨F,ρ,δ,x,_,I,h,fun b F' H' ρ' δ' I' s' h'=>k _ F' H' ρ' δ' I' s' h',kx⟩
noncomputable def t2And (t u:TT2):TT2:=fun x ρ δ q=>t x ρ δ fun k ρ1 δ1=>if k=true then u x ρ1 δ1 q else q false ρ1 δ1
noncomputable def t2Or (t u:TT2):TT2:=fun x ρ δ q=>t x ρ δ fun k ρ1 δ1=>if k=true then q true ρ1 δ1 else u x ρ1 δ1 q
variable {tA tB':TT2} {rest:List Expr}
theorem w2_and1 (ha:PT2 X Y W a tA):PW2 X Y W (.BoolOp .And [a] pos) tA:=⟨pw_and1 ha.go⟩
theorem w2_or1 (ha:PT2 X Y W a tA):PW2 X Y W (.BoolOp .Or [a] pos) tA:=⟨pw_or1 ha.go⟩
theorem w2_and (ha:PT2 X Y W a tA) (hb:PW2 X Y W (.BoolOp .And (b :: rest) pos) tB'):PW2 X Y W (.BoolOp .And (a :: b :: rest) pos) (t2And tA tB'):=pw2 (pw_and ha.go hb.go) fun σ H Q ⟨F,ρ,δ,x,q,I,h,k,kx⟩=>by
  refine ⟨F,ρ,δ,x,_,I,h,fun b F' H' ρ' δ' I' s' h'=>?_,kx⟩
  cases b with
  | true=>rw [if_pos rfl] at h' ⊢; exact ⟨F',ρ',δ',x,q,I',h',fun b F2 H2 ρ2 δ2 I2 s2 h2=>k b F2 H2 ρ2 δ2 I2 (s'.trans s2) h2,kx.mono s'⟩
  | false=>rw [if_neg Bool.false_ne_true] at h' ⊢; exact k false F' H' ρ' δ' I' s' h'
theorem w2_or (ha:PT2 X Y W a tA) (hb:PW2 X Y W (.BoolOp .Or (b :: rest) pos) tB'):PW2 X Y W (.BoolOp .Or (a :: b :: rest) pos) (t2Or tA tB'):=pw2 (pw_or ha.go hb.go) fun σ H Q ⟨F,ρ,δ,x,q,I,h,k,kx⟩=>by
  refine ⟨F,ρ,δ,x,_,I,h,fun b F' H' ρ' δ' I' s' h'=>?_,kx⟩
  cases b with
  | true=>rw [if_pos rfl] at h' ⊢; exact k true F' H' ρ' δ' I' s' h'
  | false=>rw [if_neg Bool.false_ne_true] at h' ⊢; exact ⟨F',ρ',δ',x,q,I',h',fun b F2 H2 ρ2 δ2 I2 s2 h2=>k b F2 H2 ρ2 δ2 I2 (s'.trans s2) h2,kx.mono s'⟩
theorem PW2.pt (h:PW2 X Y W a tA):PT2 X Y W a tA:=⟨PW.pt h.go⟩
noncomputable def t2AndV (ta tb:TE2):TE2:=fun x ρ δ q=>ta x ρ δ fun d ρ1 δ1=>match d with | .bl k=>if k=true then tb x ρ1 δ1 q else q (.bl false) ρ1 δ1 | _=>False
noncomputable def t2OrV (ta tb:TE2):TE2:=fun x ρ δ q=>ta x ρ δ fun d ρ1 δ1=>match d with | .bl k=>if k=true then q (.bl true) ρ1 δ1 else tb x ρ1 δ1 q | _=>False
noncomputable def t2NotV (ta:TE2):TE2:=fun x ρ δ q=>ta x ρ δ fun d ρ1 δ1=>match d with | .bl k=>q (.bl (!k)) ρ1 δ1 | _=>False
theorem e2_one {op} (h:PE2 X Y W a ta):PE2 X Y W (.BoolOp op [a] pos) ta:=⟨pe_one h.go⟩
theorem e2_and (ha:PE2 X Y W a ta) (hb:PE2 X Y W (.BoolOp .And (b :: rest) pos) tb):PE2 X Y W (.BoolOp .And (a :: b :: rest) pos) (t2AndV ta tb):=pe2 (pe_and ha.go hb.go) fun σ H Q ⟨F,ρ,δ,x,q,I,h,k,kx⟩=>by
  refine ⟨F,ρ,δ,x,_,I,h,fun d v F' H' ρ' δ' I' s' r' h'=>?_,kx⟩
  cases d with
  | bl b =>
    refine ⟨b,rep_bl.mp r',?_⟩
    cases b with
    | true=>dsimp only at h'; rw [if_pos rfl] at h' ⊢; exact ⟨F',ρ',δ',x,q,I',h',fun d v F2 H2 ρ2 δ2 I2 s2 r2 h2=>k d v F2 H2 ρ2 δ2 I2 (s'.trans s2) r2 h2,kx.mono s'⟩
    | false=>dsimp only at h'; rw [if_neg Bool.false_ne_true] at h' ⊢; exact k _ _ F' H' ρ' δ' I' s' (rep_bl.mpr rfl) h'
  | _=>exact h'.elim
theorem e2_not (ha:PE2 X Y W a ta):PE2 X Y W (.UnaryOp .Not a pos) (t2NotV ta):=pe2 (pe_not ha.go) fun σ H Q ⟨F,ρ,δ,x,q,I,h,k,kx⟩=>by
  refine ⟨F,ρ,δ,x,_,I,h,fun d v F' H' ρ' δ' I' s' r' h'=>?_,kx⟩
  cases d with
  | bl b=>exact ⟨b,rep_bl.mp r',k _ _ F' H' ρ' δ' I' s' (rep_bl.mpr rfl) h'⟩
  | _=>exact h'.elim
noncomputable def t2If (t:TT2) (ta tb:TE2):TE2:=fun x ρ δ q=>t x ρ δ fun k ρ1 δ1=>if k=true then ta x ρ1 δ1 q else tb x ρ1 δ1 q
theorem e2_if {e:Expr} (hc:PT2 X Y W e tA) (ha:PE2 X Y W a ta) (hb:PE2 X Y W b tb):PE2 X Y W (.IfExp e a b pos) (t2If tA ta tb):=pe2 (pe_ifExp hc.go ha.go hb.go) fun σ H Q ⟨F,ρ,δ,x,q,I,h,k,kx⟩=>by
  refine ⟨F,ρ,δ,x,_,I,h,fun b F' H' ρ' δ' I' s' h'=>?_,kx⟩
  cases b with
  | true=>rw [if_pos rfl] at h' ⊢; exact ⟨F',ρ',δ',x,q,I',h',fun d v F2 H2 ρ2 δ2 I2 s2 r2 h2=>k d v F2 H2 ρ2 δ2 I2 (s'.trans s2) r2 h2,kx.mono s'⟩
  | false=>rw [if_neg Bool.false_ne_true] at h' ⊢; exact ⟨F',ρ',δ',x,q,I',h',fun d v F2 H2 ρ2 δ2 I2 s2 r2 h2=>k d v F2 H2 ρ2 δ2 I2 (s'.trans s2) r2 h2,kx.mono s'⟩
noncomputable def t2Chain (f f':F2) (ta tb tc:TE2):TE2:=fun x ρ δ q=>ta x ρ δ fun d1 ρ1 δ1=>tb x ρ1 δ1 fun d2 ρ2 δ2=>f d1 d2 fun d=>match d with
  | .bl k=>if k=true then tc x ρ2 δ2 fun d3 ρ3 δ3=>f' d2 d3 fun d=>q d ρ3 δ3 else q (.bl false) ρ2 δ2
  | _=>False
theorem up_chain {r r':R2} {f f':F2} (hf:OpD X.K r f) (hf':OpD X.K r' f') {σ:St} {H:Hp} {Q:VK} (h:upE X.K Y W (t2Chain f f' ta tb tc) σ H Q):tChain r r' (upE X.K Y W ta) (upE X.K Y W tb) (upE X.K Y W tc) σ H Q:=by
  obtain ⟨F,ρ,δ,x,q,I,h,k,kx⟩:=h
  refine ⟨F,ρ,δ,x,_,I,h,fun d1 v1 F1 H1 ρ1 δ1 I1 s1 r1 h1=>⟨F1,ρ1,δ1,x,_,I1,h1,fun d2 v2 F2 H2 ρ2 δ2 I2 s2 r2 h2=>?_,kx.mono s1⟩,kx⟩
  refine hf Y F2 H2 σ ρ2 δ2 v1 v2 d1 d2 _ _ I2 (r1.mono s2) r2 h2 fun d v F' H' I' s' r' q'=>?_
  cases d with
  | bl b =>
    refine ⟨b,rep_bl.mp r',?_⟩
    have s3:=(s1.trans s2).trans s'
    cases b with
    | true =>
      dsimp only at q'
      rw [if_pos rfl] at q' ⊢
      exact ⟨F',ρ2,δ2,x,_,I',q',fun d3 v3 F3 H3 ρ3 δ3 I3 s4 r3 h3=>hf' Y F3 H3 σ ρ3 δ3 v2 v3 d2 d3 _ _ I3 (r2.mono (s'.trans s4)) r3 h3 fun d v F4 H4 I4 s5 r4 q4=>k d v F4 H4 ρ3 δ3 I4 ((s3.trans s4).trans s5) r4 q4,kx.mono s3⟩
    | false =>
      dsimp only at q'
      rw [if_neg Bool.false_ne_true] at q' ⊢
      exact k _ _ F' H' ρ2 δ2 I' s3 (rep_bl.mpr rfl) q'
  | _=>exact q'.elim
theorem e2_chain {op op':CmpOp} {r r':R2} {f f':F2} (ho:OpR X (compareOp op) r) (ho':OpR X (compareOp op') r') (hf:OpD X.K r f) (hf':OpD X.K r' f') (ha:PE2 X Y W a ta) (hb:PE2 X Y W b tb) (hc:PE2 X Y W c tc)
    (hm:lastMarks [op,op'] [b,c]=false:=by with_unfolding_all rfl):PE2 X Y W (.Compare a [op,op'] [b,c] pos) (t2Chain f f' ta tb tc):=pe2 (pe_chain ho ho' ha.go hb.go hc.go hm) fun σ H Q h=>up_chain hf hf' h
theorem t2_chain {op op':CmpOp} {r r':R2} {f f':F2} (ho:OpR X (compareOp op) r) (ho':OpR X (compareOp op') r') (hf:OpD X.K r f) (hf':OpD X.K r' f') (ha:PE2 X Y W a ta) (hb:PE2 X Y W b tb) (hc:PE2 X Y W c tc)
    (hm:lastMarks [op,op'] [b,c]=false:=by with_unfolding_all rfl):PT2 X Y W (.Compare a [op,op'] [b,c] pos) (t2B (t2Chain f f' ta tb tc)):=pt2 (pt_chain ho ho' ha.go hb.go hc.go hm) fun σ H Q h=>up_chain hf hf' (up_test h)
noncomputable abbrev F1:=List D→(D→Prop)→Prop
noncomputable def CallD (K:Frag) (r:List V→Hp→VK→Prop) (f:F1):Prop:=∀ (Y:Y2) (F H:Hp) (σ:St) (ρ:En) (δ:Dk) (vs:List V) (ds:List D) (Q1:VK) (q:D→Prop),I2 K Y F H σ ρ δ→Reps K F ds vs→f ds q →
  (∀ d v F' H',I2 K Y F' H' σ ρ δ→Same F F'→Rep K F' d v→q d→Q1 v H')→r vs H Q1
noncomputable def t2Bi (f:F1) (t:TA2):TE2:=fun x ρ δ q=>t x ρ δ fun ds ρ1 δ1=>f ds fun d=>q d ρ1 δ1
theorem up_bi {r:List V→Hp→VK→Prop} {f:F1} {t:TA2} (hf:CallD X.K r f) {σ:St} {H:Hp} {Q:VK} (h:upE X.K Y W (t2Bi f t) σ H Q):tCB r (upA X.K Y W t) σ H Q:=by
  obtain ⟨F,ρ,δ,x,q,I,h,k,kx⟩:=h
  exact ⟨F,ρ,δ,x,_,I,h,fun ds vs F1 H1 ρ1 δ1 I1 s1 r1 h1=>hf Y F1 H1 σ ρ1 δ1 vs ds _ _ I1 r1 h1 fun d v F' H' I' s' r' q'=>k d v F' H' ρ1 δ1 I' (s1.trans s') r' q',kx⟩
variable {x:Str} {e:Expr} {es:List Expr} {t:TA2} {p:Pos}
theorem e2_b {id:String} {r:List V→Hp→VK→Prop} {f:F1} (hc:CallR X (.builtin id) r) (hf:CallD X.K r f) (hm:X.mg x=none) (hv:bootBuiltins x=some (.builtin id)) (ha:PA2 X Y W (e :: es) t) (hg:Gl X x:=by rfl) (hn:x ≠ "__name__" := by decide) (hdb:(x == ("__debug__" : Str))=false:=by decide)
    (he:starEach (e :: es) X.env=(false,eval e X.env) :: starEach es X.env:=by exact star_cons rfl) (hpl:(backTo pos (starEach es X.env)).any (·.1)=false:=by exact star_any rfl):PE2 X Y W (.Call (.Name x p) (e :: es) [] pos) (t2Bi f t):=pe2 (pe_callB hc hg hm hv ha.go hn hdb he hpl) fun σ H Q h=>up_bi hf h
theorem e2_bt {T:String} {r:List V→Hp→VK→Prop} {f:F1} (hc:CallR X (.type T) r) (hf:CallD X.K r f) (hm:X.mg x=none) (hv:bootBuiltins x=some (.type T)) (ha:PA2 X Y W (e :: es) t) (hg:Gl X x:=by rfl) (hn:x ≠ "__name__" := by decide) (hdb:(x == ("__debug__" : Str))=false:=by decide)
    (he:starEach (e :: es) X.env=(false,eval e X.env) :: starEach es X.env:=by exact star_cons rfl) (hpl:(backTo pos (starEach es X.env)).any (·.1)=false:=by exact star_any rfl):PE2 X Y W (.Call (.Name x p) (e :: es) [] pos) (t2Bi f t):=pe2 (pe_callTy hc hg hm hv ha.go hn hdb he hpl) fun σ H Q h=>up_bi hf h
noncomputable def t2Un (f:D→(D→Prop)→Prop) (ta:TE2):TE2:=fun x ρ δ q=>ta x ρ δ fun d ρ1 δ1=>f d fun d=>q d ρ1 δ1
theorem e2_neg (ha:PE2 X Y W a ta):PE2 X Y W (.UnaryOp .USub a pos) (t2Un (fun d q=>match d with | .int i=>q (.int (-i)) | _=>False) ta):=pe2 (pe_un un_neg ha.go) fun σ H Q ⟨F,ρ,δ,x,q,I,h,k,kx⟩=>by
  refine ⟨F,ρ,δ,x,_,I,h,fun d v F' H' ρ' δ' I' s' r' h'=>?_,kx⟩
  cases d with
  | int i=>exact ⟨i,rep_int.mp r',k _ _ F' H' ρ' δ' I' s' (rep_int.mpr rfl) h'⟩
  | _=>exact h'.elim
end
end DL
set_option Elab.async false
set_option linter.all false
set_option maxRecDepth 100000
set_option maxHeartbeats 4000000
namespace DL
open PySem PySem.Spec L2
open PySem.W (XC)
section
variable {X:Cx} {K:Frag}
theorem OpR_or {f:Value→Value→Sem Value} {r r':R2} (h:OpR X f r) (h':OpR X f r'):OpR X f (fun x y H Q=>r x y H Q∨r' x y H Q):=by
  intro pins s σ H x y v u Q I rx ry q
  rcases q with q | q
  · exact h pins s σ H x y v u Q I rx ry q
  · exact h' pins s σ H x y v u Q I rx ry q
noncomputable def fI (C:Int→Int→Prop) (g:Int→Int→D):F2:=fun d1 d2 q=>match d1,d2 with
  | .int i,.int j=>C i j∧q (g i j)
  | _,_=>False
theorem dI {C:Int→Int→Prop} {g:Int→Int→V} {g':Int→Int→D} (h:∀ F i j,Rep K F (g' i j) (g i j)):OpD K (rI C g) (fI C g'):=by
  intro Y F H σ ρ δ x y d1 d2 Q1 q I r1 r2 h' k
  unfold fI at h'
  split at h'
  · rename_i i j
    exact ⟨i,j,rep_int.mp r1,rep_int.mp r2,h'.1,k _ _ F H I (Same.refl F) (h F i j) h'.2⟩
  · exact h'.elim
noncomputable def fI0 (g:Int→Int→D):F2:=fun d1 d2 q=>match d1,d2 with
  | .int i,.int j=>q (g i j)
  | _,_=>False
theorem dI0 {g:Int→Int→V} {g':Int→Int→D} (h:∀ F i j,Rep K F (g' i j) (g i j)):OpD K (rI0 g) (fI0 g'):=by
  intro Y F H σ ρ δ x y d1 d2 Q1 q I r1 r2 h' k
  unfold fI0 at h'
  split at h'
  · rename_i i j
    exact ⟨i,j,rep_int.mp r1,rep_int.mp r2,k _ _ F H I (Same.refl F) (h F i j) h'⟩
  · exact h'.elim
noncomputable def rAddD (K:Frag):R2:=fun x y H Q=>rI0 (fun i j=>.int (i + j)) x y H Q∨rCat x y H Q
noncomputable def addF:F2:=fun d1 d2 q=>match d1,d2 with
  | .int i,.int j=>q (.int (i + j))
  | .lst xs,.lst ys=>xs.length + ys.length≤1000∧q (.lst (xs++ys))
  | _,_=>False
theorem op_addD:OpR X (binaryOp .Add) (rAddD X.K):=OpR_or op_add op_cat
theorem d_add:OpD K (rAddD K) addF:=by
  intro Y F H σ ρ δ x y d1 d2 Q1 q I r1 r2 h' k
  unfold addF at h'
  split at h'
  · rename_i i j
    exact .inl ⟨i,j,rep_int.mp r1,rep_int.mp r2,k _ _ F H I (Same.refl F) (rep_int.mpr rfl) h'⟩
  · rename_i xs ys
    obtain ⟨a,vs,rfl,e1,z1⟩:=rep_lst.mp r1
    obtain ⟨b,us,rfl,e2,z2⟩:=rep_lst.mp r2
    refine .inr ⟨a,b,vs,us,rfl,rfl,I.sub _ _ e1,I.sub _ _ e2,sz_ok (by rw [z1.length,z2.length]; exact h'.1),fun p hp=>k _ _ _ _ (I.alloc hp) (I.grow hp) (I.lst hp (z1.append z2)) h'.2⟩
  · exact h'.elim
noncomputable abbrev subF:F2:=fI0 fun i j=>.int (i - j)
noncomputable abbrev mulF:F2:=fI CMul fun i j=>.int (i * j)
noncomputable abbrev fdivF:F2:=fI CDiv fun i j=>.int (i / j)
noncomputable abbrev modF:F2:=fI (fun _ j=>0 < j) fun i j=>.int (i % j)
noncomputable abbrev powF:F2:=fI CPow fun i j=>.int (i ^ j.toNat)
noncomputable abbrev ltF:F2:=fI0 fun i j=>.bl (decide (i < j))
noncomputable abbrev leF:F2:=fI0 fun i j=>.bl (decide (i≤j))
noncomputable abbrev gtF:F2:=fI0 fun i j=>.bl (decide (j < i))
noncomputable abbrev geF:F2:=fI0 fun i j=>.bl (decide (j≤i))
theorem d_sub:OpD K (rI0 fun i j=>.int (i - j)) subF:=dI0 fun _ _ _=>rep_int.mpr rfl
theorem d_mul:OpD K (rI CMul fun i j=>.int (i * j)) mulF:=dI fun _ _ _=>rep_int.mpr rfl
theorem d_fdiv:OpD K (rI CDiv fun i j=>.int (i / j)) fdivF:=dI fun _ _ _=>rep_int.mpr rfl
theorem d_mod:OpD K (rI (fun _ j=>0 < j) fun i j=>.int (i % j)) modF:=dI fun _ _ _=>rep_int.mpr rfl
theorem d_pow:OpD K (rI CPow fun i j=>.int (i ^ j.toNat)) powF:=dI fun _ _ _=>rep_int.mpr rfl
theorem d_lt:OpD K (rI0 fun i j=>.bl (decide (i < j))) ltF:=dI0 fun _ _ _=>rep_bl.mpr rfl
theorem d_le:OpD K (rI0 fun i j=>.bl (decide (i≤j))) leF:=dI0 fun _ _ _=>rep_bl.mpr rfl
theorem d_gt:OpD K (rI0 fun i j=>.bl (decide (j < i))) gtF:=dI0 fun _ _ _=>rep_bl.mpr rfl
theorem d_ge:OpD K (rI0 fun i j=>.bl (decide (j≤i))) geF:=dI0 fun _ _ _=>rep_bl.mpr rfl
noncomputable def repF:F2:=fun d1 d2 q=>match d1,d2 with
  | .lst xs,.int k=>xs.length * k.toNat≤1000∧0≤k∧k≤1000∧q (.lst (List.replicate k.toNat xs).flatten)
  | _,_=>False
theorem Reps.rep {F:Hp} {ds:List D} {vs:List V} (h:Reps K F ds vs):∀ n:Nat,Reps K F (List.replicate n ds).flatten (List.replicate n vs).flatten
  | 0=>by simp; exact Reps.nil
  | n + 1=>by rw [List.replicate_succ,List.replicate_succ,List.flatten_cons,List.flatten_cons]; exact h.append (Reps.rep h n)
noncomputable def eqD:D→D→Option Bool
  | .int i,.int j=>some (decide (i=j))
  | .bl i,.bl j=>some (decide (i=j))
  | .str i,.str j=>some (decide (i=j))
  | .non,.non=>some true
  | .non,.int _=>some false | .non,.bl _=>some false | .non,.str _=>some false
  | .int _,.non=>some false | .bl _,.non=>some false | .str _,.non=>some false
  | .int _,.str _=>some false | .bl _,.str _=>some false
  | .str _,.int _=>some false | .str _,.bl _=>some false
  | _,_=>none
noncomputable def eqF:F2:=fun d1 d2 q=>match eqD d1 d2 with | some b=>q (.bl b) | none=>False
noncomputable def neF:F2:=fun d1 d2 q=>match eqD d1 d2 with | some b=>q (.bl (!b)) | none=>False
theorem eqD_v {F:Hp} {d1 d2:D} {x y:V} {b:Bool} (h:eqD d1 d2=some b) (r1:Rep K F d1 x) (r2:Rep K F d2 y):scal x y=true∧decide (x=y)=b:=by
  unfold eqD at h
  split at h <;> first | cases h | skip
  all_goals
    first
      | (rw [rep_int.mp r1,rep_int.mp r2]; exact ⟨rfl,by simp⟩)
      | (rw [rep_bl.mp r1,rep_bl.mp r2]; exact ⟨rfl,by simp⟩)
      | (rw [rep_str.mp r1,rep_str.mp r2]; exact ⟨rfl,by simp⟩)
      | (rw [rep_non.mp r1,rep_non.mp r2]; exact ⟨rfl,by simp⟩)
      | (rw [rep_non.mp r1,rep_int.mp r2]; exact ⟨rfl,by simp⟩)
      | (rw [rep_non.mp r1,rep_bl.mp r2]; exact ⟨rfl,by simp⟩)
      | (rw [rep_non.mp r1,rep_str.mp r2]; exact ⟨rfl,by simp⟩)
      | (rw [rep_int.mp r1,rep_non.mp r2]; exact ⟨rfl,by simp⟩)
      | (rw [rep_bl.mp r1,rep_non.mp r2]; exact ⟨rfl,by simp⟩)
      | (rw [rep_str.mp r1,rep_non.mp r2]; exact ⟨rfl,by simp⟩)
      | (rw [rep_int.mp r1,rep_str.mp r2]; exact ⟨rfl,by simp⟩)
      | (rw [rep_bl.mp r1,rep_str.mp r2]; exact ⟨rfl,by simp⟩)
      | (rw [rep_str.mp r1,rep_int.mp r2]; exact ⟨rfl,by simp⟩)
      | (rw [rep_str.mp r1,rep_bl.mp r2]; exact ⟨rfl,by simp⟩)
theorem d_eq:OpD K rEq eqF:=by
  intro Y F H σ ρ δ x y d1 d2 Q1 q I r1 r2 h' k
  unfold eqF at h'
  split at h'
  · rename_i b e
    obtain ⟨s,e2⟩:=eqD_v e r1 r2
    exact ⟨s,by rw [e2]; exact k _ _ F H I (Same.refl F) (rep_bl.mpr rfl) h'⟩
  · exact h'.elim
theorem d_ne:OpD K rNe neF:=by
  intro Y F H σ ρ δ x y d1 d2 Q1 q I r1 r2 h' k
  unfold neF at h'
  split at h'
  · rename_i b e
    obtain ⟨s,e2⟩:=eqD_v e r1 r2
    exact ⟨s,by rw [e2]; exact k _ _ F H I (Same.refl F) (rep_bl.mpr rfl) h'⟩
  · exact h'.elim
noncomputable def isNonD:D→Bool | .non=>true | _=>false
noncomputable def isNF:F2:=fun d1 d2 q=>match d2 with | .non=>q (.bl (isNonD d1)) | _=>False
noncomputable def notNF:F2:=fun d1 d2 q=>match d2 with | .non=>q (.bl (!isNonD d1)) | _=>False
noncomputable def isBF:F2:=fun d1 d2 q=>match d1,d2 with | .bl i,.bl j=>q (.bl (i == j)) | _,_=>False
noncomputable def notBF:F2:=fun d1 d2 q=>match d1,d2 with | .bl i,.bl j=>q (.bl (!(i == j))) | _,_=>False
noncomputable def seqD:D→Option (List D)
  | .lst xs=>some xs | .tup xs=>some xs | .scr xs=>some xs | _=>none
noncomputable def ixF:F2:=fun d1 d2 q=>match seqD d1,d2 with
  | some xs,.int i=>match atI xs i with | some d=>q d | none=>False
  | _,_=>False
theorem seqD_v {F H:Hp} {d:D} {xs:List D} {x:V} (s:Same F H) (h:seqD d=some xs) (r:Rep K F d x):∃ a vs,x=.ref a∧(SqL K H a vs∨SqT K H a vs)∧Reps K F xs vs:=by
  cases d with
  | lst ys=>cases h; obtain ⟨a,vs,rfl,e,z⟩:=rep_lst.mp r; exact ⟨a,vs,rfl,.inl (SqL.of (s _ _ e)),z⟩
  | tup ys=>cases h; obtain ⟨a,vs,rfl,e,z⟩:=rep_tup.mp r; exact ⟨a,vs,rfl,.inr (SqT.of (s _ _ e)),z⟩
  | scr ys=>cases h; obtain ⟨a,vs,rfl,e,z⟩:=rep_scr.mp r; exact ⟨a,vs,rfl,.inl (s.sqL e),z⟩
  | _=>cases h
theorem d_ix:OpD K (rIx K) ixF:=by
  intro Y F H σ ρ δ x y d1 d2 Q1 q I r1 r2 h' k
  unfold ixF at h'
  split at h'
  · rename_i xs i e
    split at h'
    · rename_i d ed
      obtain ⟨a,vs,rfl,sq,z⟩:=seqD_v I.sub e r1
      obtain ⟨v,ev,rv⟩:=z.atI ed
      have fin:=k d v F H I (Same.refl F) rv h'
      rcases sq with sq | sq
      · exact .inl ⟨a,vs,i,v,rfl,rep_int.mp r2,sq,ev,fin⟩
      · exact .inr (.inl ⟨a,vs,i,v,rfl,rep_int.mp r2,sq,ev,fin⟩)
    · exact h'.elim
  · exact h'.elim
noncomputable def flatD:D→Bool | .non=>true | .bl _=>true | .int _=>true | .str _=>true | _=>false
noncomputable def toV:D→V | .bl b=>.bl b | .int i=>.int i | .str x=>.str x | _=>.non
theorem flat_v {F:Hp} {d:D} {x:V} (h:flatD d=true) (r:Rep K F d x):x=toV d∧flatV x=true:=by
  cases d with
  | non=>rw [rep_non.mp r]; exact ⟨rfl,rfl⟩
  | bl b=>rw [rep_bl.mp r]; exact ⟨rfl,rfl⟩
  | int b=>rw [rep_int.mp r]; exact ⟨rfl,rfl⟩
  | str b=>rw [rep_str.mp r]; exact ⟨rfl,rfl⟩
  | _=>cases h
theorem flats_v {F:Hp}:∀ {ds:List D} {xs:List V},ds.all flatD=true→Reps K F ds xs→xs=ds.map toV∧xs.all flatV=true
  | [],xs,_,r=>by rw [reps_nil.mp r]; exact ⟨rfl,rfl⟩
  | d :: ds,xs,h,r=>by
    obtain ⟨v,vs,rfl,r1,r2⟩:=reps_cons.mp r
    rw [List.all_cons,Bool.and_eq_true] at h
    obtain ⟨e1,e2⟩:=flat_v h.1 r1
    obtain ⟨e3,e4⟩:=flats_v h.2 r2
    rw [List.all_cons,e2,e4,List.map_cons,← e1,← e3]
    exact ⟨rfl,rfl⟩
noncomputable def inD (d:D) (xs:List D):Bool:=xs.any fun e=>eqV (toV e) (toV d)
noncomputable def inF:F2:=fun d1 d2 q=>match seqD d2 with | some xs=>(flatD d1 && xs.all flatD)=true∧q (.bl (inD d1 xs)) | none=>False
noncomputable def notInF:F2:=fun d1 d2 q=>match seqD d2 with | some xs=>(flatD d1 && xs.all flatD)=true∧q (.bl (!inD d1 xs)) | none=>False
theorem inV_map (d:D) (xs:List D):inV (toV d) (xs.map toV)=inD d xs:=by unfold inV inD; rw [List.any_map]; rfl
theorem d_in:OpD K (rIn K false) inF:=by
  intro Y F H σ ρ δ x y d1 d2 Q1 q I r1 r2 h' k
  unfold inF at h'
  split at h'
  · rename_i xs e
    obtain ⟨h1,h2⟩:=h'
    rw [Bool.and_eq_true] at h1
    obtain ⟨a,vs,rfl,sq,z⟩:=seqD_v I.sub e r2
    obtain ⟨e1,e2⟩:=flat_v h1.1 r1
    obtain ⟨e3,e4⟩:=flats_v h1.2 z
    refine ⟨a,vs,rfl,sq,e2,e4,?_⟩
    rw [e1,e3,inV_map]
    exact k _ _ F H I (Same.refl F) (rep_bl.mpr rfl) h2
  · exact h'.elim
theorem d_notIn:OpD K (rIn K true) notInF:=by
  intro Y F H σ ρ δ x y d1 d2 Q1 q I r1 r2 h' k
  unfold notInF at h'
  split at h'
  · rename_i xs e
    obtain ⟨h1,h2⟩:=h'
    rw [Bool.and_eq_true] at h1
    obtain ⟨a,vs,rfl,sq,z⟩:=seqD_v I.sub e r2
    obtain ⟨e1,e2⟩:=flat_v h1.1 r1
    obtain ⟨e3,e4⟩:=flats_v h1.2 z
    refine ⟨a,vs,rfl,sq,e2,e4,?_⟩
    rw [e1,e3,inV_map]
    exact k _ _ F H I (Same.refl F) (rep_bl.mpr rfl) h2
  · exact h'.elim
noncomputable def lenF:F1:=fun ds q=>match ds with | [d]=>(match seqD d with | some xs=>q (.int (xs.length:Nat)) | none=>False) | _=>False
theorem reps1 {F:Hp} {d:D} {vs:List V} (r:Reps K F [d] vs):∃ v,vs=[v]∧Rep K F d v:=by
  obtain ⟨v,l,rfl,r1,r2⟩:=reps_cons.mp r
  rw [reps_nil.mp r2]; exact ⟨v,rfl,r1⟩
theorem reps2 {F:Hp} {d e:D} {vs:List V} (r:Reps K F [d,e] vs):∃ v u,vs=[v,u]∧Rep K F d v∧Rep K F e u:=by
  obtain ⟨v,l,rfl,r1,r2⟩:=reps_cons.mp r
  obtain ⟨u,rfl,r3⟩:=reps1 r2
  exact ⟨v,u,rfl,r1,r3⟩
noncomputable def absF:F1:=fun ds q=>match ds with | [.int i]=>q (.int (if i < 0 then -i else i)) | _=>False
theorem d_abs:CallD K (fun xs H Q=>∃ i,xs=[.int i]∧Q (.int (if i < 0 then -i else i)) H) absF:=by
  intro Y F H σ ρ δ vs ds Q1 q I r h' k
  unfold absF at h'
  split at h'
  · obtain ⟨v,rfl,r1⟩:=reps1 r
    rw [rep_int.mp r1]
    exact ⟨_,rfl,k _ _ F H I (Same.refl F) (rep_int.mpr rfl) h'⟩
  · exact h'.elim
noncomputable def minF:F1:=fun ds q=>match ds with | [.int i,.int j]=>q (.int (if j < i then j else i)) | _=>False
noncomputable def maxF:F1:=fun ds q=>match ds with | [.int i,.int j]=>q (.int (if j > i then j else i)) | _=>False
noncomputable def intF:F1:=fun ds q=>match ds with | [.int i]=>q (.int i) | [.bl k]=>q (.int (if k then 1 else 0)) | _=>False
theorem d_int:CallD K (fun xs H Q=>(∃ i,xs=[.int i]∧Q (.int i) H)∨∃ k,xs=[.bl k]∧Q (.int (if k then 1 else 0)) H) intF:=by
  intro Y F H σ ρ δ vs ds Q1 q I r h' k
  unfold intF at h'
  split at h'
  · obtain ⟨v,rfl,r1⟩:=reps1 r
    rw [rep_int.mp r1]
    exact .inl ⟨_,rfl,k _ _ F H I (Same.refl F) (rep_int.mpr rfl) h'⟩
  · obtain ⟨v,rfl,r1⟩:=reps1 r
    rw [rep_bl.mp r1]
    exact .inr ⟨_,rfl,k _ _ F H I (Same.refl F) (rep_int.mpr rfl) h'⟩
  · exact h'.elim
noncomputable def listF:F1:=fun ds q=>match ds with | [d]=>(match seqD d with | some xs=>q (.lst xs) | none=>False) | _=>False
theorem d_list:CallD K (fun xs H Q=>∃ p ys,xs=[.ref p]∧(SqL K H p ys∨SqT K H p ys)∧∀ l,H l=none→Q (.ref l) (upd H l (.lst ys))) listF:=by
  intro Y F H σ ρ δ vs ds Q1 q I r h' k
  unfold listF at h'
  split at h'
  · split at h'
    · rename_i xs e
      obtain ⟨v,rfl,r1⟩:=reps1 r
      obtain ⟨a,us,rfl,sq,z⟩:=seqD_v I.sub e r1
      exact ⟨a,us,rfl,sq,fun l hl=>k _ _ _ _ (I.alloc hl) (I.grow hl) (I.lst hl z) h'⟩
    · exact h'.elim
  · exact h'.elim
noncomputable def tupleF:F1:=fun ds q=>match ds with | [.lst xs]=>q (.tup xs) | [.scr xs]=>q (.tup xs) | [.tup xs]=>q (.tup xs) | _=>False
theorem d_tuple:CallD K (fun xs H Q=>∃ p ys,xs=[.ref p]∧((SqL K H p ys∧∀ l,H l=none→Q (.ref l) (upd H l (.tup ys)))∨(SqT K H p ys∧Q (.ref p) H))) tupleF:=by
  intro Y F H σ ρ δ vs ds Q1 q I r h' k
  unfold tupleF at h'
  split at h'
  · obtain ⟨v,rfl,r1⟩:=reps1 r
    obtain ⟨a,us,rfl,e,z⟩:=rep_lst.mp r1
    exact ⟨a,us,rfl,.inl ⟨SqL.of (I.sub _ _ e),fun l hl=>k _ _ _ _ (I.alloc hl) (I.grow hl) (I.tup hl z) h'⟩⟩
  · obtain ⟨v,rfl,r1⟩:=reps1 r
    obtain ⟨a,us,rfl,e,z⟩:=rep_scr.mp r1
    exact ⟨a,us,rfl,.inl ⟨I.sub.sqL e,fun l hl=>k _ _ _ _ (I.alloc hl) (I.grow hl) (I.tup hl z) h'⟩⟩
  · obtain ⟨v,rfl,r1⟩:=reps1 r
    obtain ⟨a,us,rfl,e,z⟩:=rep_tup.mp r1
    exact ⟨a,us,rfl,.inr ⟨SqT.of (I.sub _ _ e),k _ _ F H I (Same.refl F) (rep_tup.mpr ⟨a,us,rfl,e,z⟩) h'⟩⟩
  · exact h'.elim
noncomputable def blsD:List D→Option (List Bool)
  | []=>some []
  | .bl b :: r=>(blsD r).map (b :: ·)
  | _=>none
theorem bls_v {F:Hp}:∀ {ds:List D} {bs:List Bool} {vs:List V},blsD ds=some bs→Reps K F ds vs→vs=bs.map V.bl
  | [],bs,vs,h,r=>by cases h; rw [reps_nil.mp r]; rfl
  | d :: ds,bs,vs,h,r=>by
    obtain ⟨v,l,rfl,r1,r2⟩:=reps_cons.mp r
    cases d with
    | bl b =>
      unfold blsD at h
      obtain ⟨cs,e1,rfl⟩:=Option.map_eq_some_iff.mp h
      rw [rep_bl.mp r1,bls_v e1 r2]; rfl
    | _=>cases h
noncomputable def allF:F1:=fun ds q=>match ds with | [.lst xs]=>(match blsD xs with | some bs=>q (.bl (bs.all id)) | none=>False) | _=>False
theorem d_all:CallD K (rAll K) allF:=by
  intro Y F H σ ρ δ vs ds Q1 q I r h' k
  unfold allF at h'
  split at h'
  · split at h'
    · rename_i xs _ bs e
      obtain ⟨v,rfl,r1⟩:=reps1 r
      obtain ⟨a,us,rfl,e2,z⟩:=rep_lst.mp r1
      exact ⟨a,bs,rfl,SqL.of (by rw [← bls_v e z]; exact I.sub _ _ e2),k _ _ F H I (Same.refl F) (rep_bl.mpr rfl) h'⟩
    · exact h'.elim
  · exact h'.elim
structure ClsI (K:Frag) (C:Addr):Prop where
  cl:Cls K C
  ha:PySem.W.findIn K (.ref C) "__class__" = some (some (.builtin "object.__class__"))
  hn:PySem.W.specialIn K (.builtin "object.__class__") "__get__" = some (some (.builtin "getset_descriptor.__get__"))
  htk:PySem.W.takesIn K (.builtin "object.__class__")=some true
  hm:PySem.W.mroIn K C (.type "object")=some true
noncomputable def tyD:D→Value
  | .non=>.type "NoneType" | .bl _=>.type "bool" | .int _=>.type "int" | .str _=>.type "str" | .lst _=>.type "list" | .scr _=>.type "list" | .tup _=>.type "tuple" | .dic _=>.type "dict"
  | .ins C _=>.ref C | .exc C _=>.ref C | _=>.none
noncomputable def TyD (K:Frag):D→Prop
  | .ins C _=>ClsI K C | .exc C _=>XC K C | .ref _=>False | .ty _=>False | .scr _=>False | .dwk _=>False | _=>True
theorem tyD_v {F H:Hp} {d:D} {x:V} (s:Same F H) (t:TyD K d) (r:Rep K F d x):TyX K H x (tyD d):=by
  cases d with
  | non=>rw [rep_non.mp r]; exact .of .non
  | bl b=>rw [rep_bl.mp r]; exact .of (.bl b)
  | int b=>rw [rep_int.mp r]; exact .of (.int b)
  | str b=>rw [rep_str.mp r]; exact .of (.str b)
  | lst b=>obtain ⟨a,vs,rfl,e,_⟩:=rep_lst.mp r; exact .of (.lst (s _ _ e))
  | tup b=>obtain ⟨a,vs,rfl,e,_⟩:=rep_tup.mp r; exact .of (.tup (s _ _ e))
  | scr b=>exact t.elim
  | dic b=>obtain ⟨a,vs,rfl,e,_⟩:=rep_dic.mp r; exact .of (.dK (s _ _ e))
  | dwk b=>exact t.elim
  | ins C b=>obtain ⟨a,dx,vs,rfl,e,_⟩:=rep_ins.mp r; exact .of (.ins (s _ _ e) t.cl t.ha t.hn t.htk t.hm)
  | exc C b =>
    obtain ⟨a,fr,rfl,h⟩:=rep_exc.mp r
    rcases h with ⟨_,e⟩ | ⟨d,us,e,e2,_⟩
    · exact .exc0 (s _ _ e) t
    · exact .exc (s _ _ e) (s _ _ e2) t
  | ref a=>exact t.elim
  | ty a=>exact t.elim
noncomputable def tysD:List D→Option (List String)
  | []=>some []
  | .ty n :: r=>(tysD r).map (n :: ·)
  | _=>none
theorem tys_v {F:Hp}:∀ {ds:List D} {ns:List String} {vs:List V},tysD ds=some ns→Reps K F ds vs→vs=ns.map V.ty
  | [],bs,vs,h,r=>by cases h; rw [reps_nil.mp r]; rfl
  | d :: ds,bs,vs,h,r=>by
    obtain ⟨v,l,rfl,r1,r2⟩:=reps_cons.mp r
    cases d with
    | ty b =>
      unfold tysD at h
      obtain ⟨cs,e1,rfl⟩:=Option.map_eq_some_iff.mp h
      rw [rep_ty.mp r1,tys_v e1 r2]; rfl
    | _=>cases h
noncomputable def instQ (K:Frag) (d c:D):Option Bool:=match c with
  | .ty n=>PySem.W.kitOne K (tyD d) (.type n)
  | .ref C=>PySem.W.kitOne K (tyD d) (.ref C)
  | .tup cs=>match tysD cs with | some ns=>PySem.W.kitAny K (tyD d) (ns.map Value.type) | none=>none
  | _=>none
noncomputable def instF (K:Frag):F1:=fun ds q=>match ds with | [d,c]=>TyD K d∧(match instQ K d c with | some b=>q (.bl b) | none=>False) | _=>False
theorem d_inst:CallD K (rInst K) (instF K):=by
  intro Y F H σ ρ δ vs ds Q1 q I r h' k
  unfold instF at h'
  split at h'
  · rename_i d c
    obtain ⟨ht,h'⟩:=h'
    obtain ⟨v,u,rfl,r1,r2⟩:=reps2 r
    split at h'
    · rename_i b e
      refine ⟨v,u,_,b,rfl,tyD_v I.sub ht r1,?_,k _ _ F H I (Same.refl F) (rep_bl.mpr rfl) h'⟩
      unfold instQ at e
      split at e
      · exact .inl ⟨_,rep_ty.mp r2,e⟩
      · exact .inr (.inl ⟨_,rep_ref.mp r2,e⟩)
      · split at e
        · rename_i ns en
          obtain ⟨a,us,rfl,e2,z⟩:=rep_tup.mp r2
          exact .inr (.inr ⟨a,ns,rfl,by rw [← tys_v en z]; exact I.sub _ _ e2,e⟩)
        · cases e
      · cases e
    · exact h'.elim
  · exact h'.elim
end
end DL
set_option Elab.async false
set_option linter.all false
set_option maxRecDepth 100000
set_option maxHeartbeats 4000000
namespace DL
open PySem PySem.Spec L2
open PySem.W (XC)
structure End2 where
  nx:En→Dk→Prop
  rt:D→Dk→Prop
  xc:XK2
  bk:En→Dk→Prop:=fun _ _=>False
  ct:En→Dk→Prop:=fun _ _=>False
noncomputable abbrev TS2:=End2→En→Dk→Prop
structure ER (K:Frag) (Y:Y2) (W:XW) (F:Hp) (E2:End2) (E1:Ends):Prop where
  nx:∀ σ' F' H' ρ' δ',I2 K Y F' H' σ' ρ' δ'→Same F F'→E2.nx ρ' δ'→E1.nx σ' H'
  rt:∀ d v σ' F' H' ρ' δ',I2 K Y F' H' σ' ρ' δ'→Same F F'→Rep K F' d v→E2.rt d δ'→E1.rt v H'
  xc:XR K Y W F E2.xc
  bk:∀ σ' F' H' ρ' δ',I2 K Y F' H' σ' ρ' δ'→Same F F'→E2.bk ρ' δ'→E1.bk σ' H'
  ct:∀ σ' F' H' ρ' δ',I2 K Y F' H' σ' ρ' δ'→Same F F'→E2.ct ρ' δ'→E1.ct σ' H'
theorem ER.mono {K:Frag} {Y:Y2} {W:XW} {F F1:Hp} {E2:End2} {E1:Ends} (h:ER K Y W F E2 E1) (s:Same F F1):ER K Y W F1 E2 E1 :=
  ⟨fun σ' F' H' ρ' δ' I s'=>h.nx σ' F' H' ρ' δ' I (s.trans s'),fun d v σ' F' H' ρ' δ' I s'=>h.rt d v σ' F' H' ρ' δ' I (s.trans s'),h.xc.mono s,fun σ' F' H' ρ' δ' I s'=>h.bk σ' F' H' ρ' δ' I (s.trans s'),fun σ' F' H' ρ' δ' I s'=>h.ct σ' F' H' ρ' δ' I (s.trans s')⟩
noncomputable def upS (K:Frag) (Y:Y2) (W:XW) (t:TS2):TS:=fun E1 σ H=>∃ F ρ δ E2,I2 K Y F H σ ρ δ∧t E2 ρ δ∧ER K Y W F E2 E1
structure PS2 (X:Cx) (Y:Y2) (W:XW) (st:Stmt) (t:TS2):Prop where
  go:PS X st (upS X.K Y W t)
structure PSs2 (X:Cx) (Y:Y2) (W:XW) (st:List Stmt) (t:TS2):Prop where
  go:PSs X st (upS X.K Y W t)
theorem ps_mono {X:Cx} {st:Stmt} {t t':TS} (h:PS X st t) (k:∀ D σ H,t' D σ H→t D σ H):PS X st t':=fun pins s σ H D I q=>h pins s σ H D I (k D σ H q)
theorem pss_mono {X:Cx} {st:List Stmt} {t t':TS} (h:PSs X st t) (k:∀ D σ H,t' D σ H→t D σ H):PSs X st t':=fun pins s σ H D I q=>h pins s σ H D I (k D σ H q)
theorem ps2 {X:Cx} {Y:Y2} {W:XW} {st:Stmt} {t:TS} {u:TS2} (h:PS X st t) (k:∀ D σ H,upS X.K Y W u D σ H→t D σ H):PS2 X Y W st u:=⟨ps_mono h k⟩
theorem pss2 {X:Cx} {Y:Y2} {W:XW} {st:List Stmt} {t:TS} {u:TS2} (h:PSs X st t) (k:∀ D σ H,upS X.K Y W u D σ H→t D σ H):PSs2 X Y W st u:=⟨pss_mono h k⟩
section
variable {X:Cx} {Y:Y2} {W:XW} {st:Stmt} {rest:List Stmt} {t u:TS2} {e:Expr} {te:TE2} {pos:Pos}
noncomputable def t2Next:TS2:=fun E ρ δ=>E.nx ρ δ
noncomputable def t2Seq (t u:TS2):TS2:=fun E ρ δ=>t { E with nx:=u E } ρ δ
theorem ss_nil:PSs2 X Y W [] t2Next:=pss2 pss_nil fun E1 σ H ⟨F,ρ,δ,E2,I,h,er⟩=>er.nx σ F H ρ δ I (Same.refl F) h
theorem ss_cons (h1:PS2 X Y W st t) (h2:PSs2 X Y W rest u):PSs2 X Y W (st :: rest) (t2Seq t u):=pss2 (pss_cons h1.go h2.go) fun E1 σ H ⟨F,ρ,δ,E2,I,h,er⟩ =>
  ⟨F,ρ,δ,{ E2 with nx:=u E2 },I,h,⟨fun σ' F' H' ρ' δ' I' s' h'=>⟨F',ρ',δ',E2,I',h',er.mono s'⟩,er.rt,er.xc,er.bk,er.ct⟩⟩
theorem ss_one (h1:PS2 X Y W st t):PSs2 X Y W [st] t:=⟨pss_one h1.go⟩
noncomputable def t2Break:TS2:=fun E ρ δ=>E.bk ρ δ
noncomputable def t2Cont:TS2:=fun E ρ δ=>E.ct ρ δ
noncomputable def t2Drop (te:TE2):TS2:=fun E ρ δ=>te E.xc ρ δ fun _ ρ1 δ1=>E.nx ρ1 δ1
theorem s2_expr (he:PE2 X Y W e te) (hs:swapsWith e none pos.line X.env=pure false:=by rfl):PS2 X Y W (.Expr e pos) (t2Drop te):=ps2 (ps_expr he.go hs) fun E1 σ H ⟨F,ρ,δ,E2,I,h,er⟩ =>
  ⟨F,ρ,δ,E2.xc,_,I,h,fun d v F' H' ρ' δ' I' s' r' h'=>er.nx σ F' H' ρ' δ' I' s' h',er.xc⟩
noncomputable def t2Ret (te:TE2):TS2:=fun E ρ δ=>te E.xc ρ δ fun d _ δ1=>E.rt d δ1
theorem s2_ret (he:PE2 X Y W e te):PS2 X Y W (.Return (some e) pos) (t2Ret te):=ps2 (ps_ret he.go) fun E1 σ H ⟨F,ρ,δ,E2,I,h,er⟩ =>
  ⟨F,ρ,δ,E2.xc,_,I,h,fun d v F' H' ρ' δ' I' s' r' h'=>er.rt d v σ F' H' ρ' δ' I' s' r' h',er.xc⟩
noncomputable def t2RetN:TS2:=fun E _ δ=>E.rt .non δ
noncomputable def t2IfS (c:TT2) (t u:TS2):TS2:=fun E ρ δ=>c E.xc ρ δ fun b ρ1 δ1=>if b=true then t E ρ1 δ1 else u E ρ1 δ1
theorem s2_if {c:Expr} {a b:List Stmt} {tc:TT2} (hc:PT2 X Y W c tc) (ha:PSs2 X Y W a t) (hb:PSs2 X Y W b u):PS2 X Y W (.If c a b pos) (t2IfS tc t u):=ps2 (ps_if hc.go ha.go hb.go) fun E1 σ H ⟨F,ρ,δ,E2,I,h,er⟩=>by
  refine ⟨F,ρ,δ,E2.xc,_,I,h,fun b F' H' ρ' δ' I' s' h'=>?_,er.xc⟩
  cases b with
  | true=>rw [if_pos rfl] at h' ⊢; exact ⟨F',ρ',δ',E2,I',h',er.mono s'⟩
  | false=>rw [if_neg Bool.false_ne_true] at h' ⊢; exact ⟨F',ρ',δ',E2,I',h',er.mono s'⟩
variable {i:Nat} {x:Str} {pos' p:Pos}
noncomputable def t2Set (i:Nat) (te:TE2):TS2:=fun E ρ δ=>te E.xc ρ δ fun d ρ1 δ1=>E.nx (ρ1.set i (.val d)) δ1
theorem s2_set (i:Nat) (hN:X.N.Nodup) (he:PE2 X Y W e te) (hi:X.N[i]?=some x:=by rfl) (hx:Loc X.env.scope x:=by walk_at "v2") (hs:swapsWith e (some (.Name x pos')) pos.line X.env=pure false:=by rfl)
    (hf:X.fn x=true∨X.env.scope.names.lookup x=some .local:=by walk_at "v1"):PS2 X Y W (.Assign [.Name x pos'] e pos) (t2Set i te):=ps2 (ps_set (i:=i) hN hi hx he.go hs hf) fun E1 σ H ⟨F,ρ,δ,E2,I,h,er⟩ =>
  ⟨F,ρ,δ,E2.xc,_,I,h,fun d v F' H' ρ' δ' I' s' r' h'=>er.nx _ F' H' _ δ' (I'.put r') s' h',er.xc⟩
theorem I2.own {K:Frag} {F H:Hp} {σ:St} {ρ:En} {δ:Dk} {i:Nat} {p:Addr} {ds:List D} {vs:List V} (I:I2 K Y F H σ ρ δ) (h:H p=none) (r:Reps K F ds vs):I2 K Y F (upd H p (.lst vs)) (σ.set i (some (.ref p))) (ρ.set i (.own ds)) δ:=by
  have hF:F p=none:=I.sub.free h
  have h0:=I.ran.fresh h
  have key:∀ j a,ownAt (ρ.set i (.own ds)) (σ.set i (some (.ref p))) j a→(j=i∧a=p)∨(j≠i∧ownAt ρ σ j a):=fun j a o=>by
    by_cases z:j=i
    · subst z
      have:=o.2
      rw [List.getElem?_set] at this
      by_cases hl:j < σ.length
      · simp [hl] at this
        exact .inl ⟨rfl,this.symm⟩
      · simp [hl] at this
    · obtain ⟨o1,o2⟩:=o
      simp only [List.getElem?_set_ne (Ne.symm z)] at o1 o2
      exact .inr ⟨z,o1,o2⟩
  have addr:∀ j a,ownAt ρ σ j a→a≠p:=fun j a o=>by
    rcases o.1 with ⟨ds,q⟩ | ⟨C,fs,q⟩ | ⟨kvs,q⟩
    · obtain ⟨b,us,e,hb,_⟩:=I.env j _ q
      rw [o.2] at e
      cases e
      exact ne_of_none hb h
    · obtain ⟨b,dx,us,e,es0,hb,_⟩:=I.env j _ q
      rw [o.2] at e
      cases e
      exact ne_of_none hb h
    · obtain ⟨b,us,e,hb,_⟩:=I.env j _ q
      rw [o.2] at e
      cases e
      exact ne_of_none hb h
  refine ⟨⟨fun b u e=>?_,fun a es e=>?_,fun b u e f=>?_,I.ran.f0,I.ran.fnew,I.ran.dto⟩,fun j c e=>?_,by simp [I.len],fun a b c n o1 o2=>?_,fun j a o=>?_⟩
  · rw [upd_ne (ne_of_none e hF)]; exact I.sub _ _ e
  · obtain ⟨q,us,q2,r2⟩:=I.ran.dk a es e
    exact ⟨q,us,by rw [upd_ne (ne_of_none q2 h)]; exact q2,r2⟩
  · rw [upd_ne (ne_of_none (I.ran.keep b u e f) h)]; exact I.ran.keep b u e f
  · by_cases z:j=i
    · subst z
      rw [List.getElem?_set] at e
      by_cases hl:j < ρ.length
      · simp [hl] at e
        subst e
        refine ⟨p,vs,?_,upd_same,hF,h0,r⟩
        rw [List.getElem?_set]
        simp [I.len ▸ hl]
      · simp [hl] at e
    · rw [List.getElem?_set_ne (Ne.symm z)] at e ⊢
      have w:=I.env j c e
      cases c with
      | no=>trivial
      | val d=>exact w
      | own es =>
        obtain ⟨b,us,e1,h1,f1,g1,r1⟩:=w
        exact ⟨b,us,e1,by rw [upd_ne (ne_of_none h1 h)]; exact h1,f1,g1,r1⟩
      | obj C fs =>
        obtain ⟨b,dx,us,e1,es1,h1,h2,f1,f2,g1,g2,r1⟩:=w
        exact ⟨b,dx,us,e1,es1,by rw [upd_ne (ne_of_none h1 h)]; exact h1,by rw [upd_ne (ne_of_none h2 h)]; exact h2,f1,f2,g1,g2,r1⟩
      | ownD kvs =>
        obtain ⟨b,us,e1,h1,f1,g1,r1⟩:=w
        exact ⟨b,us,e1,by rw [upd_ne (ne_of_none h1 h)]; exact h1,f1,g1,r1⟩
  · rcases key a c o1 with ⟨z1,z2⟩ | ⟨z1,z2⟩
    · rcases key b c o2 with ⟨y1,y2⟩ | ⟨y1,y2⟩
      · exact n (z1.trans y1.symm)
      · exact addr b c y2 z2
    · rcases key b c o2 with ⟨y1,y2⟩ | ⟨y1,y2⟩
      · exact addr a c z2 y2
      · exact I.apart a b c n z2 y2
  · rcases key j a o with ⟨z1,z2⟩ | ⟨z1,z2⟩
    · intro b es eb w
      obtain ⟨_,us,q2,_⟩:=I.ran.dk b es eb
      rw [← w,z2,h] at q2
      cases q2
    · exact I.off j a z2
theorem I2.ownD {K:Frag} {F H:Hp} {σ:St} {ρ:En} {δ:Dk} {i:Nat} {p:Addr} {ds:List (Key×D)} {vs:List (Key×V)} (I:I2 K Y F H σ ρ δ) (h:H p=none) (r:RepK K F ds vs):I2 K Y F (upd H p (.dK vs)) (σ.set i (some (.ref p))) (ρ.set i (.ownD ds)) δ:=by
  have hF:F p=none:=I.sub.free h
  have h0:=I.ran.fresh h
  have key:∀ j a,ownAt (ρ.set i (.ownD ds)) (σ.set i (some (.ref p))) j a→(j=i∧a=p)∨(j≠i∧ownAt ρ σ j a):=fun j a o=>by
    by_cases z:j=i
    · subst z
      have:=o.2
      rw [List.getElem?_set] at this
      by_cases hl:j < σ.length
      · simp [hl] at this
        exact .inl ⟨rfl,this.symm⟩
      · simp [hl] at this
    · obtain ⟨o1,o2⟩:=o
      simp only [List.getElem?_set_ne (Ne.symm z)] at o1 o2
      exact .inr ⟨z,o1,o2⟩
  have addr:∀ j a,ownAt ρ σ j a→a≠p:=fun j a o=>by
    rcases o.1 with ⟨ds,q⟩ | ⟨C,fs,q⟩ | ⟨kvs,q⟩
    · obtain ⟨b,us,e,hb,_⟩:=I.env j _ q
      rw [o.2] at e
      cases e
      exact ne_of_none hb h
    · obtain ⟨b,dx,us,e,es0,hb,_⟩:=I.env j _ q
      rw [o.2] at e
      cases e
      exact ne_of_none hb h
    · obtain ⟨b,us,e,hb,_⟩:=I.env j _ q
      rw [o.2] at e
      cases e
      exact ne_of_none hb h
  refine ⟨⟨fun b u e=>?_,fun a es e=>?_,fun b u e f=>?_,I.ran.f0,I.ran.fnew,I.ran.dto⟩,fun j c e=>?_,by simp [I.len],fun a b c n o1 o2=>?_,fun j a o=>?_⟩
  · rw [upd_ne (ne_of_none e hF)]; exact I.sub _ _ e
  · obtain ⟨q,us,q2,r2⟩:=I.ran.dk a es e
    exact ⟨q,us,by rw [upd_ne (ne_of_none q2 h)]; exact q2,r2⟩
  · rw [upd_ne (ne_of_none (I.ran.keep b u e f) h)]; exact I.ran.keep b u e f
  · by_cases z:j=i
    · subst z
      rw [List.getElem?_set] at e
      by_cases hl:j < ρ.length
      · simp [hl] at e
        subst e
        refine ⟨p,vs,?_,upd_same,hF,h0,r⟩
        rw [List.getElem?_set]
        simp [I.len ▸ hl]
      · simp [hl] at e
    · rw [List.getElem?_set_ne (Ne.symm z)] at e ⊢
      have w:=I.env j c e
      cases c with
      | no=>trivial
      | val d=>exact w
      | own es =>
        obtain ⟨b,us,e1,h1,f1,g1,r1⟩:=w
        exact ⟨b,us,e1,by rw [upd_ne (ne_of_none h1 h)]; exact h1,f1,g1,r1⟩
      | obj C fs =>
        obtain ⟨b,dx,us,e1,es1,h1,h2,f1,f2,g1,g2,r1⟩:=w
        exact ⟨b,dx,us,e1,es1,by rw [upd_ne (ne_of_none h1 h)]; exact h1,by rw [upd_ne (ne_of_none h2 h)]; exact h2,f1,f2,g1,g2,r1⟩
      | ownD kvs =>
        obtain ⟨b,us,e1,h1,f1,g1,r1⟩:=w
        exact ⟨b,us,e1,by rw [upd_ne (ne_of_none h1 h)]; exact h1,f1,g1,r1⟩
  · rcases key a c o1 with ⟨z1,z2⟩ | ⟨z1,z2⟩
    · rcases key b c o2 with ⟨y1,y2⟩ | ⟨y1,y2⟩
      · exact n (z1.trans y1.symm)
      · exact addr b c y2 z2
    · rcases key b c o2 with ⟨y1,y2⟩ | ⟨y1,y2⟩
      · exact addr a c z2 y2
      · exact I.apart a b c n z2 y2
  · rcases key j a o with ⟨z1,z2⟩ | ⟨z1,z2⟩
    · intro b es eb w
      obtain ⟨_,us,q2,_⟩:=I.ran.dk b es eb
      rw [← w,z2,h] at q2
      cases q2
    · exact I.off j a z2
noncomputable def t2Own (i:Nat) (ta:TA2):TS2:=fun E ρ δ=>ta E.xc ρ δ fun ds ρ1 δ1=>ds.length≤1000∧E.nx (ρ1.set i (.own ds)) δ1
noncomputable def t2OwnL (i:Nat) (ta:TA2):TS2:=fun E ρ δ=>ta E.xc ρ δ fun ds ρ1 δ1=>match ds with | [d]=>(match seqD d with | some xs=>E.nx (ρ1.set i (.own xs)) δ1 | none=>False) | _=>False
noncomputable def hasV (ρ:En) (i:Nat):Bool:=match ρ[i]? with | some .no=>false | none=>false | _=>true
theorem has_v {K:Frag} {F H:Hp} {σ:St} {ρ:En} {δ:Dk} (I:I2 K Y F H σ ρ δ) (h:hasV ρ i=true):∃ v,σ[i]?=some (some v):=by
  unfold hasV at h
  split at h
  · cases h
  · cases h
  · rename_i o n1 n2
    cases e:ρ[i]? with
    | none=>exact absurd e n2
    | some c =>
      have w:=I.env i c e
      cases c with
      | no=>exact absurd e n1
      | val d=>obtain ⟨v,q,_⟩:=w; exact ⟨v,join_some q⟩
      | own ds=>obtain ⟨a,vs,q,_⟩:=w; exact ⟨_,join_some q⟩
      | obj C fs=>obtain ⟨a,dx,vs,q,_⟩:=w; exact ⟨_,join_some q⟩
      | ownD kvs=>obtain ⟨a,vs,q,_⟩:=w; exact ⟨_,join_some q⟩
noncomputable def seqV (ρ:En) (δ:Dk) (i:Nat):Option (List D):=match ρ[i]? with
  | some (.own ds)=>some ds
  | some (.val (.ref a))=>(match δ with | some (b,ds)=>if a=b then some ds else none | none=>none)
  | some (.val d)=>seqD d
  | _=>none
theorem seq_v {K:Frag} {F H:Hp} {σ:St} {ρ:En} {δ:Dk} {ds:List D} (I:I2 K Y F H σ ρ δ) (h:seqV ρ δ i=some ds):∃ a vs,σ[i]?=some (some (.ref a))∧(SqL K H a vs∨SqT K H a vs)∧Reps K F ds vs:=by
  unfold seqV at h
  split at h
  · rename_i es e
    cases h
    obtain ⟨a,vs,q,hh,_,_,r⟩:=I.env i _ e
    exact ⟨a,vs,join_some q,.inl (SqL.of hh),r⟩
  · rename_i a e
    split at h
    · rename_i b es
      by_cases z:a=b
      · subst z
        simp at h
        subst h
        obtain ⟨u,q,r⟩:=I.env i _ e
        rw [rep_ref.mp r] at q
        obtain ⟨_,vs,hh,rr⟩:=I.ran.dk a es rfl
        exact ⟨a,vs,join_some q,.inl (SqL.of hh),rr⟩
      · simp [z] at h
    · cases h
  · rename_i d _ e
    obtain ⟨u,q,r⟩:=I.env i _ e
    obtain ⟨a,vs,rfl,sq,z⟩:=seqD_v I.sub h r
    exact ⟨a,vs,join_some q,sq,z⟩
  · cases h
variable {a b:Expr} {ta tb:TE2}
noncomputable def ixQ (o:Option (List D)) (d:D):Option D:=match o,d with | some xs,.int j=>atI xs j | _,_=>none
noncomputable def t2IxV (i:Nat) (tb:TE2):TE2:=fun x ρ δ q=>hasV ρ i=true∧tb x ρ δ fun d ρ1 δ1=>match ixQ (seqV ρ1 δ1 i) d with | some e=>q e ρ1 δ1 | none=>False
theorem e2_ixv (i:Nat) (hb:PE2 X Y W b tb) (hN:X.N[i]?=some x:=by rfl) (hv:Vis X.env.scope x:=by walk_at "v3") (hd:(x == ("__debug__" : Str))=false:=by decide)
    (hcd:(x == ("__classdict__" : Str))=false:=by decide) (hs:PlainIx b:=by exact fun _ _=>rfl):PE2 X Y W (.Subscript (.Name x p) b pos) (t2IxV i tb):=pe2 (pe_ix ix_seq (pe_var hN hv hd hcd) hb.go hs) fun σ H Q ⟨F,ρ,δ,x,q,I,h,k,kx⟩=>by
  obtain ⟨v,ev⟩:=has_v I h.1
  refine ⟨v,ev,F,ρ,δ,x,_,I,h.2,fun d w F' H' ρ' δ' I' s' r' h'=>?_,kx⟩
  split at h'
  · rename_i e ee
    unfold ixQ at ee
    split at ee
    · rename_i xs j es
      obtain ⟨a,vs,ea,sq,z⟩:=seq_v I' es
      rw [ev] at ea
      cases ea
      obtain ⟨v2,e2,r2⟩:=z.atI ee
      have fin:=k e v2 F' H' ρ' δ' I' s' r2 h'
      rcases sq with sq | sq
      · exact .inl ⟨a,vs,j,v2,rfl,rep_int.mp r',sq,e2,fin⟩
      · exact .inr (.inl ⟨a,vs,j,v2,rfl,rep_int.mp r',sq,e2,fin⟩)
    · cases ee
  · exact h'.elim
noncomputable def t2LenV (i:Nat):TE2:=fun x ρ δ q=>match seqV ρ δ i with | some xs=>q (.int (xs.length:Nat)) ρ δ | none=>False
theorem e2_lenv (i:Nat) {np:Pos} (hm:X.mg "len" = none) (hg:Gl X "len" := by rfl) (hN:X.N[i]?=some x:=by rfl) (hv:Vis X.env.scope x:=by walk_at "v3") (hd:(x == ("__debug__" : Str))=false:=by decide)
    (hcd:(x == ("__classdict__" : Str))=false:=by decide) (hst:starEach [.Name x p] X.env=[(false,eval (.Name x p) X.env)]:=by rfl) (hpl:(backTo pos (starEach [] X.env)).any (·.1)=false:=by exact star_any rfl) :
    PE2 X Y W (.Call (.Name "len" np) [.Name x p] [] pos) (t2LenV i):=pe2 (pe_callB call_len_seq hg hm bt_len (pa_cons (pe_var hN hv hd hcd) pa_nil hst) (by decide) (by decide) hst hpl) fun σ H Q ⟨F,ρ,δ,x,q,I,h,k,kx⟩=>by
  unfold t2LenV at h
  split at h
  · rename_i xs e
    obtain ⟨a,vs,ea,sq,z⟩:=seq_v I e
    exact ⟨_,ea,a,vs,rfl,sq,by rw [z.length]; exact k _ _ F H ρ δ I (Same.refl F) (rep_int.mpr rfl) h⟩
  · exact h.elim
noncomputable def mutV (ρ:En) (δ:Dk) (i:Nat):Option (List D×(List D→En×Dk)):=match ρ[i]? with
  | some (.own ds)=>some (ds,fun es=>(ρ.set i (.own es),δ))
  | some (.val (.ref a))=>(match δ with | some (b,ds)=>if a=b then some (ds,fun es=>(ρ,some (b,es))) else none | none=>none)
  | _=>none
theorem mut_v {K:Frag} {F H:Hp} {σ:St} {ρ:En} {δ:Dk} {ds:List D} {put:List D→En×Dk} (I:I2 K Y F H σ ρ δ) (h:mutV ρ δ i=some (ds,put)) :
    ∃ a vs,σ[i]?=some (some (.ref a))∧H a=some (.lst vs)∧Reps K F ds vs∧∀ es us,Reps K F es us→I2 K Y F (upd H a (.lst us)) σ (put es).1 (put es).2:=by
  unfold mutV at h
  split at h
  · rename_i es e
    cases h
    obtain ⟨a,vs,q,hh,hF,h0,r⟩:=I.env i _ e
    have hs:=join_some q
    have ho:ownAt ρ σ i a:=⟨.inl ⟨_,e⟩,hs⟩
    refine ⟨a,vs,hs,hh,r,fun es us r2=>?_⟩
    have key:∀ j b,ownAt (ρ.set i (.own es)) σ j b→ownAt ρ σ j b:=fun j b o=>by
      by_cases z:j=i
      · subst z
        exact ⟨ho.1,o.2⟩
      · obtain ⟨o1,o2⟩:=o
        simp only [List.getElem?_set_ne (Ne.symm z)] at o1
        exact ⟨o1,o2⟩
    refine ⟨⟨fun b u e=>?_,fun b fs e=>?_,fun b u e f=>?_,I.ran.f0,I.ran.fnew,I.ran.dto⟩,fun j c e'=>?_,by simp [I.len],fun x y b n o1 o2=>I.apart x y b n (key x b o1) (key y b o2),fun j b o=>I.off j b (key j b o)⟩
    · rw [upd_ne (ne_of_none e hF)]; exact I.sub _ _ e
    · obtain ⟨q1,ws,q2,q3⟩:=I.ran.dk b fs e
      exact ⟨q1,ws,by rw [upd_ne (Ne.symm (I.off i a ho b fs e))]; exact q2,q3⟩
    · rw [upd_ne (ne_of_none e h0)]; exact I.ran.keep b u e f
    · by_cases z:j=i
      · subst z
        rw [List.getElem?_set] at e'
        by_cases hl:j < ρ.length
        · simp [hl] at e'
          subst e'
          exact ⟨a,us,q,upd_same,hF,h0,r2⟩
        · simp [hl] at e'
      · rw [List.getElem?_set_ne (Ne.symm z)] at e'
        have w:=I.env j c e'
        cases c with
        | no=>trivial
        | val d=>exact w
        | own fs =>
          obtain ⟨b,ws,e1,h1,f1,g1,r1⟩:=w
          have nb:b≠a:=fun w=>I.apart j i a z ⟨.inl ⟨fs,e'⟩,by rw [← w]; exact join_some e1⟩ ho
          exact ⟨b,ws,e1,by rw [upd_ne nb]; exact h1,f1,g1,r1⟩
        | obj C fs =>
          obtain ⟨b,dx,ws,e1,es1,h1,h2,f1,f2,g1,g2,r1⟩:=w
          have nb:b≠a:=fun w=>by rw [w,hh] at h1; cases h1
          have nd:dx≠a:=fun w=>by rw [w,hh] at h2; cases h2
          exact ⟨b,dx,ws,e1,es1,by rw [upd_ne nb]; exact h1,by rw [upd_ne nd]; exact h2,f1,f2,g1,g2,r1⟩
        | ownD kvs =>
          obtain ⟨b,ws,e1,h1,f1,g1,r1⟩:=w
          have nb:b≠a:=fun w=>by rw [w,hh] at h1; cases h1
          exact ⟨b,ws,e1,by rw [upd_ne nb]; exact h1,f1,g1,r1⟩
  · rename_i a e
    split at h
    · rename_i b es
      by_cases z:a=b
      · subst z
        simp at h
        obtain ⟨rfl,rfl⟩:=h
        obtain ⟨u,q,r⟩:=I.env i _ e
        rw [rep_ref.mp r] at q
        obtain ⟨hF,vs,hh,rr⟩:=I.ran.dk a es rfl
        refine ⟨a,vs,join_some q,hh,rr,fun fs us r2=>?_⟩
        refine ⟨⟨fun b u e=>?_,fun b gs e=>?_,fun b u eb fb=>?_,I.ran.f0,I.ran.fnew,⟨fun b gs e=>?_,fun b gs e n=>?_⟩⟩,fun j c e'=>?_,I.len,I.apart,fun j b o c gs e=>?_⟩
        · rw [upd_ne (ne_of_none e hF)]; exact I.sub _ _ e
        · cases e; exact ⟨hF,us,upd_same,r2⟩
        · have nb:b≠a:=by
            intro w
            subst w
            cases hd:Y.δ₀ with
            | none =>
              have:=I.ran.dto.2 b es rfl hd
              rw [eb] at this; cases this
            | some p0 =>
              obtain ⟨c,gs⟩:=p0
              obtain ⟨es',w2⟩:=I.ran.dto.1 c gs hd
              cases w2
              exact fb b gs hd rfl
          rw [upd_ne nb]; exact I.ran.keep b u eb fb
        · obtain ⟨es',w⟩:=I.ran.dto.1 b gs e
          cases w
          exact ⟨_,rfl⟩
        · cases e
          exact I.ran.dto.2 a es rfl n
        · have w:=I.env j c e'
          cases c with
          | no=>trivial
          | val d=>exact w
          | own fs =>
            obtain ⟨b,ws,e1,h1,f1,g1,r1⟩:=w
            have nb:b≠a:=I.off j b ⟨.inl ⟨fs,e'⟩,join_some e1⟩ a es rfl
            exact ⟨b,ws,e1,by rw [upd_ne nb]; exact h1,f1,g1,r1⟩
          | obj C fs =>
            obtain ⟨b,dx,ws,e1,es1,h1,h2,f1,f2,g1,g2,r1⟩:=w
            have nb:b≠a:=fun w=>by rw [w,hh] at h1; cases h1
            have nd:dx≠a:=fun w=>by rw [w,hh] at h2; cases h2
            exact ⟨b,dx,ws,e1,es1,by rw [upd_ne nb]; exact h1,by rw [upd_ne nd]; exact h2,f1,f2,g1,g2,r1⟩
          | ownD kvs =>
            obtain ⟨b,ws,e1,h1,f1,g1,r1⟩:=w
            have nb:b≠a:=fun w=>by rw [w,hh] at h1; cases h1
            exact ⟨b,ws,e1,by rw [upd_ne nb]; exact h1,f1,g1,r1⟩
        · cases e
          exact I.off j b o a es rfl
      · simp [z] at h
    · cases h
  · cases h
theorem I2.mutD {K:Frag} {F H:Hp} {σ:St} {ρ:En} {δ:Dk} {ds:List (Key×D)} (I:I2 K Y F H σ ρ δ) (e:ρ[i]?=some (.ownD ds)) :
    ∃ a vs,σ[i]?=some (some (.ref a))∧H a=some (.dK vs)∧RepK K F ds vs∧∀ es us,RepK K F es us→I2 K Y F (upd H a (.dK us)) σ (ρ.set i (.ownD es)) δ:=by
  obtain ⟨a,vs,q,hh,hF,h0,r⟩:=I.env i _ e
  have hs:=join_some q
  have ho:ownAt ρ σ i a:=⟨.inr (.inr ⟨_,e⟩),hs⟩
  refine ⟨a,vs,hs,hh,r,fun es us r2=>?_⟩
  have key:∀ j b,ownAt (ρ.set i (.ownD es)) σ j b→ownAt ρ σ j b:=fun j b o=>by
    by_cases z:j=i
    · subst z
      exact ⟨ho.1,o.2⟩
    · obtain ⟨o1,o2⟩:=o
      simp only [List.getElem?_set_ne (Ne.symm z)] at o1
      exact ⟨o1,o2⟩
  refine ⟨⟨fun b u e=>?_,fun b fs e=>?_,fun b u e f=>?_,I.ran.f0,I.ran.fnew,I.ran.dto⟩,fun j c e'=>?_,by simp [I.len],fun x y b n o1 o2=>I.apart x y b n (key x b o1) (key y b o2),fun j b o=>I.off j b (key j b o)⟩
  · rw [upd_ne (ne_of_none e hF)]; exact I.sub _ _ e
  · obtain ⟨q1,ws,q2,q3⟩:=I.ran.dk b fs e
    exact ⟨q1,ws,by rw [upd_ne (Ne.symm (I.off i a ho b fs e))]; exact q2,q3⟩
  · rw [upd_ne (ne_of_none e h0)]; exact I.ran.keep b u e f
  · by_cases z:j=i
    · subst z
      rw [List.getElem?_set] at e'
      by_cases hl:j < ρ.length
      · simp [hl] at e'
        subst e'
        exact ⟨a,us,q,upd_same,hF,h0,r2⟩
      · simp [hl] at e'
    · rw [List.getElem?_set_ne (Ne.symm z)] at e'
      have w:=I.env j c e'
      cases c with
      | no=>trivial
      | val d=>exact w
      | own fs =>
        obtain ⟨b,ws,e1,h1,f1,g1,r1⟩:=w
        have nb:b≠a:=fun w=>by rw [w,hh] at h1; cases h1
        exact ⟨b,ws,e1,by rw [upd_ne nb]; exact h1,f1,g1,r1⟩
      | obj C fs =>
        obtain ⟨b,dx,ws,e1,es1,h1,h2,f1,f2,g1,g2,r1⟩:=w
        have nb:b≠a:=fun w=>by rw [w,hh] at h1; cases h1
        have nd:dx≠a:=fun w=>by rw [w,hh] at h2; cases h2
        exact ⟨b,dx,ws,e1,es1,by rw [upd_ne nb]; exact h1,by rw [upd_ne nd]; exact h2,f1,f2,g1,g2,r1⟩
      | ownD kvs =>
        obtain ⟨b,ws,e1,h1,f1,g1,r1⟩:=w
        have nb:b≠a:=fun w=>I.apart j i a z ⟨.inr (.inr ⟨kvs,e'⟩),by rw [← w]; exact join_some e1⟩ ho
        exact ⟨b,ws,e1,by rw [upd_ne nb]; exact h1,f1,g1,r1⟩
noncomputable def t2SetV (i:Nat) (tj te:TE2):TS2:=fun E ρ δ=>te E.xc ρ δ fun d ρ1 δ1=>hasV ρ1 i=true∧tj E.xc ρ1 δ1 fun dj ρ2 δ2=>match mutV ρ2 δ2 i,dj with
  | some (ds,put),.int j=>(match ixN ds.length j with | some m=>E.nx (put (ds.set m d)).1 (put (ds.set m d)).2 | none=>False)
  | _,_=>False
theorem s2_setv (i:Nat) {j:Expr} {tj:TE2} {spos:Pos} (hj:PE2 X Y W j tj) (he:PE2 X Y W e te) (hN:X.N[i]?=some x:=by rfl) (hv:Vis X.env.scope x:=by walk_at "v3") (hd:(x == ("__debug__" : Str))=false:=by decide)
    (hcd:(x == ("__classdict__" : Str))=false:=by decide)
    (ha:∀ v,assign (.Subscript (.Name x p) j spos) X.env v=(do
      let ov ← holding [v] (eval (.Name x p) X.env)
      let iv ← holding [v,ov] (eval j X.env)
      standAt spos
      holding [v,ov,iv] (setItem ov iv v)
      release [v,ov,iv] []):=by intro _; rfl)
    (hs:swapsWithSole [.Subscript (.Name x p) j spos] e pos.line X.env=pure false:=by rfl) (hw:swappedStores [.Subscript (.Name x p) j spos] e X.env=pure none:=by rfl)
    (h1:(assignEach [.Subscript (.Name x p) j spos] X.env).map (·.2)=[assign (.Subscript (.Name x p) j spos) X.env]:=by rfl) :
    PS2 X Y W (.Assign [.Subscript (.Name x p) j spos] e pos) (t2SetV i tj te):=ps2 (ps_asg he.go (pg_sub (pe_var hN hv hd hcd) hj.go set_list ha) hs hw h1) fun E1 σ H ⟨F,ρ,δ,E2,I,h,er⟩=>by
  refine ⟨F,ρ,δ,E2.xc,_,I,h,fun d v F1 H1 ρ1 δ1 I1 s1 r1 h1=>?_,er.xc⟩
  obtain ⟨o,eo⟩:=has_v I1 h1.1
  refine ⟨o,eo,F1,ρ1,δ1,E2.xc,_,I1,h1.2,fun dj w F2 H2 ρ2 δ2 I2' s2 r2 h2=>?_,er.xc.mono s1⟩
  split at h2
  · rename_i ds put j em
    split at h2
    · rename_i m hm
      obtain ⟨a,vs,ea,hh,z,up⟩:=mut_v I2' em
      rw [eo] at ea
      cases ea
      refine ⟨a,vs,j,m,rfl,rep_int.mp r2,hh,by rw [z.length]; exact hm,er.nx σ F2 _ _ _ (up _ _ (z.set (r1.mono s2) m)) (s1.trans s2) h2⟩
    · exact h2.elim
  · exact h2.elim
noncomputable abbrev FM:=List D→List D→(D→List D→Prop)→Prop
noncomputable def t2MV (i:Nat) (m:FM) (ta:TA2):TE2:=fun x ρ δ q=>(mutV ρ δ i).isSome=true∧ta x ρ δ fun es ρ1 δ1=>match mutV ρ1 δ1 i with
  | some (ds,put)=>m ds es fun d ds'=>q d (put ds').1 (put ds').2
  | none=>False
noncomputable def t2MV0 (i:Nat) (m:FM):TE2:=fun x ρ δ q=>match mutV ρ δ i with
  | some (ds,put)=>m ds [] fun d ds'=>q d (put ds').1 (put ds').2
  | none=>False
noncomputable def appendM:FM:=fun ds es q=>match es with | [e]=>ds.length < 1000∧q .non (ds++[e]) | _=>False
noncomputable def popM:FM:=fun ds es q=>match es,ds.getLast? with | [],some d=>q d ds.dropLast | _,_=>False
noncomputable def t2Aug (i:Nat) (f:F2) (te:TE2):TS2:=fun E ρ δ=>rdV ρ i fun d1 ρ0=>te E.xc ρ0 δ fun d2 ρ1 δ1=>f d1 d2 fun d=>E.nx (ρ1.set i (.val d)) δ1
theorem s2_aug (i:Nat) {op:Operator} {g:Int→Int→Int} (hN:X.N.Nodup) (ho:PIp X op (ipI g)) (he:PE2 X Y W e te) (hi:X.N[i]?=some x:=by rfl) (hx:Loc X.env.scope x:=by walk_at "v2")
    (hf:X.fn x=true∨X.env.scope.names.lookup x=some .local:=by walk_at "v1"):PS2 X Y W (.AugAssign (.Name x pos') op e pos) (t2Aug i (fI0 fun a b=>.int (g a b)) te):=ps2 (ps_aug (i:=i) hN hi hx he.go ho hf) fun E1 σ H ⟨F,ρ,δ,E2,I,h,er⟩=>by
  obtain ⟨d1,v1,F0,ρ0,e1,I0,s0,r1,h⟩:=rd_use I h
  refine ⟨v1,e1,F0,ρ0,δ,E2.xc,_,I0,h,fun d2 v2 F1 H1 ρ1 δ1 I1 s1 r2 h1=>?_,er.xc.mono s0⟩
  unfold fI0 at h1
  split at h1
  · exact ⟨_,_,rep_int.mp r1,rep_int.mp r2,er.nx _ F1 H1 _ δ1 (I1.put (rep_int.mpr rfl)) (s0.trans s1) h1⟩
  · exact h1.elim
noncomputable def t2Fld (K:Frag) (f:Str) (ta:TE2):TE2:=fun x ρ δ q=>ta x ρ δ fun d ρ1 δ1=>match d with
  | .ins C fs=>(Cls K C∧NoAttr K C f)∧(match fs.lookup f with | some e=>q e ρ1 δ1 | none=>False)
  | _=>False
theorem RepF.look {K:Frag} {F:Hp} {f:Str}:∀ {fs:List (Str×D)} {us:List (Str×V)} {d:D},RepF K F fs us→fs.lookup f=some d→∃ v,us.lookup f=some v∧Rep K F d v
  | [],us,d,r,e=>by cases e
  | (g,c) :: fs,us,d,r,e=>by
    unfold RepF at r
    obtain ⟨v,l,rfl,r1,r2⟩:=r
    rw [List.lookup_cons] at e ⊢
    split at e
    · cases e; exact ⟨v,rfl,r1⟩
    · exact RepF.look r2 e
theorem e2_fld {f:Str} (ha:PE2 X Y W a ta) (hb:attributeBase a f X.env (eval a X.env)=eval a X.env:=by rfl):PE2 X Y W (.Attribute a f pos) (t2Fld X.K f ta):=pe2 (pe_fld ha.go hb) fun σ H Q ⟨F,ρ,δ,x,q,I,h,k,kx⟩=>by
  refine ⟨F,ρ,δ,x,_,I,h,fun d v F' H' ρ' δ' I' s' r' h'=>?_,kx⟩
  cases d with
  | ins C fs =>
    obtain ⟨⟨c,n⟩,h'⟩:=h'
    obtain ⟨a,dx,us,rfl,e1,e2,rf⟩:=rep_ins.mp r'
    split at h'
    · rename_i e ee
      obtain ⟨v,ev,rv⟩:=rf.look ee
      exact ⟨a,C,dx,us,v,rfl,I'.sub _ _ e1,c,n,ev,k e v F' H' ρ' δ' I' s' rv h'⟩
    · exact h'.elim
  | _=>exact h'.elim
noncomputable def t2XFld (K:Frag) (f:Str) (ta:TE2):TE2:=fun x ρ δ q=>ta x ρ δ fun d ρ1 δ1=>match d with
  | .exc C fs=>(XC K C∧NoAttr K C f)∧(match fs.lookup f with | some e=>q e ρ1 δ1 | none=>False)
  | _=>False
theorem e2_xfld {f:Str} (ha:PE2 X Y W a ta) (hb:attributeBase a f X.env (eval a X.env)=eval a X.env:=by rfl):PE2 X Y W (.Attribute a f pos) (t2XFld X.K f ta):=pe2 (pe_xfld ha.go hb) fun σ H Q ⟨F,ρ,δ,x,q,I,h,k,kx⟩=>by
  refine ⟨F,ρ,δ,x,_,I,h,fun d v F' H' ρ' δ' I' s' r' h'=>?_,kx⟩
  cases d with
  | exc C fs =>
    obtain ⟨⟨c,n⟩,h'⟩:=h'
    obtain ⟨a,fr,rfl,rr⟩:=rep_exc.mp r'
    split at h'
    · rename_i e ee
      rcases rr with ⟨hnil,_⟩ | ⟨d,us,e1,e2,rf⟩
      · rw [hnil] at ee; cases ee
      · obtain ⟨v,ev,rv⟩:=rf.look ee
        exact ⟨fr,a,C,d,us,v,rfl,I'.sub _ _ e1,I'.sub _ _ e2,c,n,ev,k e v F' H' ρ' δ' I' s' rv h'⟩
    · exact h'.elim
  | _=>exact h'.elim
noncomputable def putFD (f:Str) (v:D):List (Str×D)→List (Str×D)
  | []=>[(f,v)]
  | (g,u) :: r=>if g=f then (g,v) :: r else (g,u) :: putFD f v r
theorem RepF.put {K:Frag} {F:Hp} {f:Str} {d:D} {v:V} (q:Rep K F d v):∀ {fs:List (Str×D)} {us:List (Str×V)},RepF K F fs us→RepF K F (putFD f d fs) (putF f v us)
  | [],us,r=>by
    unfold RepF at r
    subst r
    unfold putFD putF RepF
    exact ⟨v,[],rfl,q,by unfold RepF; rfl⟩
  | (g,c) :: fs,us,r=>by
    unfold RepF at r
    obtain ⟨w,l,rfl,r1,r2⟩:=r
    unfold putFD putF
    by_cases z:g=f
    · rw [if_pos z,if_pos z]
      unfold RepF
      exact ⟨v,l,rfl,q,r2⟩
    · rw [if_neg z,if_neg z]
      unfold RepF
      exact ⟨w,_,rfl,r1,RepF.put q r2⟩
theorem RepF.length {K:Frag} {F:Hp}:∀ {fs:List (Str×D)} {us:List (Str×V)},RepF K F fs us→us.length=fs.length
  | [],us,r=>by unfold RepF at r; subst r; rfl
  | (g,c) :: fs,us,r=>by
    unfold RepF at r
    obtain ⟨w,l,rfl,r1,r2⟩:=r
    rw [List.length_cons,List.length_cons,RepF.length r2]
noncomputable def t2Self (K:Frag) (i:Nat) (f:Str) (te:TE2):TS2:=fun E ρ δ=>te E.xc ρ δ fun d ρ1 δ1=>match ρ1[i]? with
  | some (.obj C fs)=>(Cls K C∧NoAttr K C f)∧fs.length < 1000∧E.nx (ρ1.set i (.obj C (putFD f d fs))) δ1
  | _=>False
theorem I2.self {K:Frag} {F H:Hp} {σ:St} {ρ:En} {δ:Dk} {C:Addr} {fs:List (Str×D)} (I:I2 K Y F H σ ρ δ) (e:ρ[i]?=some (.obj C fs)) :
    ∃ a dx us,σ[i]?=some (some (.ref a))∧H a=some (.ins C dx us)∧RepF K F fs us∧∀ gs ws,RepF K F gs ws→I2 K Y F (upd H a (.ins C dx ws)) σ (ρ.set i (.obj C gs)) δ:=by
  obtain ⟨a,dx,us,q,es0,hh,hd,hF,hF2,h0,h02,r⟩:=I.env i _ e
  have hs:=join_some q
  have ho:ownAt ρ σ i a:=⟨.inr (.inl ⟨_,_,e⟩),hs⟩
  refine ⟨a,dx,us,hs,hh,r,fun gs ws r2=>?_⟩
  have ndx:dx≠a:=fun w=>by rw [w,hh] at hd; cases hd
  have key:∀ j b,ownAt (ρ.set i (.obj C gs)) σ j b→ownAt ρ σ j b:=fun j b o=>by
    by_cases z:j=i
    · subst z
      exact ⟨ho.1,o.2⟩
    · obtain ⟨o1,o2⟩:=o
      simp only [List.getElem?_set_ne (Ne.symm z)] at o1
      exact ⟨o1,o2⟩
  refine ⟨⟨fun b u e=>?_,fun b fs e=>?_,fun b u e f=>?_,I.ran.f0,I.ran.fnew,I.ran.dto⟩,fun j c e'=>?_,by simp [I.len],fun x y b n o1 o2=>I.apart x y b n (key x b o1) (key y b o2),fun j b o=>I.off j b (key j b o)⟩
  · rw [upd_ne (ne_of_none e hF)]; exact I.sub _ _ e
  · obtain ⟨q1,ys,q2,q3⟩:=I.ran.dk b fs e
    exact ⟨q1,ys,by rw [upd_ne (Ne.symm (I.off i a ho b fs e))]; exact q2,q3⟩
  · rw [upd_ne (ne_of_none e h0)]; exact I.ran.keep b u e f
  · by_cases z:j=i
    · subst z
      rw [List.getElem?_set] at e'
      by_cases hl:j < ρ.length
      · simp [hl] at e'
        subst e'
        exact ⟨a,dx,ws,q,es0,upd_same,by rw [upd_ne ndx]; exact hd,hF,hF2,h0,h02,r2⟩
      · simp [hl] at e'
    · rw [List.getElem?_set_ne (Ne.symm z)] at e'
      have w:=I.env j c e'
      cases c with
      | no=>trivial
      | val d=>exact w
      | own fs =>
        obtain ⟨b,ys,e1,h1,f1,g1,r1⟩:=w
        have nb:b≠a:=fun w=>by rw [w,hh] at h1; cases h1
        exact ⟨b,ys,e1,by rw [upd_ne nb]; exact h1,f1,g1,r1⟩
      | obj C' fs =>
        obtain ⟨b,dy,ys,e1,es1,h1,h2,f1,f2,g1,g2,r1⟩:=w
        have nb:b≠a:=fun w=>I.apart j i a z ⟨.inr (.inl ⟨_,_,e'⟩),by rw [← w]; exact join_some e1⟩ ho
        have nd:dy≠a:=fun w=>by rw [w,hh] at h2; cases h2
        exact ⟨b,dy,ys,e1,es1,by rw [upd_ne nb]; exact h1,by rw [upd_ne nd]; exact h2,f1,f2,g1,g2,r1⟩
      | ownD kvs =>
        obtain ⟨b,ys,e1,h1,f1,g1,r1⟩:=w
        have nb:b≠a:=fun w=>by rw [w,hh] at h1; cases h1
        exact ⟨b,ys,e1,by rw [upd_ne nb]; exact h1,f1,g1,r1⟩
theorem s2_self (i:Nat) {f:Str} {tpos:Pos} (he:PE2 X Y W e te) (hN:X.N[i]?=some x:=by rfl) (hv:Vis X.env.scope x:=by walk_at "v3") (hd:(x == ("__debug__" : Str))=false:=by decide) (hcd:(x == ("__classdict__" : Str))=false:=by decide)
    (hs:swapsWith e (some (.Attribute (.Name x p) f tpos)) pos.line X.env=pure false:=by rfl):PS2 X Y W (.Assign [.Attribute (.Name x p) f tpos] e pos) (t2Self X.K i f te):=ps2 (ps_fld (pe_var hN hv hd hcd) he.go hs) fun E1 σ H ⟨F,ρ,δ,E2,I,h,er⟩=>by
  refine ⟨F,ρ,δ,E2.xc,_,I,h,fun d v F1 H1 ρ1 δ1 I1 s1 r1 h1=>?_,er.xc⟩
  split at h1
  · rename_i C fs ee
    obtain ⟨⟨c,n⟩,hl,h1⟩:=h1
    obtain ⟨a,dx,us,ea,hh,rf,up⟩:=I1.self ee
    exact ⟨_,ea,a,C,dx,us,rfl,hh,c,n,by rw [rf.length]; exact hl,er.nx σ F1 _ _ δ1 (up _ _ (rf.put r1)) s1 h1⟩
  · exact h1.elim
end
end DL
set_option Elab.async false
set_option linter.all false
set_option maxRecDepth 100000
set_option maxHeartbeats 4000000
namespace DL
open PySem PySem.Spec L2
open PySem.W (XC)
open PyProof.Rows (envOfC)
noncomputable abbrev Sp2:=List D→Dk→(D→Dk→Prop)→(Addr→List (Str×D)→Dk→Prop)→Prop
noncomputable def upF (K:Frag) (sp:Sp2):Sp:=fun vs H Q E=>∃ F ds δ q x,Same F H∧DkOk K F H δ∧Reps K F ds vs∧sp ds δ q x ∧
  (∀ d v F' H' δ',Ran K F H δ F' H' δ'→Rep K F' d v→q d δ'→Q v H')∧∀ C od fs F' H' δ',Ran K F H δ F' H' δ'→XRep K F' od fs→x C fs δ'→E (.ref C) od H'
noncomputable abbrev Fun2 (P:Program) (w:World) (K:Frag) (mg:Str→Option Value) (base:Heap) (x:Str) (k:Nat) (ps:List Str) (sp:Sp2):Prop:=FnAt P w K mg base (CX1 P w) x k ps (upF K sp)
section
variable {K:Frag} {Y:Y2} {F H F' H':Hp} {σ:St} {ρ:En} {δ δ':Dk}
theorem Ran.trans {F₀ H₀:Hp} {δ₀:Dk} (R:Ran K F₀ H₀ δ₀ F H δ) (S:Ran K F H δ F' H' δ'):Ran K F₀ H₀ δ₀ F' H' δ':=by
  have offs:∀ b o,H₀ b=some o→Off δ₀ b→Off δ b:=fun b o e f a ds q w=>by
    subst w
    cases hd:δ₀ with
    | none=>have:=R.dto.2 b ds q hd; rw [e] at this; cases this
    | some p =>
      obtain ⟨c,gs⟩:=p
      obtain ⟨es,z⟩:=R.dto.1 c gs hd
      rw [q] at z
      cases z
      exact f b gs hd rfl
  have fr:∀ p,H p=none→H₀ p=none:=fun p h=>(Ran.fresh (Y:=⟨F₀,H₀,δ₀,none⟩) R h)
  refine ⟨S.sub,S.dk,fun b o e f=>S.keep b o (R.keep b o e f) (offs b o e f),R.f0.trans S.f0,fun b o e=>?_,⟨fun a ds e=>?_,fun a ds e n=>?_⟩⟩
  · rcases S.fnew b o e with z | z
    · exact R.fnew b o z
    · exact .inr (fr b z)
  · obtain ⟨es,z⟩:=R.dto.1 a ds e
    exact S.dto.1 a es z
  · cases hd:δ with
    | none=>exact fr a (S.dto.2 a ds e hd)
    | some p =>
      obtain ⟨c,gs⟩:=p
      obtain ⟨es,z⟩:=S.dto.1 c gs hd
      rw [e] at z
      cases z
      exact R.dto.2 a gs hd n
theorem I2.call (I:I2 K Y F H σ ρ δ) (S:Ran K F H δ F' H' δ'):I2 K Y F' H' σ ρ δ':=by
  have fno:∀ a o,H a=some o→F a=none→F' a=none:=fun a o h f=>by
    cases q:F' a with
    | none=>rfl
    | some u =>
      rcases S.fnew a u q with z | z
      · rw [f] at z; cases z
      · rw [h] at z; cases z
  have addr:∀ j a,ownAt ρ σ j a→∃ o,H a=some o:=fun j a o=>by
    rcases o.1 with ⟨ds,q⟩ | ⟨C,fs,q⟩ | ⟨kvs,q⟩
    · obtain ⟨b,us,e,hb,_⟩:=I.env j _ q
      rw [o.2] at e
      cases e
      exact ⟨_,hb⟩
    · obtain ⟨b,dx,us,e,es0,hb,_⟩:=I.env j _ q
      rw [o.2] at e
      cases e
      exact ⟨_,hb⟩
    · obtain ⟨b,us,e,hb,_⟩:=I.env j _ q
      rw [o.2] at e
      cases e
      exact ⟨_,hb⟩
  refine ⟨I.ran.trans S,fun i c e=>?_,I.len,I.apart,fun j a o b ds e w=>?_⟩
  · have w:=I.env i c e
    cases c with
    | no=>trivial
    | val d=>obtain ⟨u,e1,r⟩:=w; exact ⟨u,e1,r.mono S.f0⟩
    | own ds =>
      obtain ⟨a,vs,e1,h1,f1,g1,r1⟩:=w
      have of:=I.off i a ⟨.inl ⟨ds,e⟩,join_some e1⟩
      exact ⟨a,vs,e1,S.keep a _ h1 of,fno a _ h1 f1,g1,r1.mono S.f0⟩
    | obj C fs =>
      obtain ⟨a,dx,us,e1,es1,h1,h2,f1,f2,g1,g2,r1⟩:=w
      have of:=I.off i a ⟨.inr (.inl ⟨C,fs,e⟩),join_some e1⟩
      have od:Off δ dx:=fun b ds q w=>by
        obtain ⟨_,vs,q2,_⟩:=I.ran.dk b ds q
        rw [← w,h2] at q2; cases q2
      exact ⟨a,dx,us,e1,es1,S.keep a _ h1 of,S.keep dx _ h2 od,fno a _ h1 f1,fno dx _ h2 f2,g1,g2,r1.mono S.f0⟩
    | ownD ds =>
      obtain ⟨a,vs,e1,h1,f1,g1,r1⟩:=w
      have of:=I.off i a ⟨.inr (.inr ⟨ds,e⟩),join_some e1⟩
      exact ⟨a,vs,e1,S.keep a _ h1 of,fno a _ h1 f1,g1,r1.mono S.f0⟩
  · subst w
    obtain ⟨u,hu⟩:=addr j a o
    cases hd:δ with
    | none=>have:=S.dto.2 a ds e hd; rw [hu] at this; cases this
    | some p =>
      obtain ⟨c,gs⟩:=p
      obtain ⟨es,z⟩:=S.dto.1 c gs hd
      rw [e] at z
      cases z
      exact I.off j a o a gs hd rfl
theorem Ran.refl (s:Same F H) (d:DkOk K F H δ):Ran K F H δ F H δ:=⟨s,d,fun _ _ e _=>e,Same.refl F,fun _ _ e=>.inl e,fun a ds e=>⟨ds,e⟩,fun a ds e n=>by rw [n] at e; cases e⟩
end
section
variable {X:Cx} {Y:Y2} {W:XW} {x:Str} {p pos:Pos} {e:Expr} {es:List Expr} {t:TA2} {k:Nat} {ps:List Str} {sp:Sp2}
noncomputable def t2Call (sp:Sp2) (t:TA2):TE2:=fun x ρ δ q=>t x ρ δ fun ds ρ1 δ1=>sp ds δ1 (fun d δ2=>q d ρ1 δ2) fun C fs δ2=>x C fs ρ1 δ2
theorem up_call {σ:St} {H:Hp} {Q:VK} (h:upE X.K Y W (t2Call sp t) σ H Q):tCallX (upF X.K sp) W (upA X.K Y W t) σ H Q:=by
  obtain ⟨F,ρ,δ,x,q,I,h,k,kx⟩:=h
  refine ⟨F,ρ,δ,x,_,I,h,fun ds vs F1 H1 ρ1 δ1 I1 s1 r1 h1=>⟨F1,ds,δ1,_,_,I1.sub,I1.ran.dk,r1,h1,fun d v F' H' δ' R r' q'=>?_,fun C od fs F' H' δ' R r' q'=>?_⟩,kx⟩
  · exact k d v F' H' ρ1 δ' (I1.call R) (s1.trans R.f0) r' q'
  · exact ⟨C,rfl,kx C od fs σ F' H' ρ1 δ' (I1.call R) (s1.trans R.f0) r' q'⟩
theorem e2_call (G:Fun2 X.prog X.w X.K X.mg X.base x k ps sp) (hr:Room k X.A) (hf:Flies X W) (ha:PA2 X Y W (e :: es) t) (hg:Gl X x:=by rfl) (hdb:(x == ("__debug__" : Str))=false:=by decide)
    (he:starEach (e :: es) X.env=(false,eval e X.env) :: starEach es X.env:=by exact star_cons rfl) (hpl:(backTo pos (starEach es X.env)).any (·.1)=false:=by exact star_any rfl):PE2 X Y W (.Call (.Name x p) (e :: es) [] pos) (t2Call sp t):=pe2 (pe_cX G hr hf ha.go hg hdb he hpl) fun σ H Q h=>up_call h
theorem flies0:Flies X (fun _ _ _ _=>False):=fun pins e s ⟨_,_,_,_,_,_,_,_,_,_,_,q⟩=>q.elim
end
noncomputable def start2 (N:List Str) (ds:List D):En:=ds.map .val++List.replicate (N.length - ds.length) .no
theorem start_cells {K:Frag} {F H H₀:Hp} {sf:Option Addr}:∀ {ds:List D} {vs:List V},Reps K F ds vs→∀ (n i:Nat) (c:Cell),(ds.map Cell.val++List.replicate n Cell.no)[i]?=some c→CellOk K F H H₀ sf c ((vs.map some++List.replicate n none:St)[i]?).join
  | [],vs,r,n,i,c,e=>by
    rw [List.map_nil,List.nil_append,List.getElem?_replicate] at e
    split at e
    · cases e; trivial
    · cases e
  | d :: ds,vs,r,n,0,c,e=>by
    obtain ⟨v,l,rfl,r1,r2⟩:=reps_cons.mp r
    cases e
    exact ⟨v,rfl,r1⟩
  | d :: ds,vs,r,n,i + 1,c,e=>by
    obtain ⟨v,l,rfl,r1,r2⟩:=reps_cons.mp r
    exact start_cells r2 n i c e
theorem start_val {ds:List D} {n i:Nat} {c:Cell} (e:(ds.map Cell.val++List.replicate n Cell.no)[i]?=some c):(∃ d,c=.val d)∨c=.no:=by
  have m:=List.mem_of_getElem? e
  rcases List.mem_append.mp m with m | m
  · obtain ⟨d,_,rfl⟩:=List.mem_map.mp m; exact .inl ⟨d,rfl⟩
  · exact .inr (List.mem_replicate.mp m).2
theorem I2.start {K:Frag} {F H:Hp} {δ:Dk} {ds:List D} {vs:List V} {N:List Str} (s:Same F H) (dk:DkOk K F H δ) (r:Reps K F ds vs):I2 K ⟨F,H,δ,none⟩ F H (L2.start N vs) (start2 N ds) δ:=by
  have no:∀ i a,¬ ownAt (start2 N ds) (L2.start N vs) i a:=fun i a o=>by
    rcases o.1 with ⟨es,q⟩ | ⟨C,fs,q⟩ | ⟨kvs,q⟩
    · rcases start_val q with ⟨d,z⟩ | z <;> cases z
    · rcases start_val q with ⟨d,z⟩ | z <;> cases z
    · rcases start_val q with ⟨d,z⟩ | z <;> cases z
  refine ⟨Ran.refl s dk,fun i c e=>?_,?_,fun i j a _ o _=>no i a o,fun i a o=>absurd o (no i a)⟩
  · unfold L2.start
    rw [r.length]
    exact start_cells r _ i c e
  · unfold L2.start start2
    simp [r.length]
section
variable {P:Program} {w:World} {K:Frag} {mg:Str→Option Value} {base:Heap}
theorem def2F {x:Str} {st:Stmt} {f:Addr} {fd:FuncData} {N ps:List Str} {k:Nat} {sp:Sp2} (D:DefAt K mg x st ps f fd) (S:FnScope N ps (defScope st)) (len:∀ ds δ q x,sp ds δ q x→ds.length=ps.length)
    (hbody:∀ (cdv:Value) (A:Around) (outer:List Env) (s:Shared) (H:Hp) (E:XK) (Y:Y2),Room k (A.deeper (envOfC x (defScope st) s.heap.objs.size f cdv)) →
      ∃ t,PSs2 (cxX P w K mg base N x (defScope st) f cdv A outer s H E) Y (fun C od _ H'=>E (.ref C) od H') (defBody st) t ∧
        ∀ ds δ q x,sp ds δ q x→t { nx:=fun _ δ=>q .non δ,rt:=q,xc:=fun C fs _ δ=>x C fs δ } (start2 N ds) δ):FnOk P w K mg base (CX1 P w) (k + 1) f fd ps (upF K sp):=by
  refine D.F.okX S (fun vs H Q E h=>?_) fun cdv A outer s H vs Q E hr h=>?_
  · obtain ⟨F,ds,δ,q,x,_,_,r,h,_⟩:=h
    rw [r.length]; exact len ds δ q x h
  · obtain ⟨F,ds,δ,q,x,s1,dk,r,h,kq,kx⟩:=h
    obtain ⟨t,ht,rd⟩:=hbody cdv A outer s H E ⟨F,H,δ,none⟩ hr
    refine ⟨_,ht.go,F,start2 N ds,δ,_,I2.start s1 dk r,rd ds δ q x h,⟨fun σ' F' H' ρ' δ' I' s' h'=>?_,fun d v σ' F' H' ρ' δ' I' s' r' h'=>?_,fun C od fs σ' F' H' ρ' δ' I' s' r' h'=>?_,fun _ _ _ _ _ _ _ z=>z.elim,fun _ _ _ _ _ _ _ z=>z.elim⟩⟩
    · exact kq .non .non F' H' δ' I'.ran (rep_non.mpr rfl) h'
    · exact kq d v F' H' δ' I'.ran r' h'
    · exact kx C od fs F' H' δ' I'.ran r' h'
theorem def2 {x:Str} {st:Stmt} {f:Addr} {fd:FuncData} {N ps:List Str} {k:Nat} {sp:Sp2} (D:DefAt K mg x st ps f fd) (S:FnScope N ps (defScope st)) (len:∀ ds δ q x,sp ds δ q x→ds.length=ps.length)
    (hbody:∀ (cdv:Value) (A:Around) (outer:List Env) (s:Shared) (H:Hp) (E:XK) (Y:Y2),Room k (A.deeper (envOfC x (defScope st) s.heap.objs.size f cdv)) →
      ∃ t,PSs2 (cxX P w K mg base N x (defScope st) f cdv A outer s H E) Y (fun C od _ H'=>E (.ref C) od H') (defBody st) t ∧
        ∀ ds δ q x,sp ds δ q x→t { nx:=fun _ δ=>q .non δ,rt:=q,xc:=fun C fs _ δ=>x C fs δ } (start2 N ds) δ):Fun2 P w K mg base x (k + 1) ps sp:=D.at (def2F D S len hbody)
noncomputable def upI (K:Frag) (C:Addr) (sp:Sp2):Sp:=fun vs H Q E=>∃ p dx us H1 F ds δ q x,vs=.ref p :: us∧H=upd (upd H1 dx (.own p)) p (.ins C dx [])∧H1 p=none∧H1 dx=none∧dx≠p∧Same F H1∧DkOk K F H1 δ∧Reps K F ds us∧sp ds δ q x ∧
  (∀ fs F' H' δ',Ran K F H1 δ F' H' δ'→Rep K F' (.ins C fs) (.ref p)→q (.ins C fs) δ'→Q .non H')∧∀ C od fs F' H' δ',Ran K F H1 δ F' H' δ'→XRep K F' od fs→x C fs δ'→E (.ref C) od H'
structure Make2 (P:Program) (w:World) (K:Frag) (mg:Str→Option Value) (base:Heap) (x:Str) (k:Nat) (sp:Sp2):Prop where
  ex:∃ C f fd ps,Mk K C f∧FnOk P w K mg base (CX1 P w) k f fd ps (upI K C sp)∧mg x=some (.ref C)∧Binds K fd ps []
end
section
variable {X:Cx} {Y:Y2} {W:XW} {x:Str} {p pos:Pos} {e:Expr} {es:List Expr} {t:TA2} {k:Nat} {sp:Sp2}
theorem e2_make (G:Make2 X.prog X.w X.K X.mg X.base x k sp) (hr:Room (k + 1) X.A) (hf:Flies X W) (ha:PA2 X Y W (e :: es) t) (hg:Gl X x:=by rfl) (hdb:(x == ("__debug__" : Str))=false:=by decide)
    (he:starEach (e :: es) X.env=(false,eval e X.env) :: starEach es X.env:=by exact star_cons rfl) (hpl:(backTo pos (starEach es X.env)).any (·.1)=false:=by exact star_any rfl):PE2 X Y W (.Call (.Name x p) (e :: es) [] pos) (t2Call sp t):=by
  obtain ⟨C,f,fd,ps,M,F,m,b⟩:=G.ex
  refine pe2 (pe_makeX M F hr hg m b hf ha.go hdb he hpl) fun σ H Q h=>?_
  obtain ⟨F,ρ,δ,x,q,I,h,k,kx⟩:=h
  refine ⟨F,ρ,δ,x,_,I,h,fun ds vs F1 H1 ρ1 δ1 I1 s1 r1 h1=>fun y dx hy hdx ne=>⟨y,dx,vs,H1,F1,ds,δ1,_,_,rfl,rfl,hy,hdx,ne,I1.sub,I1.ran.dk,r1,h1,fun fs F' H' δ' R r' q'=>⟨rfl,?_⟩,fun C od fs F' H' δ' R r' q'=>?_⟩,kx⟩
  · exact k _ _ F' H' ρ1 δ' (I1.call R) (s1.trans R.f0) r' q'
  · exact ⟨C,rfl,kx C od fs σ F' H' ρ1 δ' (I1.call R) (s1.trans R.f0) r' q'⟩
end
theorem I2.startO {K:Frag} {F H1:Hp} {δ:Dk} {ds:List D} {us:List V} {N:List Str} {C p dx:Addr} (s:Same F H1) (dk:DkOk K F H1 δ) (r:Reps K F ds us) (hp:H1 p=none) (hdx:H1 dx=none) (ne:dx≠p) :
    I2 K ⟨F,H1,δ,some p⟩ F (upd (upd H1 dx (.own p)) p (.ins C dx [])) (some (.ref p) :: L2.start N us) (.obj C [] :: start2 N ds) δ:=by
  have own:∀ i a,ownAt (.obj C [] :: start2 N ds) (some (.ref p) :: L2.start N us) i a→i=0∧a=p:=fun i a o=>by
    cases i with
    | zero=>have z:=o.2; cases z; exact ⟨rfl,rfl⟩
    | succ i =>
      rcases o.1 with ⟨es,q⟩ | ⟨C,fs,q⟩ | ⟨kvs,q⟩
      · rcases start_val (show (ds.map Cell.val++List.replicate _ Cell.no)[i]?=some _ from q) with ⟨d,z⟩ | z <;> cases z
      · rcases start_val (show (ds.map Cell.val++List.replicate _ Cell.no)[i]?=some _ from q) with ⟨d,z⟩ | z <;> cases z
      · rcases start_val (show (ds.map Cell.val++List.replicate _ Cell.no)[i]?=some _ from q) with ⟨d,z⟩ | z <;> cases z
  have kp:∀ b o,H1 b=some o→upd (upd H1 dx (.own p)) p (.ins C dx []) b=some o:=fun b o e=>by
    rw [upd_ne (ne_of_none e hp),upd_ne (ne_of_none e hdx)]; exact e
  refine ⟨⟨fun b o e=>kp b o (s b o e),fun a ds e=>?_,fun b o e _=>kp b o e,Same.refl F,fun b o e=>.inl e,fun a ds e=>⟨ds,e⟩,fun a ds e n=>by rw [show δ=none from n] at e; cases e⟩,fun i c e=>?_,?_,fun i j a n o1 o2=>n ((own i a o1).1.trans (own j a o2).1.symm),fun i a o b ds e w=>?_⟩
  · obtain ⟨q,vs,q2,r⟩:=dk a ds e
    exact ⟨q,vs,kp a _ q2,r⟩
  · cases i with
    | zero =>
      cases e
      refine ⟨p,dx,[],rfl,rfl,upd_same,by rw [upd_ne ne,upd_same],s.free hp,s.free hdx,hp,hdx,?_⟩
      unfold RepF; rfl
    | succ i =>
      show CellOk K F _ _ _ c ((L2.start N us)[i]?).join
      unfold L2.start
      rw [r.length]
      exact start_cells r _ i c e
  · unfold L2.start start2
    simp [r.length]
  · obtain ⟨_,rfl⟩:=own i a o
    obtain ⟨_,vs,q2,_⟩:=dk b ds e
    rw [← w,hp] at q2; cases q2
section
variable {P:Program} {w:World} {K:Frag} {mg:Str→Option Value} {base:Heap}
theorem init2 {x qual cn:Str} {st:Stmt} {f C:Addr} {fd:FuncData} {N ps:List Str} {k:Nat} {sp:Sp2} (Fn:Fun K x qual st f fd) (M:Mk K C f) (hm:mg cn=some (.ref C)) (b:Binds K fd ("self" :: ps) []) (S:FnScope ("self" :: N) ("self" :: ps) (defScope st)) (len:∀ ds δ q x,sp ds δ q x→ds.length=ps.length)
    (hbody:∀ (cdv:Value) (A:Around) (outer:List Env) (s:Shared) (H:Hp) (E:XK) (Y:Y2),Room k (A.deeper (envOfC qual (defScope st) s.heap.objs.size f cdv)) →
      ∃ t,PSs2 (cxX P w K mg base ("self" :: N) qual (defScope st) f cdv A outer s H E) Y (fun C od _ H'=>E (.ref C) od H') (defBody st) t ∧
        ∀ ds δ q x,sp ds δ q x→t { nx:=fun ρ δ=>∃ fs,ρ[0]?=some (.obj C fs)∧q (.ins C fs) δ,rt:=fun _ _=>False,xc:=fun C fs _ δ=>x C fs δ } (.obj C [] :: start2 N ds) δ):Make2 P w K mg base cn (k + 1) sp:=by
  refine ⟨C,f,fd,_,M,Fn.okX S (fun vs H Q E h=>?_) (fun cdv A outer s H vs Q E hr h=>?_),hm,b⟩
  · obtain ⟨p,dx,us,H1,F,ds,δ,q,x,rfl,_,_,_,_,_,_,r,h,_⟩:=h
    rw [List.length_cons,List.length_cons,r.length,len ds δ q x h]
  · obtain ⟨p,dx,us,H1,F,ds,δ,q,x,rfl,rfl,hp,hdx,ne,s1,dk,r,h,kq,kx⟩:=h
    obtain ⟨t,ht,rd⟩:=hbody cdv A outer s _ E ⟨F,H1,δ,some p⟩ hr
    have es:L2.start ("self" :: N) (V.ref p :: us)=some (.ref p) :: L2.start N us:=by unfold L2.start; simp
    refine ⟨_,ht.go,?_⟩
    rw [es]
    refine ⟨F,_,δ,_,I2.startO s1 dk r hp hdx ne,rd ds δ q x h,⟨fun σ' F' H' ρ' δ' I' s' h'=>?_,fun d v σ' F' H' ρ' δ' I' s' r' h'=>h'.elim,fun C od fs σ' F' H' ρ' δ' I' s' r' h'=>?_,fun _ _ _ _ _ _ _ z=>z.elim,fun _ _ _ _ _ _ _ z=>z.elim⟩⟩
    · obtain ⟨fs,e0,hq⟩:=h'
      obtain ⟨a,dy,ws,e1,es1,h1,h2,f1,f2,g1,g2,r1⟩:=I'.env 0 _ e0
      cases (show some p=some a from es1)
      have nd:dy≠p:=fun w=>by rw [w,h1] at h2; cases h2
      have sF:Same F' (upd (upd F' dy (.own p)) p (.ins C dy ws)):=fun b o e=>by rw [upd_ne (ne_of_none e f1),upd_ne (ne_of_none e f2)]; exact e
      have R:=I'.ran
      refine kq fs (upd (upd F' dy (.own p)) p (.ins C dy ws)) H' δ' ⟨fun b o e=>?_,fun a ds e=>?_,R.keep,R.f0.trans sF,fun b o e=>?_,R.dto⟩ (rep_ins.mpr ⟨p,dy,ws,rfl,upd_same,by rw [upd_ne nd,upd_same],r1.mono sF⟩) hq
      · by_cases z:b=p
        · subst z; rw [upd_same] at e; cases e; exact h1
        · rw [upd_ne z] at e
          by_cases z2:b=dy
          · subst z2; rw [upd_same] at e; cases e; exact h2
          · rw [upd_ne z2] at e; exact R.sub _ _ e
      · obtain ⟨q1,vs,q2,q3⟩:=R.dk a ds e
        have n1:a≠p:=fun w=>by rw [w,h1] at q2; cases q2
        have n2:a≠dy:=fun w=>by rw [w,h2] at q2; cases q2
        exact ⟨by rw [upd_ne n1,upd_ne n2]; exact q1,vs,q2,q3.mono sF⟩
      · by_cases z:b=p
        · subst z; exact .inr g1
        · rw [upd_ne z] at e
          by_cases z2:b=dy
          · subst z2; exact .inr g2
          · rw [upd_ne z2] at e; exact R.fnew b o e
    · exact kx C od fs F' H' δ' I'.ran r' h'
end
section
variable {X:Cx} {Y:Y2} {W:XW} {x:Str} {p pos cpos:Pos} {e:Expr} {es:List Expr} {t:TA2} {k:Nat} {ps:List Str} {C:Addr} {f g:Str}
theorem drop_new {H:Hp} {x d:Addr} {o o1 o2:HO} (hx:H x=none) (ne:d≠x):L2.drop (upd (upd (upd H x o1) d o) x o2) x=upd H d o:=by
  funext b
  by_cases z:b=x
  · subst z; rw [drop_self,upd_ne (Ne.symm ne)]; exact hx.symm
  · rw [drop_ne z,upd_ne z]
    by_cases z2:b=d
    · subst z2; rw [upd_same,upd_same]
    · rw [upd_ne z2,upd_ne z2,upd_ne z]
theorem drop_new0 {H:Hp} {x:Addr} {o:HO} (hx:H x=none):L2.drop (upd H x o) x=H:=by
  funext b
  by_cases z:b=x
  · subst z; rw [drop_self]; exact hx.symm
  · rw [drop_ne z,upd_ne z]
theorem repF1 {K:Frag} {F:Hp} {f:Str} {d:D} {v:V} (r:Rep K F d v):RepF K F [(f,d)] [(f,v)]:=by
  unfold RepF
  exact ⟨v,[],rfl,r,by unfold RepF; rfl⟩
noncomputable def t2Raise1 (C:Addr) (f:Str) (t:TA2):TS2:=fun E ρ δ=>t E.xc ρ δ fun ds ρ1 δ1=>match ds with | [d]=>E.xc C [(f,d)] ρ1 δ1 | _=>False
theorem s2_raise1 (hc:X.calm=true) (hf:Flies X W) (M:MkE X.prog X.w X.K X.mg X.base x C k ps (spXI C f)) (hr:Room (k + 1) X.A) (ha:PA2 X Y W (e :: es) t) (hg:Gl X x:=by rfl) (hdb:(x == ("__debug__" : Str))=false:=by decide)
    (he:starEach (e :: es) X.env=(false,eval e X.env) :: starEach es X.env:=by exact star_cons rfl) (hpl:(backTo cpos (starEach es X.env)).any (·.1)=false:=by exact star_any rfl) :
    PS2 X Y W (.Raise (some (.Call (.Name x p) (e :: es) [] cpos)) none pos) (t2Raise1 C f t):=ps2 (ps_raiseE hc hf M hr ha.go hg hdb he hpl) fun E1 σ H ⟨F,ρ,δ,E2,I,h,er⟩=>by
  refine ⟨F,ρ,δ,E2.xc,_,I,h,fun ds vs F1 H1 ρ1 δ1 I1 s1 r1 h1=>?_,er.xc⟩
  split at h1
  · rename_i d
    obtain ⟨v,rfl,r2⟩:=reps1 r1
    refine ⟨sz1,fun y hy=>⟨y,v,rfl,upd_same,fun dx hdx ne=>⟨rfl,some dx,upd_same,?_⟩⟩⟩
    rw [drop_new hy ne]
    have hd:H1 dx=none:=by rw [upd_ne ne] at hdx; exact hdx
    exact er.xc C (some dx) _ σ _ _ ρ1 δ1 (I1.alloc hd) (s1.trans (I1.grow hd)) ⟨_,upd_same,(repF1 r2).mono (I1.grow hd)⟩ h1
  · exact h1.elim
noncomputable def t2Raise2 (C:Addr) (f g:Str) (t:TA2):TS2:=fun E ρ δ=>t E.xc ρ δ fun ds ρ1 δ1=>match ds with | [d,d']=>E.xc C (putFD g d' [(f,d)]) ρ1 δ1 | _=>False
noncomputable def t2Raise0 (C:Addr):TS2:=fun E ρ δ=>E.xc C [] ρ δ
theorem s2_raise0 (hc:X.calm=true) (hf:Flies X W) (M:XMk0 X.K C) (hK:xcIn X.K C=true) (hm:X.mg x=some (.ref C)) (hg:Gl X x:=by rfl) (hdb:(x == ("__debug__" : Str))=false:=by decide) :
    PS2 X Y W (.Raise (some (.Call (.Name x p) [] [] cpos)) none pos) (t2Raise0 C):=ps2 (ps_raise0 hc hf M hK hg hm hdb) fun E1 σ H ⟨F,ρ,δ,E2,I,h,er⟩=>by
  intro y hy
  rw [drop_new0 hy]
  exact er.xc C none [] σ F H ρ δ I (Same.refl F) rfl h
noncomputable def t2Exc1 (C:Addr) (f:Str) (t:TA2):TE2:=fun x ρ δ q=>t x ρ δ fun ds ρ1 δ1=>match ds with | [d]=>q (.exc C [(f,d)]) ρ1 δ1 | _=>False
noncomputable def t2Exc2 (C:Addr) (f g:Str) (t:TA2):TE2:=fun x ρ δ q=>t x ρ δ fun ds ρ1 δ1=>match ds with | [d,d']=>q (.exc C (putFD g d' [(f,d)])) ρ1 δ1 | _=>False
noncomputable abbrev XTS2:=Addr→List (Str×D)→TS2
noncomputable def upH (K:Frag) (Y:Y2) (W:XW) (t:XTS2):XTS:=fun C od E1 σ H=>∃ F ρ δ E2 fs,I2 K Y F H σ ρ δ∧XRep K F od fs∧t C fs E2 ρ δ∧ER K Y W F E2 E1
structure PH2 (X:Cx) (Y:Y2) (W:XW) (hs:List ExceptHandler) (t:XTS2):Prop where
  go:PH X hs (upH X.K Y W t)
theorem ph_mono {hs:List ExceptHandler} {t t':XTS} (h:PH X hs t) (k:∀ C od D σ H,t' C od D σ H→t C od D σ H):PH X hs t':=fun pins x C od T s σ H D I f l lt q=>h pins x C od T s σ H D I f l lt (k C od D σ H q)
noncomputable def t2H0:XTS2:=fun _ _ _ _ _=>False
theorem h2_nil:PH2 X Y W [] t2H0:=⟨ph_mono ph_nil fun C od D σ H ⟨F,ρ,δ,E2,fs,I,r,h,er⟩=>h.elim⟩
theorem ph2 {hs:List ExceptHandler} {t:XTS} {u:XTS2} (h:PH X hs t) (k:∀ C od D σ H,upH X.K Y W u C od D σ H→t C od D σ H):PH2 X Y W hs u:=⟨ph_mono h k⟩
noncomputable abbrev W0:XW:=fun _ _ _ _=>False
noncomputable def noX (E:End2):End2:={ E with xc:=fun _ _ _ _=>False }
noncomputable def t2H (K:Frag) (D:Addr) (ts:TS2) (tr:XTS2):XTS2:=fun C fs E ρ δ=>match PySem.W.mroIn K C (.ref D) with | some b=>if b=true then ts (noX E) ρ δ else tr C fs E ρ δ | none=>False
theorem ER.noX {K:Frag} {F:Hp} {E2:End2} {E1:Ends} (h:ER K Y W F E2 E1):ER K Y W0 F (noX E2) E1:=⟨h.nx,h.rt,fun _ _ _ _ _ _ _ _ _ _ _ z=>z,h.bk,h.ct⟩
variable {D:Addr} {y n:Str} {np:Pos} {b₀:Stmt} {suite:List Stmt} {rest:List ExceptHandler} {ts:TS2} {tr:XTS2}
theorem h2_cons (tp:Top X) (d:XHd X.K D) (hm:X.mg y=some (.ref D)) (hs:∀ x,PSs2 (X.hdl x) Y W0 (b₀ :: suite) ts) (hr:PH2 X Y W rest tr) (hg:Gl X y:=by rfl) (hdb:(y == ("__debug__" : Str))=false:=by decide) :
    PH2 X Y W (.ExceptHandler (some (.Name y np)) none (b₀ :: suite) pos :: rest) (t2H X.K D ts tr):=ph2 (ph_cons (ts:=upS X.K Y W0 ts) tp d hg hm (fun x=>(hs x).go) hr.go hdb) fun C od E1 σ H ⟨F,ρ,δ,E2,fs,I,r,h,er⟩=>by
  unfold t2H at h
  split at h
  · rename_i b e
    refine ⟨b,e,?_⟩
    cases b with
    | true=>rw [if_pos rfl] at h ⊢; exact ⟨F,ρ,δ,noX E2,I,h,er.noX⟩
    | false=>rw [if_neg Bool.false_ne_true] at h ⊢; exact ⟨F,ρ,δ,E2,fs,I,r,h,er⟩
  · exact h.elim
noncomputable def asE (i:Nat) (E:End2):End2:={ nx:=fun ρ δ=>E.nx (ρ.set i .no) δ,rt:=E.rt,xc:=fun _ _ _ _=>False,bk:=fun ρ δ=>E.bk (ρ.set i .no) δ,ct:=fun ρ δ=>E.ct (ρ.set i .no) δ }
noncomputable def t2HAs (K:Frag) (i:Nat) (D:Addr) (ts:TS2) (tr:XTS2):XTS2:=fun C fs E ρ δ=>match PySem.W.mroIn K C (.ref D) with | some b=>if b=true then ts (asE i E) (ρ.set i (.val (.exc C fs))) δ else tr C fs E ρ δ | none=>False
theorem h2_as (i:Nat) (tp:Top X) (d:XHd X.K D) (hm:X.mg y=some (.ref D)) (hN:X.N.Nodup) (hs:∀ x,PSs2 (X.hdl x) Y W0 (b₀ :: suite) ts) (hr:PH2 X Y W rest tr) (hi:X.N[i]?=some n:=by rfl) (hk:X.env.scope.names.lookup n=some .local:=by rfl) (hg:Gl X y:=by rfl) (hdb:(y == ("__debug__" : Str))=false:=by decide) :
    PH2 X Y W (.ExceptHandler (some (.Name y np)) (some n) (b₀ :: suite) pos :: rest) (t2HAs X.K i D ts tr):=ph2 (ph_as (ts:=upS X.K Y W0 ts) tp d hg hm hN hi hk (fun x=>(hs x).go) hr.go hdb) fun C od E1 σ H ⟨F,ρ,δ,E2,fs,I,r,h,er⟩=>by
  unfold t2HAs at h
  split at h
  · rename_i b e
    refine ⟨b,e,?_⟩
    cases b with
    | true =>
      rw [if_pos rfl] at h ⊢
      intro y hy
      have s1:=I.grow (o:=XO false y C od) hy
      have rr:Rep X.K (upd F y (XO false y C od)) (.exc C fs) (.ref y):=by
        refine rep_exc.mpr ⟨y,false,rfl,?_⟩
        cases od with
        | none=>exact .inl ⟨r,upd_same⟩
        | some dx =>
          obtain ⟨us,e1,rf⟩:=r
          refine .inr ⟨dx,us,upd_same,?_,rf.mono s1⟩
          rw [upd_ne (ne_of_none (I.sub _ _ e1) hy)]; exact e1
      refine ⟨_,_,δ,asE i E2,(I.alloc hy).put rr,h,⟨fun σ' F' H' ρ' δ' I' s' h'=>?_,fun d v σ' F' H' ρ' δ' I' s'=>er.rt d v σ' F' H' ρ' δ' I' (s1.trans s'),fun _ _ _ _ _ _ _ _ _ _ _ z=>z,fun σ' F' H' ρ' δ' I' s' h'=>?_,fun σ' F' H' ρ' δ' I' s' h'=>?_⟩⟩
      · exact er.nx _ F' H' _ δ' I'.gone (s1.trans s') h'
      · exact er.bk _ F' H' _ δ' I'.gone (s1.trans s') h'
      · exact er.ct _ F' H' _ δ' I'.gone (s1.trans s') h'
    | false=>rw [if_neg Bool.false_ne_true] at h ⊢; exact ⟨F,ρ,δ,E2,fs,I,r,h,er⟩
  · exact h.elim
noncomputable def t2Try (tb:TS2) (th:XTS2):TS2:=fun E ρ δ=>tb { E with xc:=fun C fs ρ' δ'=>th C fs E ρ' δ' } ρ δ
theorem s2_try {body:List Stmt} {h₀:ExceptHandler} {hs:List ExceptHandler} {tb:TS2} {th:XTS2} (tp:Top X) (hb:∀ pins W',PSs2 (X.tr pins W') Y W' body tb) (hh:PH2 X Y W (h₀ :: hs) th):PS2 X Y W (.Try body (h₀ :: hs) [] [] pos) (t2Try tb th) :=
  ps2 (ps_try (tb:=fun W'=>upS X.K Y W' tb) tp (fun p W'=>(hb p W').go) hh.go) fun E1 σ H ⟨F,ρ,δ,E2,I,h,er⟩ =>
    ⟨fun C od σ' H'=>∃ F' ρ' δ' fs,I2 X.K Y F' H' σ' ρ' δ'∧Same F F'∧XRep X.K F' od fs∧th C fs E2 ρ' δ',
      ⟨F,ρ,δ,_,I,h,⟨er.nx,er.rt,fun C od fs σ' F' H' ρ' δ' I' s' r' h'=>⟨F',ρ',δ',fs,I',s',r',h'⟩,er.bk,er.ct⟩⟩,
      fun C od σ' H' ⟨F',ρ',δ',fs,I',s',r',h'⟩=>⟨F',ρ',δ',E2,fs,I',r',h',er.mono s'⟩⟩
end
end DL
set_option Elab.async false
set_option linter.all false
set_option maxRecDepth 100000
set_option maxHeartbeats 4000000
namespace DL
open PySem PySem.Spec L2
open PySem.W (XC)
noncomputable def Yields (K:Frag) (F H:Hp) (d:D) (v:V) (H':Hp):Prop:=(H'=H∧Rep K F d v)∨∃ p vs es,H p=none∧H'=upd H p (.tup vs)∧v=.ref p∧d=.tup es∧Reps K F es vs
structure SrcOk (K:Frag) (J:It) (F:Hp) (ds:List D):Prop where
  item:∀ (i:Nat) (d:D) (F' H:Hp),ds[i]?=some d→Same F F'→Same F' H→J.go i H∧∀ v H',J.yld i H v H'→Yields K F' H d v H'
  stop:∀ (F' H:Hp),Same F F'→Same F' H→J.stop ds.length H
theorem I2.yld {K:Frag} {Y:Y2} {F H H':Hp} {σ:St} {ρ:En} {δ:Dk} {d:D} {v:V} (I:I2 K Y F H σ ρ δ) (y:Yields K F H d v H'):∃ F',I2 K Y F' H' σ ρ δ∧Same F F'∧Rep K F' d v∧∀ D u,H D=some u→F D=none→F' D=none:=by
  rcases y with ⟨rfl,r⟩ | ⟨p,vs,es,hp,rfl,rfl,rfl,r⟩
  · exact ⟨F,I,Same.refl F,r,fun _ _ _ z=>z⟩
  · exact ⟨_,I.alloc hp,I.grow hp,I.tup hp r,fun D u h z=>by rw [upd_ne (ne_of_none h hp)]; exact z⟩
noncomputable abbrev TI2:=XK2→En→Dk→(List D→En→Dk→Prop)→Prop
noncomputable def upI2 (K:Frag) (Y:Y2) (W:XW) (t:TI2):TI:=fun σ H R=>∃ F ρ δ x q,I2 K Y F H σ ρ δ∧t x ρ δ q∧(∀ ds J F' H' ρ' δ',I2 K Y F' H' σ ρ' δ'→Same F F'→SrcOk K J F' ds→q ds ρ' δ'→R J H')∧XR K Y W F x
structure PI2 (X:Cx) (Y:Y2) (W:XW) (tg iter:Expr) (t:TI2):Prop where
  go:PI X tg iter (upI2 X.K Y W t)
theorem pi_mono {X:Cx} {tg iter:Expr} {t t':TI} (h:PI X tg iter t) (k:∀ σ H R,t' σ H R→t σ H R):PI X tg iter t':=fun pins s σ H R I q=>h pins s σ H R I (k σ H R q)
theorem pi2 {X:Cx} {Y:Y2} {W:XW} {tg iter:Expr} {t:TI} {u:TI2} (h:PI X tg iter t) (k:∀ σ H R,upI2 X.K Y W u σ H R→t σ H R):PI2 X Y W tg iter u:=⟨pi_mono h k⟩
section
variable {X:Cx} {Y:Y2} {W:XW} {tg:Expr} {K:Frag}
theorem src_tup {F:Hp} {a:Addr} {xs:List V} {ds:List D} (h:SqT K F a xs) (r:Reps K F ds xs):SrcOk K (Itt K a) F ds:=by
  refine ⟨fun i d F' H e s1 s2=>?_,fun F' H s1 s2=>?_⟩
  · obtain ⟨v,ev,rv⟩:=r.get e
    have hs:=(s1.trans s2).sqT h
    refine ⟨⟨xs,v,hs,ev⟩,fun u H' y=>?_⟩
    obtain ⟨rfl,y⟩:=y
    have:=y xs hs
    rw [ev] at this
    cases this
    exact .inl ⟨rfl,rv.mono s1⟩
  · exact ⟨xs,(s1.trans s2).sqT h,by rw [r.length]; exact Nat.le_refl _⟩
theorem src_list' {F:Hp} {a:Addr} {xs:List V} {ds:List D} (h:SqL K F a xs) (r:Reps K F ds xs):SrcOk K (Itl K a) F ds:=by
  refine ⟨fun i d F' H e s1 s2=>?_,fun F' H s1 s2=>?_⟩
  · obtain ⟨v,ev,rv⟩:=r.get e
    have hs:=(s1.trans s2).sqL h
    refine ⟨⟨xs,v,hs,ev⟩,fun u H' y=>?_⟩
    obtain ⟨rfl,y⟩:=y
    have:=y xs hs
    rw [ev] at this
    cases this
    exact .inl ⟨rfl,rv.mono s1⟩
  · exact ⟨xs,(s1.trans s2).sqL h,by rw [r.length]; exact Nat.le_refl _⟩
noncomputable def rngD (lo:Int) (n:Nat):List D:=(List.range n).map fun (k:Nat)=>D.int (lo + (k:Int))
theorem rngD_get {lo:Int} {n i:Nat} {d:D} (e:(rngD lo n)[i]?=some d):i < n∧d=.int (lo + (i:Int)):=by
  unfold rngD at e
  rw [List.getElem?_map,Option.map_eq_some_iff] at e
  obtain ⟨k,ek,rfl⟩:=e
  obtain ⟨h1,h2⟩:=List.getElem?_eq_some_iff.mp ek
  rw [List.length_range] at h1
  rw [List.getElem_range] at h2
  subst h2
  exact ⟨h1,rfl⟩
theorem rngD_len {lo:Int} {n:Nat}:(rngD lo n).length=n:=by unfold rngD; simp
theorem src_rng {F:Hp} {lo:Int} {n:Nat}:SrcOk K (Itr lo n) F (rngD lo n):=by
  refine ⟨fun i d F' H e s1 s2=>?_,fun F' H s1 s2=>?_⟩
  · obtain ⟨hi,rfl⟩:=rngD_get e
    refine ⟨hi,fun v H' y=>?_⟩
    obtain ⟨rfl,rfl⟩:=y
    exact .inl ⟨rfl,rep_int.mpr rfl⟩
  · show n≤_
    rw [rngD_len]; exact Nat.le_refl _
noncomputable def iSeq (K:Frag) (tl:TE):TI:=fun σ H R=>tl σ H fun x H1=>∃ a,x=.ref a∧(((∃ xs,SqL K H1 a xs)∧R (Itl K a) H1)∨((∃ xs,SqT K H1 a xs)∧R (Itt K a) H1))
theorem pi_seq {l:Expr} {tl:TE} (hl:PE X l tl):PI X tg l (iSeq X.K tl):=by
  intro pins s σ H R I h
  refine thn (hl pins s σ H _ I h) fun v s1 ⟨x,H1,I1,r1,q1⟩=>?_
  obtain ⟨a,e,q⟩:=q1
  subst e
  cases r1
  rcases q with ⟨⟨xs,hq⟩,q⟩ | ⟨⟨xs,hq⟩,q⟩
  · obtain ⟨its,rv,p,hz⟩:=I1.list hq
    refine wpAny_pyIter_list p.isList ?_
    refine ⟨s1.heap.objs.size,[s1.heap.objs.size],_,_,H1,rfl,I1.kept (t':=s1.toks) fun b o e=>Heap.get?_push_of_some _ e,turn_list a _,⟨_,Heap.get?_push_size _ rfl,rfl,rfl⟩,fun b hb=>?_,q⟩
    have e:b=s1.heap.objs.size:=by simpa using hb
    subst e
    exact I1.fpOk (Nat.le_refl _) (I1.hok.fresh (Nat.le_refl _))
  · obtain ⟨its,rv,p,hz⟩:=I1.tuple hq
    refine wpAny_pyIter_tuple (show s1.heap.IsTuple a its.toArray from p) ?_
    refine ⟨s1.heap.objs.size,[s1.heap.objs.size],_,_,H1,rfl,I1.kept (t':=s1.toks) fun b o e=>Heap.get?_push_of_some _ e,turn_tuple a _,⟨_,Heap.get?_push_size _ rfl,rfl,rfl⟩,fun b hb=>?_,q⟩
    have e:b=s1.heap.objs.size:=by simpa using hb
    subst e
    exact I1.fpOk (Nat.le_refl _) (I1.hok.fresh (Nat.le_refl _))
noncomputable def t2Is (te:TE2):TI2:=fun x ρ δ q=>te x ρ δ fun d ρ1 δ1=>match seqD d with | some ds=>q ds ρ1 δ1 | none=>False
theorem seqD_w {F:Hp} {d:D} {xs:List D} {x:V} (h:seqD d=some xs) (r:Rep K F d x):∃ a vs,x=.ref a∧(SqL K F a vs∨SqT K F a vs)∧Reps K F xs vs:=seqD_v (Same.refl F) h r
theorem i2_seq {l:Expr} {te:TE2} (hl:PE2 X Y W l te):PI2 X Y W tg l (t2Is te):=pi2 (pi_seq hl.go) fun σ H R ⟨F,ρ,δ,x,q,I,h,k,kx⟩=>by
  refine ⟨F,ρ,δ,x,_,I,h,fun d v F' H' ρ' δ' I' s' r' h'=>?_,kx⟩
  split at h'
  · rename_i ds e
    obtain ⟨a,vs,rfl,sq,z⟩:=seqD_w e r'
    refine ⟨a,rfl,?_⟩
    rcases sq with sq | sq
    · exact .inl ⟨⟨vs,I'.sub.sqL sq⟩,k ds _ F' H' ρ' δ' I' s' (src_list' sq z) h'⟩
    · exact .inr ⟨⟨vs,I'.sub.sqT sq⟩,k ds _ F' H' ρ' δ' I' s' (src_tup sq z) h'⟩
  · exact h'.elim
variable {a b:Expr} {ta:TA2} {p pos:Pos}
noncomputable def t2R1 (ta:TA2):TI2:=fun x ρ δ q=>ta x ρ δ fun ds ρ1 δ1=>match ds with | [.int j]=>(-(2 ^ 62)≤j∧j < 2 ^ 62)∧q (rngD 0 j.toNat) ρ1 δ1 | _=>False
theorem i2_range1 (hm:X.mg "range" = none) (ha:PA2 X Y W [a] ta) (hg:Gl X "range" := by rfl) (hs:starEach [a] X.env=[(false,eval a X.env)]:=by rfl):PI2 X Y W tg (.Call (.Name "range" p) [a] [] pos) (t2R1 ta):=pi2 (pi_range1 hg hm ha.go hs) fun σ H R ⟨F,ρ,δ,x,q,I,h,k,kx⟩=>by
  refine ⟨F,ρ,δ,x,_,I,h,fun ds vs F' H' ρ' δ' I' s' r' h'=>?_,kx⟩
  split at h'
  · rename_i j
    obtain ⟨v,rfl,r1⟩:=reps1 r'
    rw [rep_int.mp r1]
    exact ⟨j,rfl,h'.1.1,h'.1.2,k _ _ F' H' ρ' δ' I' s' src_rng h'.2⟩
  · exact h'.elim
noncomputable def t2R2 (ta:TA2):TI2:=fun x ρ δ q=>ta x ρ δ fun ds ρ1 δ1=>match ds with | [.int i,.int j]=>(-(2 ^ 62)≤i∧i < 2 ^ 62∧-(2 ^ 62)≤j∧j < 2 ^ 62)∧q (rngD i (j - i).toNat) ρ1 δ1 | _=>False
theorem i2_range2 (hm:X.mg "range" = none) (ha:PA2 X Y W [a,b] ta) (hg:Gl X "range" := by rfl) (hs:starEach [a,b] X.env=[(false,eval a X.env),(false,eval b X.env)]:=by rfl) (hs2:starEach [b] X.env=[(false,eval b X.env)]:=by rfl) :
    PI2 X Y W tg (.Call (.Name "range" p) [a,b] [] pos) (t2R2 ta):=pi2 (pi_range2 hg hm ha.go hs hs2) fun σ H R ⟨F,ρ,δ,x,q,I,h,k,kx⟩=>by
  refine ⟨F,ρ,δ,x,_,I,h,fun ds vs F' H' ρ' δ' I' s' r' h'=>?_,kx⟩
  split at h'
  · rename_i i j
    obtain ⟨v,u,rfl,r1,r2⟩:=reps2 r'
    rw [rep_int.mp r1,rep_int.mp r2]
    exact ⟨i,j,rfl,h'.1,k _ _ F' H' ρ' δ' I' s' src_rng h'.2⟩
  · exact h'.elim
end
noncomputable abbrev G2:=D→En→Option En
noncomputable def TgD (K:Frag) (g:TG) (g2:G2):Prop:=∀ (Y:Y2) (F H:Hp) (σ:St) (ρ ρ':En) (δ:Dk) (d:D) (v:V) (Q:St→Hp→Prop),I2 K Y F H σ ρ δ→Rep K F d v→g2 d ρ=some ρ'→(∀ σ',I2 K Y F H σ' ρ' δ→Q σ' H)→g v σ H Q
noncomputable def g2N (i:Nat):G2:=fun d ρ=>some (ρ.set i (.val d))
theorem td_name {K:Frag} {i:Nat}:TgD K (gName i) (g2N i):=fun Y F H σ ρ ρ' δ d v Q I r e k=>by cases e; exact k _ (I.put r)
noncomputable def setAll:List Nat→List D→En→Option En
  | [],[],ρ=>some ρ
  | i :: is,d :: ds,ρ=>setAll is ds (ρ.set i (.val d))
  | _,_,_=>none
noncomputable def g2T (is:List Nat):G2:=fun d ρ=>match d with | .tup ds=>setAll is ds ρ | _=>none
noncomputable def gAll:List Nat→TGs
  | []=>gNil
  | i :: is=>gCons (gName i) (gAll is)
theorem td_all {K:Frag}:∀ {is:List Nat} {ds:List D} {vs:List V} {Y:Y2} {F H:Hp} {σ:St} {ρ ρ':En} {δ:Dk} {Q:St→Hp→Prop},I2 K Y F H σ ρ δ→Reps K F ds vs→setAll is ds ρ=some ρ'→(∀ σ',I2 K Y F H σ' ρ' δ→Q σ' H)→gAll is vs σ H Q∧vs.length=is.length
  | [],[],vs,Y,F,H,σ,ρ,ρ',δ,Q,I,r,e,k=>by cases e; rw [reps_nil.mp r]; exact ⟨⟨rfl,k σ I⟩,rfl⟩
  | i :: is,d :: ds,vs,Y,F,H,σ,ρ,ρ',δ,Q,I,r,e,k=>by
    obtain ⟨v,l,rfl,r1,r2⟩:=reps_cons.mp r
    obtain ⟨h1,h2⟩:=td_all (I.put (i:=i) r1) r2 e k
    exact ⟨⟨v,l,rfl,h1⟩,by rw [List.length_cons,List.length_cons,h2]⟩
  | [],d :: ds,vs,Y,F,H,σ,ρ,ρ',δ,Q,I,r,e,k=>by cases e
  | i :: is,[],vs,Y,F,H,σ,ρ,ρ',δ,Q,I,r,e,k=>by cases e
theorem td_tup {K:Frag} {is:List Nat} {n:Nat} (hn:is.length=n):TgD K (gTup K n (gAll is)) (g2T is):=fun Y F H σ ρ ρ' δ d v Q I r e k=>by
  unfold g2T at e
  split at e
  · rename_i ds
    obtain ⟨a,vs,rfl,ea,z⟩:=rep_tup.mp r
    obtain ⟨h1,h2⟩:=td_all I z e k
    exact ⟨a,vs,rfl,SqT.of (I.sub _ _ ea),by rw [h2,hn],h1⟩
  · cases e
noncomputable def forL (g:G2) (body:TS2) (E:End2):List D→En→Dk→Prop
  | [],ρ,δ=>E.nx ρ δ
  | d :: ds,ρ,δ=>match g d ρ with
    | some ρ'=>body { E with nx:=forL g body E ds,ct:=forL g body E ds,bk:=E.nx } ρ' δ
    | none=>False
noncomputable def t2For (ti:TI2) (g:G2) (body:TS2):TS2:=fun E ρ δ=>ti E.xc ρ δ fun ds ρ1 δ1=>forL g body E ds ρ1 δ1
section
variable {X:Cx} {Y:Y2} {W:XW} {tg iter:Expr} {pos:Pos}
theorem s2_for {body:List Stmt} {ti:TI2} {g:TG} {g2:G2} {tb:TS2} (hp:PassesOwn (model X.prog X.w) X.A X.env X.xe) (hc:X.calm=true) (hi:PI2 X Y W tg iter ti) (hg:PG X tg g) (hd:TgD X.K g g2) (hb:PSs2 X Y W body tb)
    (hs:∀ x,foldedSetIterable iter X.env x=pure x:=by intro _; rfl):PS2 X Y W (.For tg iter body [] pos) (t2For ti g2 tb):=ps2 (ps_for hp hc hi.go hg hb.go hs) fun E1 σ H ⟨F,ρ,δ,E2,I,h,er⟩=>by
  refine ⟨F,ρ,δ,E2.xc,_,I,h,fun ds J F1 H1 ρ1 δ1 I1 s1 src h1=>?_,er.xc⟩
  refine ⟨fun i m σ H=>∃ F' ρ' δ',I2 X.K Y F' H σ ρ' δ'∧Same F1 F'∧forL g2 tb E2 (ds.drop i) ρ' δ'∧i≤ds.length∧m=ds.length - i,⟨ds.length,F1,ρ1,δ1,I1,Same.refl F1,by simpa using h1,Nat.zero_le _,by simp⟩,?_⟩
  rintro i m σ' H' ⟨F',ρ',δ',I',s',h',hi,rfl⟩
  cases e:ds[i]? with
  | none =>
    have hl:ds.length≤i:=List.getElem?_eq_none_iff.mp e
    have ei:i=ds.length:=by omega
    subst ei
    rw [List.drop_length] at h'
    exact .inl ⟨src.stop F' H' s' I'.sub,er.nx σ' F' H' ρ' δ' I' (s1.trans s') h'⟩
  | some d =>
    have hl:i < ds.length:=(List.getElem?_eq_some_iff.mp e).1
    obtain ⟨go,yl⟩:=src.item i d F' H' e s' I'.sub
    refine .inr ⟨go,fun σ2 H2=>∃ F2 ρ2 δ2,I2 X.K Y F2 H2 σ2 ρ2 δ2∧Same F1 F2∧forL g2 tb E2 (ds.drop (i + 1)) ρ2 δ2,fun σ2 H2 ⟨F2,ρ2,δ2,I2',s2,h2⟩=>⟨ds.length - (i + 1),by omega,F2,ρ2,δ2,I2',s2,h2,hl,rfl⟩,fun x H2 y=>?_⟩
    obtain ⟨F2,I2',s2,r2,_⟩:=I'.yld (yl x H2 y)
    have ed:ds.drop i=d :: ds.drop (i + 1):=by rw [List.drop_eq_getElem_cons hl]; congr 1; exact (List.getElem?_eq_some_iff.mp e).2
    rw [ed] at h'
    unfold forL at h'
    split at h'
    · rename_i ρ3 e3
      refine hd Y F2 H2 σ' ρ' ρ3 δ' d x _ I2' r2 e3 fun σ3 I3=>?_
      have sa:Same F1 F2:=s'.trans s2
      refine ⟨F2,ρ3,δ',_,I3,h',⟨fun σ4 F4 H4 ρ4 δ4 I4 s4 h4=>⟨F4,ρ4,δ4,I4,sa.trans s4,h4⟩,fun d v σ4 F4 H4 ρ4 δ4 I4 s4=>er.rt d v σ4 F4 H4 ρ4 δ4 I4 ((s1.trans sa).trans s4),er.xc.mono (s1.trans sa),fun σ4 F4 H4 ρ4 δ4 I4 s4 h4=>er.nx σ4 F4 H4 ρ4 δ4 I4 ((s1.trans sa).trans s4) h4,fun σ4 F4 H4 ρ4 δ4 I4 s4 h4=>⟨F4,ρ4,δ4,I4,sa.trans s4,h4⟩⟩⟩
    · exact h'.elim
end
section
variable {K:Frag} {Y:Y2} {F H:Hp} {σ:St} {ρ:En} {δ:Dk}
theorem I2.side {D:Addr} {o:HO} (I:I2 K Y F H σ ρ δ) (hF:F D=none) (h0:Y.H₀ D=none) (hd:Off δ D) (hD:∃ vs,H D=some (.lst vs)) (no:∀ j a,ownAt ρ σ j a→a≠D):I2 K Y F (upd H D o) σ ρ δ:=by
  obtain ⟨vs,hD⟩:=hD
  refine ⟨⟨fun b u e=>?_,fun b fs e=>?_,fun b u e f=>?_,I.ran.f0,I.ran.fnew,I.ran.dto⟩,fun j c e=>?_,I.len,I.apart,I.off⟩
  · rw [upd_ne (ne_of_none e hF)]; exact I.sub _ _ e
  · obtain ⟨q1,ws,q2,q3⟩:=I.ran.dk b fs e
    exact ⟨q1,ws,by rw [upd_ne (Ne.symm (hd b fs e))]; exact q2,q3⟩
  · rw [upd_ne (ne_of_none e h0)]; exact I.ran.keep b u e f
  · have w:=I.env j c e
    cases c with
    | no=>trivial
    | val d=>exact w
    | own fs =>
      obtain ⟨b,ws,e1,h1,f1,g1,r1⟩:=w
      exact ⟨b,ws,e1,by rw [upd_ne (no j b ⟨.inl ⟨fs,e⟩,join_some e1⟩)]; exact h1,f1,g1,r1⟩
    | obj C fs =>
      obtain ⟨b,dx,ws,e1,es1,h1,h2,f1,f2,g1,g2,r1⟩:=w
      have nd:dx≠D:=fun w=>by rw [w,hD] at h2; cases h2
      exact ⟨b,dx,ws,e1,es1,by rw [upd_ne (no j b ⟨.inr (.inl ⟨C,fs,e⟩),join_some e1⟩)]; exact h1,by rw [upd_ne nd]; exact h2,f1,f2,g1,g2,r1⟩
    | ownD fs =>
      obtain ⟨b,ws,e1,h1,f1,g1,r1⟩:=w
      exact ⟨b,ws,e1,by rw [upd_ne (no j b ⟨.inr (.inr ⟨fs,e⟩),join_some e1⟩)]; exact h1,f1,g1,r1⟩
theorem I2.ice {D:Addr} {vs:List V} (I:I2 K Y F H σ ρ δ) (hF:F D=none) (h0:Y.H₀ D=none) (hd:Off δ D) (hD:H D=some (.lst vs)) (no:∀ j a,ownAt ρ σ j a→a≠D):I2 K Y (upd F D (.lst vs)) H σ ρ δ:=by
  refine ⟨⟨fun b u e=>?_,fun b fs e=>?_,I.ran.keep,fun b u e=>?_,fun b u e=>?_,I.ran.dto⟩,fun j c e=>?_,I.len,I.apart,I.off⟩
  · by_cases z:b=D
    · subst z; rw [upd_same] at e; cases e; exact hD
    · rw [upd_ne z] at e; exact I.sub _ _ e
  · obtain ⟨q1,ws,q2,q3⟩:=I.ran.dk b fs e
    exact ⟨by rw [upd_ne (Ne.symm (hd b fs e))]; exact q1,ws,q2,q3.mono (Same.new hF)⟩
  · rw [upd_ne (ne_of_none (I.ran.f0 b u e) hF)]; exact I.ran.f0 b u e
  · by_cases z:b=D
    · subst z; exact .inr h0
    · rw [upd_ne z] at e; exact I.ran.fnew b u e
  · have w:=I.env j c e
    cases c with
    | no=>trivial
    | val d=>obtain ⟨u,e1,r1⟩:=w; exact ⟨u,e1,r1.mono (Same.new hF)⟩
    | own fs =>
      obtain ⟨b,ws,e1,h1,f1,g1,r1⟩:=w
      exact ⟨b,ws,e1,h1,by rw [upd_ne (no j b ⟨.inl ⟨fs,e⟩,join_some e1⟩)]; exact f1,g1,r1.mono (Same.new hF)⟩
    | obj C fs =>
      obtain ⟨b,dx,ws,e1,es1,h1,h2,f1,f2,g1,g2,r1⟩:=w
      have nd:dx≠D:=fun w=>by rw [w,hD] at h2; cases h2
      exact ⟨b,dx,ws,e1,es1,h1,h2,by rw [upd_ne (no j b ⟨.inr (.inl ⟨C,fs,e⟩),join_some e1⟩)]; exact f1,by rw [upd_ne nd]; exact f2,g1,g2,r1.mono (Same.new hF)⟩
    | ownD fs =>
      obtain ⟨b,ws,e1,h1,f1,g1,r1⟩:=w
      exact ⟨b,ws,e1,h1,by rw [upd_ne (no j b ⟨.inr (.inr ⟨fs,e⟩),join_some e1⟩)]; exact f1,g1,r1.mono (Same.new hF)⟩
theorem I2.ownAddr {j:Nat} {a:Addr} (I:I2 K Y F H σ ρ δ) (o:ownAt ρ σ j a):∃ u,H a=some u:=by
  rcases o.1 with ⟨ds,q⟩ | ⟨C,fs,q⟩ | ⟨kvs,q⟩
  rotate_left 2
  · obtain ⟨b,us,e,hb,_⟩:=I.env j _ q
    rw [o.2] at e
    cases e
    exact ⟨_,hb⟩
  · obtain ⟨b,us,e,hb,_⟩:=I.env j _ q
    rw [o.2] at e
    cases e
    exact ⟨_,hb⟩
  · obtain ⟨b,dx,us,e,es0,hb,_⟩:=I.env j _ q
    rw [o.2] at e
    cases e
    exact ⟨_,hb⟩
noncomputable def captC:Option Cell→Cell | some (.val d)=>.val d | _=>.no
noncomputable def capt (ρ:En) (js:List Nat):En:=js.map fun j=>captC ρ[j]?
noncomputable def compL (te:TE2) (js:List Nat) (ρ:En) (q:List D→Dk→Prop):List D→List D→Dk→Prop
  | [],acc,δ=>q acc δ
  | d :: ds,acc,δ=>te (fun _ _ _ _=>False) (.val d :: capt ρ js) δ fun e _ δ1=>acc.length < 1000∧compL te js ρ q ds (acc++[e]) δ1
end
section
variable {X:Cx} {Y:Y2} {W:XW} {x:Str} {px pos:Pos} {elt iter:Expr} {js:List Nat} {scope:Scope} {te:TE2} {ti:TI2}
noncomputable def teY (K:Frag) (te:TE2):TE:=fun σ H Q=>∃ Y',upE K Y' W0 te σ H Q
variable {i:Nat} {y:Str} {py spos:Pos}
noncomputable def t2Comp (ti:TI2) (js:List Nat) (te:TE2):TE2:=fun x ρ δ q=>ti x ρ δ fun ds ρ1 δ1=>compL te js ρ1 (fun acc δ2=>q (.lst acc) ρ1 δ2) ds [] δ1
noncomputable def t2OwnC (i:Nat) (ti:TI2) (js:List Nat) (te:TE2):TS2:=fun E ρ δ=>ti E.xc ρ δ fun ds ρ1 δ1=>compL te js ρ1 (fun acc δ2=>E.nx (ρ1.set i (.own acc)) δ2) ds [] δ1
theorem I2.take {K:Frag} {F H:Hp} {σ:St} {ρ:En} {δ:Dk} {D:Addr} {ds:List DL.D} {vs:List V} (I:I2 K Y F H σ ρ δ) (hF:F D=none) (h0:Y.H₀ D=none) (hd:Off δ D) (hD:H D=some (.lst vs)) (no:∀ j a,ownAt ρ σ j a→a≠D) (r:Reps K F ds vs):I2 K Y F H (σ.set i (some (.ref D))) (ρ.set i (.own ds)) δ:=by
  have key:∀ j a,ownAt (ρ.set i (.own ds)) (σ.set i (some (.ref D))) j a→(j=i∧a=D)∨(j≠i∧ownAt ρ σ j a):=fun j a o=>by
    by_cases z:j=i
    · subst z
      have:=o.2
      rw [List.getElem?_set] at this
      by_cases hl:j < σ.length
      · simp [hl] at this
        exact .inl ⟨rfl,this.symm⟩
      · simp [hl] at this
    · obtain ⟨o1,o2⟩:=o
      simp only [List.getElem?_set_ne (Ne.symm z)] at o1 o2
      exact .inr ⟨z,o1,o2⟩
  refine ⟨I.ran,fun j c e=>?_,by simp [I.len],fun a b c n o1 o2=>?_,fun j a o=>?_⟩
  · by_cases z:j=i
    · subst z
      rw [List.getElem?_set] at e
      by_cases hl:j < ρ.length
      · simp [hl] at e
        subst e
        refine ⟨D,vs,?_,hD,hF,h0,r⟩
        rw [List.getElem?_set]
        simp [I.len ▸ hl]
      · simp [hl] at e
    · rw [List.getElem?_set_ne (Ne.symm z)] at e ⊢
      exact I.env j c e
  · rcases key a c o1 with ⟨z1,z2⟩ | ⟨z1,z2⟩
    · rcases key b c o2 with ⟨y1,y2⟩ | ⟨y1,y2⟩
      · exact n (z1.trans y1.symm)
      · exact no b c y2 z2
    · rcases key b c o2 with ⟨y1,y2⟩ | ⟨y1,y2⟩
      · exact no a c z2 y2
      · exact I.apart a b c n z2 y2
  · rcases key j a o with ⟨z1,z2⟩ | ⟨z1,z2⟩
    · rw [z2]; exact hd
    · exact I.off j a z2
end
section
variable {X:Cx} {Y:Y2} {W:XW} {pos:Pos}
theorem I2.deck {K:Frag} {F H:Hp} {σ:St} {ρ:En} {p:Addr} {ds:List D} {vs:List V} (I:I2 K Y F H σ ρ none) (h:H p=none) (r:Reps K F ds vs):I2 K Y F (upd H p (.lst vs)) σ ρ (some (p,ds)):=by
  have hF:F p=none:=I.sub.free h
  have h0:=I.ran.fresh h
  have n0:Y.δ₀=none:=by
    cases hd:Y.δ₀ with
    | none=>rfl
    | some q =>
      obtain ⟨a,gs⟩:=q
      obtain ⟨es,z⟩:=I.ran.dto.1 a gs hd
      cases z
  refine ⟨⟨fun b u e=>by rw [upd_ne (ne_of_none e hF)]; exact I.sub _ _ e,fun a es e=>(by cases e; exact ⟨hF,vs,upd_same,r⟩),fun b u e f=>by rw [upd_ne (ne_of_none e h0)]; exact I.ran.keep b u e f,I.ran.f0,I.ran.fnew,⟨fun a gs e=>(by rw [n0] at e; cases e),fun a gs e _=>(by cases e; exact h0)⟩⟩,fun j c e=>?_,I.len,I.apart,fun j a o b es e=>?_⟩
  · have w:=I.env j c e
    cases c with
    | no=>trivial
    | val d=>exact w
    | own fs =>
      obtain ⟨b,ws,e1,h1,f1,g1,r1⟩:=w
      exact ⟨b,ws,e1,by rw [upd_ne (ne_of_none h1 h)]; exact h1,f1,g1,r1⟩
    | obj C fs =>
      obtain ⟨b,dx,ws,e1,es1,h1,h2,f1,f2,g1,g2,r1⟩:=w
      exact ⟨b,dx,ws,e1,es1,by rw [upd_ne (ne_of_none h1 h)]; exact h1,by rw [upd_ne (ne_of_none h2 h)]; exact h2,f1,f2,g1,g2,r1⟩
    | ownD fs =>
      obtain ⟨b,ws,e1,h1,f1,g1,r1⟩:=w
      exact ⟨b,ws,e1,by rw [upd_ne (ne_of_none h1 h)]; exact h1,f1,g1,r1⟩
  · cases e
    obtain ⟨u,hu⟩:=I.ownAddr o
    exact ne_of_none hu h
noncomputable def t2RetDk (ta:TA2):TS2:=fun E ρ δ=>ta E.xc ρ δ fun ds ρ1 δ1=>δ1=none∧ds.length≤1000∧∀ p,E.rt (.ref p) (some (p,ds))
theorem s2_retDk {es:List Expr} {ta:TA2} {lpos:Pos} (ha:PA2 X Y W es ta):PS2 X Y W (.Return (some (.List es lpos)) pos) (t2RetDk ta):=ps2 (ps_ret (pe_lst ha.go)) fun E1 σ H ⟨F,ρ,δ,E2,I,h,er⟩ =>
  ⟨F,ρ,δ,E2.xc,_,I,h,fun ds vs F1 H1 ρ1 δ1 I1 s1 r1 h1=>⟨sz_ok (by rw [r1.length]; exact h1.2.1),fun p hp=>by
    obtain ⟨rfl,_,h2⟩:=h1
    exact er.rt _ _ σ F1 _ ρ1 _ (I1.deck hp r1) s1 (rep_ref.mpr rfl) (h2 p)⟩,er.xc⟩
noncomputable def countQ (xs:List D) (y:D):Nat:=xs.countP fun z=>eqV (toV z) (toV y)
noncomputable def t2Count (ta:TE2) (t:TA2):TE2:=fun x ρ δ q=>ta x ρ δ fun d ρ1 δ1=>match d with
  | .lst xs=>t x ρ1 δ1 fun es ρ2 δ2=>(match es with | [y]=>(flatD y && xs.all flatD)=true∧q (.int (countQ xs y:Nat)) ρ2 δ2 | _=>False)
  | _=>False
end
end DL
set_option Elab.async false
set_option linter.all false
set_option maxRecDepth 100000
set_option maxHeartbeats 4000000
namespace DL
open PySem PySem.Spec L2
open PySem.W (XC)
section
variable {X:Cx} {Y:Y2} {W:XW} {pos:Pos}
end
section
variable (K:Frag)
open PySem.W (kitOne kitAny)
theorem ko {n:String} (h:n∈BT):kitOne K (.type n) (.type "bool")=some (n == "bool")∧kitOne K (.type n) (.type "int")=some (n == "int" || n == "bool") ∧
    kitOne K (.type n) (.type "list")=some (n == "list")∧kitOne K (.type n) (.type "tuple")=some (n == "tuple")∧kitAny K (.type n) [.type "list",.type "tuple"]=some (n == "list" || n == "tuple"):=kt_all K h
theorem ko_bool {d:D} (h:TyD K d) (hp:∀ C fs,d≠.ins C fs∧d≠.exc C fs):instQ K d (.ty "bool")=some (match d with | .bl _=>true | _=>false):=by
  cases d with
  | non=>exact (ko K (n := "NoneType") (by decide)).1
  | bl b=>exact (ko K (n := "bool") (by decide)).1
  | int b=>exact (ko K (n := "int") (by decide)).1
  | str b=>exact (ko K (n := "str") (by decide)).1
  | lst b=>exact (ko K (n := "list") (by decide)).1
  | tup b=>exact (ko K (n := "tuple") (by decide)).1
  | scr b=>exact h.elim
  | dic b=>exact (ko K (n := "dict") (by decide)).1
  | dwk b=>exact h.elim
  | ins C b=>exact absurd rfl (hp C b).1
  | exc C b=>exact absurd rfl (hp C b).2
  | ref a=>exact h.elim
  | ty a=>exact h.elim
theorem ko_int {d:D} (h:TyD K d) (hp:∀ C fs,d≠.ins C fs∧d≠.exc C fs):instQ K d (.ty "int")=some (match d with | .bl _=>true | .int _=>true | _=>false):=by
  cases d with
  | non=>exact (ko K (n := "NoneType") (by decide)).2.1
  | bl b=>exact (ko K (n := "bool") (by decide)).2.1
  | int b=>exact (ko K (n := "int") (by decide)).2.1
  | str b=>exact (ko K (n := "str") (by decide)).2.1
  | lst b=>exact (ko K (n := "list") (by decide)).2.1
  | tup b=>exact (ko K (n := "tuple") (by decide)).2.1
  | scr b=>exact h.elim
  | dic b=>exact (ko K (n := "dict") (by decide)).2.1
  | dwk b=>exact h.elim
  | ins C b=>exact absurd rfl (hp C b).1
  | exc C b=>exact absurd rfl (hp C b).2
  | ref a=>exact h.elim
  | ty a=>exact h.elim
theorem ko_tuple {d:D} (h:TyD K d) (hp:∀ C fs,d≠.ins C fs∧d≠.exc C fs):instQ K d (.ty "tuple")=some (match d with | .tup _=>true | _=>false):=by
  cases d with
  | non=>exact (ko K (n := "NoneType") (by decide)).2.2.2.1
  | bl b=>exact (ko K (n := "bool") (by decide)).2.2.2.1
  | int b=>exact (ko K (n := "int") (by decide)).2.2.2.1
  | str b=>exact (ko K (n := "str") (by decide)).2.2.2.1
  | lst b=>exact (ko K (n := "list") (by decide)).2.2.2.1
  | tup b=>exact (ko K (n := "tuple") (by decide)).2.2.2.1
  | scr b=>exact h.elim
  | dic b=>exact (ko K (n := "dict") (by decide)).2.2.2.1
  | dwk b=>exact h.elim
  | ins C b=>exact absurd rfl (hp C b).1
  | exc C b=>exact absurd rfl (hp C b).2
  | ref a=>exact h.elim
  | ty a=>exact h.elim
theorem ko_row {d:D} (h:TyD K d) (hp:∀ C fs,d≠.ins C fs∧d≠.exc C fs):instQ K d (.tup [.ty "list",.ty "tuple"])=some (match d with | .lst _=>true | .tup _=>true | _=>false):=by
  cases d with
  | non=>exact (ko K (n := "NoneType") (by decide)).2.2.2.2
  | bl b=>exact (ko K (n := "bool") (by decide)).2.2.2.2
  | int b=>exact (ko K (n := "int") (by decide)).2.2.2.2
  | str b=>exact (ko K (n := "str") (by decide)).2.2.2.2
  | lst b=>exact (ko K (n := "list") (by decide)).2.2.2.2
  | tup b=>exact (ko K (n := "tuple") (by decide)).2.2.2.2
  | scr b=>exact h.elim
  | dic b=>exact (ko K (n := "dict") (by decide)).2.2.2.2
  | dwk b=>exact h.elim
  | ins C b=>exact absurd rfl (hp C b).1
  | exc C b=>exact absurd rfl (hp C b).2
  | ref a=>exact h.elim
  | ty a=>exact h.elim
end
noncomputable def plainD:D→Bool
  | .non=>true | .bl _=>true | .int _=>true | .str _=>true | .lst _=>true | .tup _=>true | .dic _=>true | _=>false
theorem plain_ty {K:Frag} {d:D} (h:plainD d=true):TyD K d∧∀ C fs,d≠.ins C fs∧d≠.exc C fs:=by
  cases d with
  | scr b=>cases h
  | dwk b=>cases h
  | ins C b=>cases h
  | exc C b=>cases h
  | ref a=>cases h
  | ty a=>cases h
  | _=>exact ⟨trivial,fun C fs=>⟨(by intro z; cases z),(by intro z; cases z)⟩⟩
noncomputable def wholeD:D→Int→Int→Bool
  | .int i,lo,hi=>decide (lo≤i) && decide (i≤hi)
  | _,_,_=>false
end DL
namespace DL
open PySem PySem.Spec L2
section
variable {X:Cx} {Y:Y2} {W:XW} {pos:Pos} {a:Expr} {ta:TE2}
theorem e2_gx {x:Str} {n:Int} (hm:∃ t,X.mg x=some (.int n t)) (hg:Gl X x:=by rfl) (hd:(x == ("__debug__" : Str))=false:=by decide):PE2 X Y W (.Name x pos) (t2C (.int n)):=by
  obtain ⟨t,hm⟩:=hm
  exact e2_gi hm ⟨t,rfl⟩ hg hd
theorem e2_fldK (K:Frag) {f:Str} (ha:PE2 X Y W a ta) (hK:X.K=K:=by rfl) (hb:attributeBase a f X.env (eval a X.env)=eval a X.env:=by rfl):PE2 X Y W (.Attribute a f pos) (t2Fld K f ta):=hK ▸ e2_fld ha hb
theorem e2_xfldK (K:Frag) {f:Str} (ha:PE2 X Y W a ta) (hK:X.K=K:=by rfl) (hb:attributeBase a f X.env (eval a X.env)=eval a X.env:=by rfl):PE2 X Y W (.Attribute a f pos) (t2XFld K f ta):=hK ▸ e2_xfld ha hb
variable {x:Str} {p:Pos} {e:Expr} {te:TE2}
theorem s2_selfK (K:Frag) (i:Nat) {f:Str} {tpos:Pos} (he:PE2 X Y W e te) (hK:X.K=K:=by rfl) (hN:X.N[i]?=some x:=by rfl) (hv:Vis X.env.scope x:=by walk_at "v3") (hd:(x == ("__debug__" : Str))=false:=by decide) (hcd:(x == ("__classdict__" : Str))=false:=by decide)
    (hs:swapsWith e (some (.Attribute (.Name x p) f tpos)) pos.line X.env=pure false:=by rfl):PS2 X Y W (.Assign [.Attribute (.Name x p) f tpos] e pos) (t2Self K i f te):=hK ▸ s2_self i he hN hv hd hcd hs
variable {D:Addr} {y n:Str} {np:Pos} {b₀:Stmt} {suite:List Stmt} {rest:List ExceptHandler} {ts:TS2} {tr:XTS2}
theorem h2_consK (K:Frag) (tp:Top X) (d:XHd K D) (hm:X.mg y=some (.ref D)) (hs:∀ x,PSs2 (X.hdl x) Y W0 (b₀ :: suite) ts) (hr:PH2 X Y W rest tr) (hK:X.K=K:=by rfl) (hg:Gl X y:=by rfl) (hdb:(y == ("__debug__" : Str))=false:=by decide) :
    PH2 X Y W (.ExceptHandler (some (.Name y np)) none (b₀ :: suite) pos :: rest) (t2H K D ts tr):=by subst hK; exact h2_cons tp d hm hs hr hg hdb
theorem h2_asK (K:Frag) (i:Nat) (tp:Top X) (d:XHd K D) (hm:X.mg y=some (.ref D)) (hN:X.N.Nodup) (hs:∀ x,PSs2 (X.hdl x) Y W0 (b₀ :: suite) ts) (hr:PH2 X Y W rest tr) (hK:X.K=K:=by rfl) (hi:X.N[i]?=some n:=by rfl) (hk:X.env.scope.names.lookup n=some .local:=by rfl) (hg:Gl X y:=by rfl) (hdb:(y == ("__debug__" : Str))=false:=by decide) :
    PH2 X Y W (.ExceptHandler (some (.Name y np)) (some n) (b₀ :: suite) pos :: rest) (t2HAs K i D ts tr):=by subst hK; exact h2_as i tp d hm hN hs hr hi hk hg hdb
end
end DL
namespace DL
open L2
theorem atI_lit {α:Type} (l:List α) (k:Nat):atI l (no_index (OfNat.ofNat k))=l[k]?:=by
  have e:(OfNat.ofNat k:Int)=((k:Nat):Int):=rfl
  rw [e]
  unfold atI ixN
  rw [if_pos (by omega)]
  by_cases h:k < l.length
  · rw [if_pos (by omega)]
    show l[((k:Nat):Int).toNat]?=_
    rw [Int.toNat_natCast]
  · rw [if_neg (by omega),List.getElem?_eq_none (by omega)]; rfl
theorem ixN_lit (n k:Nat):ixN n (no_index (OfNat.ofNat k))=if k < n then some k else none:=by
  have e:(OfNat.ofNat k:Int)=((k:Nat):Int):=rfl
  rw [e]
  unfold ixN
  rw [if_pos (by omega)]
  by_cases h:k < n
  · rw [if_pos (by omega),if_pos h,Int.toNat_natCast]
  · rw [if_neg (by omega),if_neg h]
end DL
set_option Elab.async false
set_option linter.all false
set_option maxRecDepth 100000
set_option maxHeartbeats 4000000
namespace DL
open PySem PySem.Spec L2
noncomputable def stepG (g:G2) (body:TS2) (E:End2) (rest:En→Dk→Prop) (d:D) (ρ:En) (δ:Dk):Prop:=match g d ρ with
  | some ρ'=>body { E with nx:=rest,ct:=rest,bk:=E.nx } ρ' δ
  | none=>False
theorem forL_ix {g:G2} {body:TS2} {E:End2} {ρ:En} {δ:Dk} {ds:List D} (P:Nat→En→Dk→Prop) (h0:P 0 ρ δ)
    (step:∀ (i:Nat) (d:D) (ρ:En) (δ:Dk) (rest:En→Dk→Prop),ds[i]?=some d→P i ρ δ→(∀ ρ' δ',P (i + 1) ρ' δ'→rest ρ' δ')→stepG g body E rest d ρ δ) (fin:∀ ρ δ,P ds.length ρ δ→E.nx ρ δ):forL g body E ds ρ δ:=by
  have key:∀ (k i:Nat) (ρ:En) (δ:Dk),i + k=ds.length→P i ρ δ→forL g body E (ds.drop i) ρ δ:=by
    intro k
    induction k with
    | zero =>
      intro i ρ δ hi p
      rw [List.drop_eq_nil_of_le (by omega)]
      have:i=ds.length:=by omega
      subst this
      exact fin ρ δ p
    | succ k ih =>
      intro i ρ δ hi p
      have hl:i < ds.length:=by omega
      rw [List.drop_eq_getElem_cons hl]
      have:=step i ds[i] ρ δ (forL g body E (ds.drop (i + 1))) (by simp [hl]) p fun ρ' δ' p'=>ih (i + 1) ρ' δ' (by omega) p'
      unfold stepG at this
      unfold forL
      exact this
  have:=key ds.length 0 ρ δ (by omega) h0
  rwa [List.drop_zero] at this
theorem compL_ix {te:TE2} {js:List Nat} {ρ:En} {q:List D→Dk→Prop} {ds:List D} {acc:List D} {δ:Dk} (P:Nat→List D→Dk→Prop) (h0:P 0 acc δ)
    (step:∀ (i:Nat) (d:D) (acc:List D) (δ:Dk) (rest:List D→Dk→Prop),ds[i]?=some d→P i acc δ→(∀ acc' δ',P (i + 1) acc' δ'→rest acc' δ')→te (fun _ _ _ _=>False) (.val d :: capt ρ js) δ fun e _ δ1=>acc.length < 1000∧rest (acc++[e]) δ1)
    (fin:∀ acc δ,P ds.length acc δ→q acc δ):compL te js ρ q ds acc δ:=by
  have key:∀ (k i:Nat) (acc:List D) (δ:Dk),i + k=ds.length→P i acc δ→compL te js ρ q (ds.drop i) acc δ:=by
    intro k
    induction k with
    | zero =>
      intro i acc δ hi p
      rw [List.drop_eq_nil_of_le (by omega)]
      have:i=ds.length:=by omega
      subst this
      exact fin acc δ p
    | succ k ih =>
      intro i acc δ hi p
      have hl:i < ds.length:=by omega
      rw [List.drop_eq_getElem_cons hl]
      unfold compL
      exact step i ds[i] acc δ (fun acc' δ'=>compL te js ρ q (ds.drop (i + 1)) acc' δ') (by simp [hl]) p fun acc' δ' p'=>ih (i + 1) acc' δ' (by omega) p'
  have:=key ds.length 0 acc δ (by omega) h0
  rwa [List.drop_zero] at this
theorem reps_ints {K:Frag} {F:Hp}:∀ ns:List Int,Reps K F (ns.map D.int) (ns.map V.int)
  | []=>Reps.nil
  | n :: ns=>Reps.cons (rep_int.mpr rfl) (reps_ints ns)
noncomputable def spLaw:Sp2:=fun ds δ q _=>∃ ns:List Int,ds=[.scr (ns.map D.int)]∧ns.length≤63∧δ=none∧∀ δ',q (.bl true) δ'
theorem walk2 {l:PySem.W.OpenLaw} {k:Nat} {q:Program} {loose:List Str} {XP:(Str→Option Value)→Heap→Prop} {YP:World→Heap→Prop} {d:DefRec} {K:Params→PySem.W.Frag} {x:Str} (hn:l.most=some 63) (hdf:d.params.defaults=[]) (hr:Room k callerA)
    (hY:∀ (w:World) (h:Heap),YP w h→(K w.params).In h)
    (F:∀ (w:World) (mg:Str→Option Value) (fa:Addr) (h:Heap),(K w.params).In h→h.Ns mainGlobals mg→mg d.name=some (.ref fa) →
      ∃ fd:FuncData,(∀ (s:Shared) (u:Value),BindsTo s fd ⟨[u],[]⟩ [(x,u)])∧∀ base:Heap,(K w.params).In base→base.Ns mainGlobals mg→FnOk l.prog w (K w.params) mg base (CX1 l.prog w) k fa fd [x] (upF (K w.params) spLaw)) :
    PySem.W.WalkO q loose XP YP l.row.toRowW d [] (fun f vs=>PySem.call f vs) :=
  L2.walk_of (n:=63) (k:=k) (x:=x) (CX:=fun w=>CX1 l.prog w) (sp:=fun w=>upF (K w.params) spLaw) hn (by decide) hdf hr hY F
    (fun w H a ns hl _ hS=>⟨H,[.scr (ns.map D.int)],none,fun d _=>d=.bl true,fun _ _ _=>False,Same.refl H,fun a ds e=>(by cases e),Reps.cons (rep_scr.mpr ⟨a,_,rfl,hS,reps_ints ns⟩) Reps.nil,⟨ns,rfl,hl,rfl,fun _=>rfl⟩,
      fun d v F' H' δ' R r e=>(by subst e; exact rep_bl.mp r),fun _ _ _ _ _ _ _ _ z=>z⟩)
    fun w H s e s' ⟨_,_,_,_,_,_,_,_,_,_,_,_,_,_,z⟩=>z
end DL
set_option Elab.async false
set_option linter.all false
set_option maxRecDepth 100000
set_option maxHeartbeats 4000000
namespace L2
open PySem PySem.Spec PyProof.Rows
section
variable {prog:Program} {w:World} {A:Around} {E:Value→Shared→Prop} {s:Shared}
theorem nx_tup {j t:Addr} {i:Nat} {xs:Array Value} {x:Value} {Q:Value→Shared→Prop} (hj:s.heap.IsTupleIter j t i) (ht:s.heap.IsTuple t xs) (hx:xs[i]?=some x)
    (hQ:∀ h',h'.IsTupleIter j t (i + 1)→Heap.SameBut j s.heap h'→Q x { s with heap:=h' }):wpAny (model prog w) A (Builtin.SmallTypes.nextOf (.ref j)) Q E s:=by
  obtain ⟨o,ho,hc,hd⟩:=id hj
  obtain ⟨ot,hot,_,nt,hdt⟩:=ht
  unfold Builtin.SmallTypes.nextOf
  refine wpAny_bind (wpAny_callSpecial?_slot (name:=Str.ofString "__next__") hj.typeIs F.slot_tuple_iterator_next (wpAny_call_entry F.slot_tuple_iterator_next hj.typeIs F.entry_tuple_iterator_next ?_ (F.args_tuple_iterator_next_1 _)))
  show wpAny _ _ (field (.ref j) 0 >>= _) _ _ s
  refine wpAny_bind (wpAny_field ho hd (x:=.ref t) rfl ?_)
  show wpAny _ _ (if ((Value.ref t) == Value.none)=true then _ else _) _ _ s
  rw [if_neg (show ¬ (((Value.ref t) == Value.none)=true) from Bool.false_ne_true)]
  show wpAny _ _ (field (.ref j) 1 >>= _) _ _ s
  refine wpAny_bind (wpAny_field ho hd (x:=(.int i 0)) rfl ?_)
  refine wpAny_bind (m:=seqItems? (.ref t)) (wpAny_seqItems hot hdt ?_)
  simp only [Int.toNat_natCast,hx]
  refine wpAny_bind (wpAny_setField ho hd (by simp) (wpAny_pure ⟨x,rfl,wpAny_pure (hQ _ ⟨_,Heap.get?_update_self _ ho (Obj.isFreed_of_fields (Obj.data_mapFields hd _)),(Obj.cls_mapFields ..).trans hc,?_⟩ (Heap.SameBut.update ..))⟩))
  rw [Obj.data_mapFields hd]
  simp [rawInt]
theorem nx_tup_end {j t:Addr} {i:Nat} {xs:Array Value} {Q:Value→Shared→Prop} (hh:A.handled=none) (hj:s.heap.IsTupleIter j t i) (ht:s.heap.IsTuple t xs) (hx:xs[i]?=none)
    (hE:∀ h' e,Heap.ExtBut j s.heap h'→(∃ o,h'.get? e=some o∧o.cls=.type "StopIteration")→E (.ref e) { s with heap:=h' }):wpAny (model prog w) A (Builtin.SmallTypes.nextOf (.ref j)) Q E s:=by
  obtain ⟨o,ho,hc,hd⟩:=id hj
  obtain ⟨ot,hot,_,nt,hdt⟩:=ht
  unfold Builtin.SmallTypes.nextOf
  refine wpAny_bind (wpAny_callSpecial?_slot (name:=Str.ofString "__next__") hj.typeIs F.slot_tuple_iterator_next (wpAny_call_entry F.slot_tuple_iterator_next hj.typeIs F.entry_tuple_iterator_next ?_ (F.args_tuple_iterator_next_1 _)))
  show wpAny _ _ (field (.ref j) 0 >>= _) _ _ s
  refine wpAny_bind (wpAny_field ho hd (x:=.ref t) rfl ?_)
  show wpAny _ _ (if ((Value.ref t) == Value.none)=true then _ else _) _ _ s
  rw [if_neg (show ¬ (((Value.ref t) == Value.none)=true) from Bool.false_ne_true)]
  show wpAny _ _ (field (.ref j) 1 >>= _) _ _ s
  refine wpAny_bind (wpAny_field ho hd (x:=(.int i 0)) rfl ?_)
  refine wpAny_bind (m:=seqItems? (.ref t)) (wpAny_seqItems hot hdt ?_)
  simp only [Int.toNat_natCast,hx]
  refine wpAny_bind (wpAny_rule (wpAny_bind (wpAny_setField ho hd (by simp) (wpAny_bind ?_))))
  simp only [newExc,newTuple]
  refine wpAny_bind (wpAny_newObj_type (wpAny_bind (m:=firstArgMember _ _) (wpAny_of_eq (a:=Value.none) (by first | rfl | (simp only [firstArgMember]; rfl)) (wpAny_newObj_type ?_ (by size_fits)))) (by size_fits))
  simp only [raiseNew]
  refine wpAny_bind (wpAny_handled ?_)
  first | rw [show A.in1.handled=none from hh] | rw [hh]
  exact wpAny_bind (wpAny_pure (wpAny_throw (hE _ _ (((Heap.SameBut.update ..).extBut.push _).push _) ⟨_,Heap.get?_push_size _ rfl,rfl⟩)))
end
theorem draws_tup {prog:Program} {w:World} {A:Around} (hh:A.handled=none) (j t:Addr) (ne:t≠j) (xs:Array Value) :
    Draws prog w A j [j,t] xs.size (fun i v=>xs[i]?=some v) (fun i h=>h.IsTupleIter j t i∧h.IsTuple t xs) where
  live:=fun _ _ st=>let ⟨o,ho,_⟩:=st.1; ⟨o,ho⟩
  frame:=fun _ _ _ st k=>⟨st.1.at fun o e=>k j (by simp) o e,let ⟨o,e,r⟩:=st.2; ⟨o,k t (by simp) o e,r⟩⟩
  item:=fun i s Q E hi st hQ=>nx_tup st.1 st.2 (x:=xs[i]) (by simp [hi]) fun h' st' sb=>hQ _ h' s.toks (by simp [hi]) ⟨st',let ⟨o,e,r⟩:=st.2; ⟨o,sb.extBut _ _ ne e,r⟩⟩ sb
  done:=fun s Q E st hE=>nx_tup_end hh st.1 st.2 (by simp) hE
noncomputable def SqAt (b:Bool) (h:Heap) (l:Addr) (xs:Array Value):Prop:=match b with | true=>h.IsTuple l xs | false=>h.IsList l xs
noncomputable def ItAt (b:Bool) (h:Heap) (j l:Addr) (i:Nat):Prop:=match b with | true=>h.IsTupleIter j l i | false=>h.IsListIter j l i
noncomputable def itN (b:Bool):String:=match b with | true => "tuple_iterator" | false => "list_iterator"
theorem draws_sq (b:Bool) {prog:Program} {w:World} {A:Around} (hh:A.handled=none) (j l:Addr) (ne:l≠j) (xs:Array Value) :
    Draws prog w A j [j,l] xs.size (fun i v=>xs[i]?=some v) (fun i h=>ItAt b h j l i∧SqAt b h l xs):=by
  cases b
  · exact Draws.list hh j l ne xs
  · exact draws_tup hh j l ne xs
theorem ItAt.obj {b:Bool} {h:Heap} {j l:Addr} {i:Nat} (q:ItAt b h j l i):∃ o,h.get? j=some o∧o.cls=.type (itN b)∧o.data=.fields #[.ref l,.int i 0]:=by
  cases b
  · obtain ⟨o,e,c,d⟩:=q; exact ⟨o,e,c,d⟩
  · obtain ⟨o,e,c,d⟩:=q; exact ⟨o,e,c,d⟩
theorem ItAt.of {b:Bool} {h:Heap} {j l:Addr} {i:Nat} {o:Obj} (e:h.get? j=some o) (c:o.cls=.type (itN b)) (d:o.data=.fields #[.ref l,.int i 0]):ItAt b h j l i:=by
  cases b
  · exact ⟨o,e,c,d⟩
  · exact ⟨o,e,c,d⟩
theorem ItAt.stay {b:Bool} {h h':Heap} {j l:Addr} {i:Nat} (q:ItAt b h j l i) (k:∀ o,h.get? j=some o→h'.get? j=some o):ItAt b h' j l i:=by
  obtain ⟨o,e,c,d⟩:=q.obj
  exact .of (k o e) c d
theorem SqAt.obj {b:Bool} {h:Heap} {l:Addr} {xs:Array Value} (q:SqAt b h l xs):∃ o,h.get? l=some o∧o.cls=.type (if b=true then "tuple" else "list")∧∃ n,o.data=.seq xs n:=by
  cases b
  · obtain ⟨o,e,c,n,d⟩:=q; exact ⟨o,e,c,n,d⟩
  · obtain ⟨o,e,c,n,d⟩:=q; exact ⟨o,e,c,n,d⟩
theorem SqAt.stay {b:Bool} {h h':Heap} {l:Addr} {xs:Array Value} (q:SqAt b h l xs) (k:∀ o,h.get? l=some o→h'.get? l=some o):SqAt b h' l xs:=by
  cases b
  · obtain ⟨o,e,c,n,d⟩:=q; exact ⟨o,k o e,c,n,d⟩
  · obtain ⟨o,e,c,n,d⟩:=q; exact ⟨o,k o e,c,n,d⟩
theorem iter_sq {b:Bool} {prog:Program} {w:World} {A:Around} {E:Value→Shared→Prop} {s:Shared} {l:Addr} {xs:Array Value} {Q:Value→Shared→Prop} (hl:SqAt b s.heap l xs)
    (h:Q (.ref s.heap.objs.size) { s with heap:=s.heap.push { cls:=.type (itN b),data:=.fields #[.ref l,.int 0 0] } }):wpAny (model prog w) A (pyIter (.ref l)) Q E s:=by
  cases b
  · exact wpAny_pyIter_list hl h
  · exact wpAny_pyIter_tuple hl h
end L2
set_option Elab.async false
set_option linter.all false
set_option maxRecDepth 100000
set_option maxHeartbeats 4000000
namespace L2
open PySem PySem.Spec PyProof.Rows
open AutoSeq1 (wpAny_loadPart')
noncomputable abbrev enH (b:Bool) (h:Heap) (l:Addr):Heap:=h.push { cls:=.type (itN b),data:=.fields #[.ref l,.int 0 0] }
theorem meets_enT (l:Addr) (xs:Array Value) (n:Nat) (dct:Option Addr) (sl:Array (Option Value)) :
    Meets (Builtin.«enumerate.__new__» ⟨[.type "enumerate",.ref l],[]⟩) (fun _ R s=>s.heap.get? l=some { cls:=.type "tuple",dict:=dct,data:=.seq xs n,slots:=sl } ∧
      R (.ok (.ret (.ref (enH true s.heap l).objs.size))) { s with heap:=(enH true s.heap l).push { cls:=.type "enumerate",data:=.fields #[.none,.bool false,.ref s.heap.objs.size,rawInt 0,.none,.none] } }) :=
  .of_wp fun prog w A R s h=>by
    obtain ⟨hp,g,d,tk,os⟩:=s
    obtain ⟨hl,h⟩:=h
    have hsub:=sub_enumerate
    have hT:Heap.IsTuple (Shared.heap ⟨hp,g,d,tk,os⟩) l xs:=⟨_,hl,rfl,n,rfl⟩
    wp_walk using wpAny_loadPart' hl
    refine wpAny_stack_any fun st=>wpAny_pure ?_
    split
    · rename_i c _ _ _ _ _
      cases (c == Value.type "enumerate") <;> (wp_walk using wpAny_loadPart' hl,wpAny_pyIter_tuple hT; exact ⟨_,rfl,h⟩)
    · wp_walk using wpAny_loadPart' hl,wpAny_pyIter_tuple hT
      exact ⟨_,rfl,h⟩
section
variable {prog:Program} {w:World} {A:Around} {E:Value→Shared→Prop} {s:Shared}
theorem call_enT {l:Addr} {xs:Array Value} {Q:Value→Shared→Prop} (hT:s.heap.IsTuple l xs)
    (h:∀ h',IsEnum h' (s.heap.objs.size + 1) s.heap.objs.size 0 .none→h'.IsTupleIter s.heap.objs.size l 0→(∀ b o,s.heap.get? b=some o→h'.get? b=some o)→Q (.ref (s.heap.objs.size + 1)) { s with heap:=h' }) :
    wpAny (model prog w) A (call (.type "enumerate") [.ref l]) Q E s:=by
  obtain ⟨⟨c,dct,dt,sl⟩,hl,hc,n,hd⟩:=hT
  cases (show c=.type "tuple" from hc)
  cases (show dt=.seq xs n from hd)
  refine callType_new F.called_enumerate (by decide) (F.typeCall_enumerate_1 _) (F.newCall_enumerate_1 _) (fun obj=>F.args_object_init_2 obj _) F.entry_enumerate_new (meets_enT l xs n dct sl) ⟨hl,?_⟩
  have hz:(enH true s.heap l).objs.size=s.heap.objs.size + 1:=Heap.size_push ..
  have he:=Heap.get?_push_size (enH true s.heap l) (o:={ cls:=.type "enumerate",data:=.fields #[.none,.bool false,.ref s.heap.objs.size,rawInt 0,.none,.none] }) rfl
  show _∧_
  rw [hz] at he ⊢
  exact ⟨⟨_,he,rfl⟩,h _ he ⟨_,Heap.get?_push_of_some _ (Heap.get?_push_size _ rfl),rfl,rfl⟩ fun b o x=>Heap.get?_push_of_some _ (Heap.get?_push_of_some _ x)⟩
theorem call_en {b:Bool} {l:Addr} {xs:Array Value} {Q:Value→Shared→Prop} (hq:SqAt b s.heap l xs)
    (h:∀ h',IsEnum h' (s.heap.objs.size + 1) s.heap.objs.size 0 .none→ItAt b h' s.heap.objs.size l 0→(∀ b o,s.heap.get? b=some o→h'.get? b=some o)→Q (.ref (s.heap.objs.size + 1)) { s with heap:=h' }) :
    wpAny (model prog w) A (call (.type "enumerate") [.ref l]) Q E s:=by
  cases b
  · exact call_enumerate_list hq fun h' a1 a2 _ a4=>h h' a1 a2 a4
  · exact call_enT hq fun h' a1 a2 a4=>h h' a1 a2 a4
end
noncomputable abbrev zp1 (b:Bool) (h:Heap) (l:Addr):Heap:=h.push { cls:=.type (itN b),data:=.fields #[.ref l,.int 0 0] }
noncomputable abbrev zp2 (b b':Bool) (h:Heap) (l l':Addr):Heap:=(zp1 b h l).push { cls:=.type (itN b'),data:=.fields #[.ref l',.int 0 0] }
noncomputable abbrev zp3 (b b':Bool) (h:Heap) (l l':Addr):Heap:=(zp2 b b' h l l').push { cls:=.type "tuple",data:=.seq #[.ref h.objs.size,.ref (zp1 b h l).objs.size] }
noncomputable abbrev zp4 (b b':Bool) (h:Heap) (l l':Addr):Heap:=(zp3 b b' h l l').push { cls:=.type "tuple",data:=.seq #[.none,.none] }
noncomputable abbrev zp5 (b b':Bool) (h:Heap) (l l':Addr):Heap:=(zp4 b b' h l l').push { cls:=.type "zip",data:=.fields #[.none,.bool false,.bool false,.ref (zp2 b b' h l l').objs.size,.ref (zp3 b b' h l l').objs.size] }
theorem meets_zp (b b':Bool) (l l':Addr) (xs ys:Array Value) :
    Meets (Builtin.«zip.__new__» ⟨[.type "zip",.ref l,.ref l'],[]⟩) (fun _ R s=>SqAt b s.heap l xs∧SqAt b' s.heap l' ys∧R (.ok (.ret (.ref (zp4 b b' s.heap l l').objs.size))) { s with heap:=zp5 b b' s.heap l l' }) :=
  .of_wp fun prog w A R s h=>by
    obtain ⟨hp,g,d,tk,os⟩:=s
    obtain ⟨h1,h2,h⟩:=h
    have hsub:=sub_zip
    have q1:SqAt b (Shared.heap ⟨hp,g,d,tk,os⟩) l xs:=h1
    have q2:SqAt b' (Shared.heap ⟨zp1 b hp l,g,d,tk,os⟩) l' ys:=h2.stay fun o e=>Heap.get?_push_of_some _ e
    wp_walk using iter_sq q1,iter_sq q2
    exact ⟨_,rfl,h⟩
section
variable {prog:Program} {w:World} {A:Around} {E:Value→Shared→Prop} {s:Shared}
theorem call_zp {b b':Bool} {l l':Addr} {xs ys:Array Value} {Q:Value→Shared→Prop} (h1:SqAt b s.heap l xs) (h2:SqAt b' s.heap l' ys)
    (h:∀ h',IsZip h' (s.heap.objs.size + 4) (s.heap.objs.size + 2) (s.heap.objs.size + 3) .none→IsPair h' (s.heap.objs.size + 2) (.ref s.heap.objs.size) (.ref (s.heap.objs.size + 1))→IsPair h' (s.heap.objs.size + 3) .none .none →
      ItAt b h' s.heap.objs.size l 0→ItAt b' h' (s.heap.objs.size + 1) l' 0→(∀ c o,s.heap.get? c=some o→h'.get? c=some o)→Q (.ref (s.heap.objs.size + 4)) { s with heap:=h' }) :
    wpAny (model prog w) A (call (.type "zip") [.ref l,.ref l']) Q E s:=by
  refine callType_new F.called_zip (by decide) (F.typeCall_zip_2 _ _) (F.newCall_zip_2 _ _) (fun obj=>F.args_object_init_3 obj _ _) F.entry_zip_new (meets_zp b b' l l' xs ys) ⟨h1,h2,?_⟩
  have z1:(zp1 b s.heap l).objs.size=s.heap.objs.size + 1:=Heap.size_push ..
  have z2:(zp2 b b' s.heap l l').objs.size=s.heap.objs.size + 2:=by rw [Heap.size_push,z1]
  have z3:(zp3 b b' s.heap l l').objs.size=s.heap.objs.size + 3:=by rw [Heap.size_push,z2]
  have z4:(zp4 b b' s.heap l l').objs.size=s.heap.objs.size + 4:=by rw [Heap.size_push,z3]
  have u:∀ {h:Heap} {o} {c u},h.get? c=some u→(h.push o).get? c=some u:=fun e=>Heap.get?_push_of_some _ e
  have g5:(zp5 b b' s.heap l l').get? (zp4 b b' s.heap l l').objs.size=some _:=Heap.get?_push_size _ rfl
  have g4:(zp5 b b' s.heap l l').get? (zp3 b b' s.heap l l').objs.size=some _:=u (Heap.get?_push_size _ rfl)
  have g3:(zp5 b b' s.heap l l').get? (zp2 b b' s.heap l l').objs.size=some _:=u (u (Heap.get?_push_size _ rfl))
  have g2:(zp5 b b' s.heap l l').get? (zp1 b s.heap l).objs.size=some _:=u (u (u (Heap.get?_push_size _ rfl)))
  have g1:(zp5 b b' s.heap l l').get? s.heap.objs.size=some _:=u (u (u (u (Heap.get?_push_size _ rfl))))
  show _∧_
  rw [z2,z3,z4] at g5
  rw [z1,z2] at g3
  rw [z3] at g4
  rw [z1] at g2
  rw [z4]
  exact ⟨⟨_,g5,rfl⟩,h _ g5 g3 g4 (.of g1 rfl rfl) (.of g2 rfl rfl) fun c o x=>u (u (u (u (u x))))⟩
structure ZA (z TI TO j1 j2:Addr):Prop where
  a:TI≠z
  b:TO≠z
  c:j1≠z
  d:j2≠z
  e:TI≠TO
  f:TI≠j1
  g:TI≠j2
  h:TO≠j1
  i:TO≠j2
  j:j1≠j2
theorem zp_item {z TI TO j1 j2:Addr} {f1 f2:List Addr} {n1 n2 k:Nat} {P1 P2:Nat→Value→Prop} {S1 S2:Nat→Heap→Prop} {a0 b0:Value} {Q:Value→Shared→Prop} (D1:Draws prog w A j1 f1 n1 P1 S1) (D2:Draws prog w A j2 f2 n2 P2 S2)
    (Z:ZA z TI TO j1 j2) (o1:∀ c∈f1,c≠z∧c≠TO∧c≠j2) (o2:∀ c∈f2,c≠z∧c≠TO∧c≠j1)
    (hz:IsZip s.heap z TI TO .none) (hTI:IsPair s.heap TI (.ref j1) (.ref j2)) (hTO:IsPair s.heap TO a0 b0) (s1:S1 k s.heap) (s2:S2 k s.heap) (l1:k < n1) (l2:k < n2)
    (hQ:∀ x y h' tk,P1 k x→P2 k y→IsZip h' z TI TO (rawInt s.heap.objs.size)→IsPair h' TO x y→S1 (k + 1) h'→S2 (k + 1) h'→IsPair h' s.heap.objs.size x y →
      (∀ c o,c≠z→c≠TO→c≠j1→c≠j2→s.heap.get? c=some o→h'.get? c=some o)→Q (.ref s.heap.objs.size) { s with heap:=h',toks:=tk }) :
    wpAny (model prog w) A (Builtin.«zip.__next__» ⟨[.ref z],[]⟩) (fun fin s'=>∃ v,fin=.done (.ret v)∧Q v s') E s:=by
  obtain ⟨hp,ge,dr,tk0,os⟩:=s
  show wpAny _ _ (field (.ref z) 2 >>= _) _ _ _
  refine wpAny_bind (wpAny_field hz rfl (x:=.bool false) rfl ?_)
  show wpAny _ _ (field (.ref z) 3 >>= _) _ _ _
  refine wpAny_bind (wpAny_field hz rfl (x:=.ref TI) rfl (wpAny_bind (wpAny_seqItems hTI rfl ?_)))
  show wpAny _ _ (Builtin.SmallTypes.ownedTupleIsFree (.ref z) >>= _) _ _ _
  refine wpAny_bind ?_
  unfold Builtin.SmallTypes.ownedTupleIsFree
  refine wpAny_bind (wpAny_field hz rfl (x:=.none) rfl (wpAny_pure ?_))
  simp only [if_true]
  refine wpAny_bind (wpAny_rule (wpAny_bind (wpAny_field hz rfl (x:=.ref TO) rfl (wpAny_bind (wpAny_setField_rec hz (by simp) fun h₁ hz₁ hs₁=>?_)))))
  replace hz₁:IsZip h₁ z TI TO .ellipsis:=hz₁
  replace hs₁:Heap.SameBut z hp h₁:=hs₁
  refine wpAny_bind ?_
  simp only [List.zipIdx_cons,List.zipIdx_nil,List.forIn_cons,List.forIn_nil]
  refine wpAny_bind (wpAny_bind (wpAny_onRaise ?_))
  show wpAny _ _ (Builtin.SmallTypes.nextOf (.ref j1) >>= _) _ _ _
  have s1₁:S1 k h₁:=D1.frame _ _ _ s1 fun c hc o e=>hs₁.extBut c o (o1 c hc).1 e
  refine wpAny_bind (D1.item k ⟨h₁,ge,dr,tk0,os⟩ _ _ l1 s1₁ fun x h₂ t₂ px s1₂ hs₂=>wpAny_pure ?_)
  replace hs₂:Heap.SameBut j1 h₁ h₂:=hs₂
  have hTO₂:IsPair h₂ TO a0 b0:=hs₂.extBut _ _ Z.h (hs₁.extBut _ _ Z.b hTO)
  refine wpAny_bind (wpAny_seqItems hTO₂ rfl (wpAny_bind (wpAny_updateSeq_pair hTO₂ fun h₃ hTO₃ hs₃=>?_)))
  replace hTO₃:IsPair h₃ TO x b0:=hTO₃
  replace hs₃:Heap.SameBut TO h₂ h₃:=hs₃
  refine wpAny_bind (wpAny_letGo (wpAny_pure (wpAny_bind (wpAny_bind (wpAny_onRaise ?_)))))
  show wpAny _ _ (Builtin.SmallTypes.nextOf (.ref j2) >>= _) _ _ _
  have s2₃:S2 k h₃:=D2.frame _ _ _ s2 fun c hc o e=>hs₃.extBut c o (o2 c hc).2.1 (hs₂.extBut c o (o2 c hc).2.2 (hs₁.extBut c o (o2 c hc).1 e))
  refine wpAny_bind (D2.item k ⟨h₃,ge,dr,t₂,os⟩ _ _ l2 s2₃ fun y h₄ t₄ py s2₄ hs₄=>wpAny_pure ?_)
  replace hs₄:Heap.SameBut j2 h₃ h₄:=hs₄
  have hTO₄:IsPair h₄ TO x b0:=hs₄.extBut _ _ Z.i hTO₃
  refine wpAny_bind (wpAny_seqItems hTO₄ rfl (wpAny_bind (wpAny_updateSeq_pair hTO₄ fun h₅ hTO₅ hs₅=>?_)))
  replace hTO₅:IsPair h₅ TO x y:=hTO₅
  replace hs₅:Heap.SameBut TO h₄ h₅:=hs₅
  refine wpAny_bind (wpAny_letGo (wpAny_pure (wpAny_pure (wpAny_bind (wpAny_seqItems hTO₅ rfl (wpAny_bind (wpAny_newTuple ?_)))))))
  have hsz:h₅.objs.size=hp.objs.size:=by rw [hs₅.1,hs₄.1,hs₃.1,hs₂.1,hs₁.1]
  have hz₅:IsZip h₅ z TI TO .ellipsis:=hs₅.extBut _ _ Z.b.symm (hs₄.extBut _ _ Z.d.symm (hs₃.extBut _ _ Z.b.symm (hs₂.extBut _ _ Z.c.symm hz₁)))
  have hk₅:∀ c o,c≠z→c≠TO→c≠j1→c≠j2→hp.get? c=some o→h₅.get? c=some o:=fun c o c1 c2 c3 c4 e =>
    hs₅.extBut _ _ c2 (hs₄.extBut _ _ c4 (hs₃.extBut _ _ c2 (hs₂.extBut _ _ c3 (hs₁.extBut _ _ c1 e))))
  have hzlt:z < h₅.objs.size:=Heap.lt_size hz₅
  have s1₅:S1 (k + 1) h₅:=D1.frame _ _ _ s1₂ fun c hc o e=>hs₅.extBut c o (o1 c hc).2.1 (hs₄.extBut c o (o1 c hc).2.2 (hs₃.extBut c o (o1 c hc).2.1 e))
  have s2₅:S2 (k + 1) h₅:=D2.frame _ _ _ s2₄ fun c hc o e=>hs₅.extBut c o (o2 c hc).2.1 e
  show wpAny _ _ (Builtin.SmallTypes.ownedTupleHandOut (.ref z) (.ref h₅.objs.size) >>= _) _ _ _
  refine wpAny_bind ?_
  unfold Builtin.SmallTypes.ownedTupleHandOut
  have hz₆:IsZip (h₅.push { cls:=.type "tuple",data:=.seq #[x,y] }) z TI TO .ellipsis:=Heap.get?_push_of_some _ hz₅
  refine wpAny_bind (wpAny_setField_rec hz₆ (by simp) fun h₇ hz₇ hs₇=>?_)
  replace hz₇:IsZip h₇ z TI TO (rawInt h₅.objs.size):=hz₇
  refine wpAny_setField_rec hz₇ (by simp) fun h₈ hz₈ hs₈=>?_
  replace hz₈:IsZip h₈ z TI TO (rawInt h₅.objs.size):=hz₈
  have up:∀ c o,c≠z→h₅.get? c=some o→h₈.get? c=some o:=fun c o c1 e=>hs₈.extBut _ _ c1 (hs₇.extBut _ _ c1 (Heap.get?_push_of_some _ e))
  have hT₈:IsPair h₈ h₅.objs.size x y:=hs₈.extBut _ _ (Nat.ne_of_gt hzlt) (hs₇.extBut _ _ (Nat.ne_of_gt hzlt) (Heap.get?_push_size _ rfl))
  rw [hsz] at hz₈ hT₈
  refine wpAny_pure ⟨_,rfl,?_⟩
  show Q (.ref h₅.objs.size) _
  rw [hsz]
  exact hQ x y h₈ t₄ px py hz₈ (up _ _ Z.b hTO₅) (D1.frame _ _ _ s1₅ fun c hc o e=>up c o (o1 c hc).1 e) (D2.frame _ _ _ s2₅ fun c hc o e=>up c o (o2 c hc).1 e) hT₈ fun c o c1 c2 c3 c4 e=>up c o c1 (hk₅ c o c1 c2 c3 c4 e)
end
end L2
set_option Elab.async false
set_option linter.all false
set_option maxRecDepth 100000
set_option maxHeartbeats 4000000
namespace L2
open PySem PySem.Spec PyProof.Rows
section
variable {prog:Program} {w:World} {A:Around} {E:Value→Shared→Prop} {s:Shared}
theorem zp_end {z TI TO j1 j2:Addr} {f1 f2:List Addr} {n1 n2 k:Nat} {P1 P2:Nat→Value→Prop} {S1 S2:Nat→Heap→Prop} {a0 b0:Value} {Q:Fin→Shared→Prop} (D1:Draws prog w A j1 f1 n1 P1 S1) (D2:Draws prog w A j2 f2 n2 P2 S2)
    (Z:ZA z TI TO j1 j2) (o1:∀ c∈f1,c≠z∧c≠TO∧c≠j2) (o2:∀ c∈f2,c≠z∧c≠TO∧c≠j1)
    (hz:IsZip s.heap z TI TO .none) (hTI:IsPair s.heap TI (.ref j1) (.ref j2)) (hTO:IsPair s.heap TO a0 b0) (s1:S1 k s.heap) (s2:S2 k s.heap) (le:k=n1∨(k < n1∧k=n2))
    (hE:∀ h' e tk,(∀ c o,c≠z→c≠TO→c≠j1→c≠j2→s.heap.get? c=some o→h'.get? c=some o)→(∃ o,h'.get? e=some o∧o.cls=.type "StopIteration")→E (.ref e) { s with heap:=h',toks:=tk }) :
    wpAny (model prog w) A (Builtin.«zip.__next__» ⟨[.ref z],[]⟩) Q E s:=by
  obtain ⟨hp,ge,dr,tk0,os⟩:=s
  show wpAny _ _ (field (.ref z) 2 >>= _) _ _ _
  refine wpAny_bind (wpAny_field hz rfl (x:=.bool false) rfl ?_)
  show wpAny _ _ (field (.ref z) 3 >>= _) _ _ _
  refine wpAny_bind (wpAny_field hz rfl (x:=.ref TI) rfl (wpAny_bind (wpAny_seqItems hTI rfl ?_)))
  show wpAny _ _ (Builtin.SmallTypes.ownedTupleIsFree (.ref z) >>= _) _ _ _
  refine wpAny_bind ?_
  unfold Builtin.SmallTypes.ownedTupleIsFree
  refine wpAny_bind (wpAny_field hz rfl (x:=.none) rfl (wpAny_pure ?_))
  simp only [if_true]
  refine wpAny_bind (wpAny_rule (wpAny_bind (wpAny_field hz rfl (x:=.ref TO) rfl (wpAny_bind (wpAny_setField_rec hz (by simp) fun h₁ hz₁ hs₁=>?_)))))
  replace hz₁:IsZip h₁ z TI TO .ellipsis:=hz₁
  replace hs₁:Heap.SameBut z hp h₁:=hs₁
  refine wpAny_bind ?_
  simp only [List.zipIdx_cons,List.zipIdx_nil,List.forIn_cons,List.forIn_nil]
  refine wpAny_bind (wpAny_bind (wpAny_onRaise ?_))
  show wpAny _ _ (Builtin.SmallTypes.nextOf (.ref j1) >>= _) _ _ _
  have s1₁:S1 k h₁:=D1.frame _ _ _ s1 fun c hc o e=>hs₁.extBut c o (o1 c hc).1 e
  rcases le with rfl | ⟨l1,rfl⟩
  · refine wpAny_bind (D1.done ⟨h₁,ge,dr,tk0,os⟩ _ _ s1₁ fun h₂ e hs₂ ⟨oe,hoe,hce⟩=>?_)
    replace hs₂:Heap.ExtBut j1 h₁ h₂:=hs₂
    have hz₂:IsZip h₂ z TI TO .ellipsis:=hs₂ _ _ Z.c.symm hz₁
    have hez:e≠z:=fun q=>by subst q; rw [hz₂] at hoe; cases hoe; simp at hce
    refine wpAny_setField_rec hz₂ (by simp) fun h₃ _ hs₃=>hE h₃ e tk0 (fun c o c1 _ c3 _ q=>hs₃.extBut _ _ c1 (hs₂ _ _ c3 (hs₁.extBut _ _ c1 q))) ⟨oe,hs₃.extBut _ _ hez hoe,hce⟩
  · refine wpAny_bind (D1.item k ⟨h₁,ge,dr,tk0,os⟩ _ _ l1 s1₁ fun x h₂ t₂ px s1₂ hs₂=>wpAny_pure ?_)
    replace hs₂:Heap.SameBut j1 h₁ h₂:=hs₂
    have hTO₂:IsPair h₂ TO a0 b0:=hs₂.extBut _ _ Z.h (hs₁.extBut _ _ Z.b hTO)
    refine wpAny_bind (wpAny_seqItems hTO₂ rfl (wpAny_bind (wpAny_updateSeq_pair hTO₂ fun h₃ hTO₃ hs₃=>?_)))
    replace hs₃:Heap.SameBut TO h₂ h₃:=hs₃
    refine wpAny_bind (wpAny_letGo (wpAny_pure (wpAny_bind (wpAny_bind (wpAny_onRaise ?_)))))
    show wpAny _ _ (Builtin.SmallTypes.nextOf (.ref j2) >>= _) _ _ _
    have s2₃:S2 k h₃:=D2.frame _ _ _ s2 fun c hc o e=>hs₃.extBut c o (o2 c hc).2.1 (hs₂.extBut c o (o2 c hc).2.2 (hs₁.extBut c o (o2 c hc).1 e))
    refine wpAny_bind (D2.done ⟨h₃,ge,dr,t₂,os⟩ _ _ s2₃ fun h₄ e hs₄ ⟨oe,hoe,hce⟩=>?_)
    replace hs₄:Heap.ExtBut j2 h₃ h₄:=hs₄
    have hz₄:IsZip h₄ z TI TO .ellipsis:=hs₄ _ _ Z.d.symm (hs₃.extBut _ _ Z.b.symm (hs₂.extBut _ _ Z.c.symm hz₁))
    have hez:e≠z:=fun q=>by subst q; rw [hz₄] at hoe; cases hoe; simp at hce
    refine wpAny_setField_rec hz₄ (by simp) fun h₅ _ hs₅=>hE h₅ e t₂ (fun c o c1 c2 c3 c4 q=>hs₅.extBut _ _ c1 (hs₄ _ _ c4 (hs₃.extBut _ _ c2 (hs₂.extBut _ _ c3 (hs₁.extBut _ _ c1 q))))) ⟨oe,hs₅.extBut _ _ hez hoe,hce⟩
end
theorem Inv.turnedL {X:Cx} {pins:List (Addr×Obj)} {σ:List (Option V)} {H:Hp} {s:Shared} {h':Heap} {t':Nat} {ch:List Addr} (I:Inv X pins σ H s) (k:∀ b o,b ∉ ch→s.heap.get? b=some o→h'.get? b=some o) (hf:∀ b∈ch,FpOk X pins H b) :
    Inv X pins σ H { s with heap:=h',toks:=t' }:=by
  have nit:∀ b u,H b=some u→b ∉ ch:=fun b u e z=>by rw [(hf b z).1] at e; cases e
  refine I.step (g':=s.gens) (d':=s.drawn) (ch:=ch) (fun b hb=>?_) (fun b o _ _ hc e _=>k b o hc e) (fun b o _ _ hc e _=>⟨o.slots,k b o hc e⟩) (fun _ _ _ _ n=>n)
    (fun b o hc e=>⟨o,k b o hc e⟩) (fun _ _ e=>e) (fun _ _ _ e=>e) (fun b ps e=>⟨#[],by rw [e]; simp⟩) (fun m hm=>?_) (fun b u e=>?_) I.bare
  · obtain ⟨_,f1,_,f3,f4,f5⟩:=hf b hb
    exact ⟨f3,f1,f4,f5⟩
  · obtain ⟨o,es,ep,ho,r⟩:=hm
    exact ⟨o,es,ep,k _ o (fun z=>(hf _ z).2.1 rfl) ho,r⟩
  · refine (I.hok b u e).stay (fun c v hc q=>k c v ?_ q) (fun _ q=>q) fun _ _ q=>q
    rcases hc with z | z
    · rw [z]; exact nit b u e
    · exact nit c _ z
noncomputable def Sq (K:PySem.W.Frag) (b:Bool) (H:Hp) (a:Addr) (xs:List V):Prop:=match b with | true=>SqT K H a xs | false=>SqL K H a xs
theorem Inv.sq {b:Bool} {X:Cx} {pins:List (Addr×Obj)} {σ:List (Option V)} {H:Hp} {s:Shared} {a:Addr} {xs:List V} (I:Inv X pins σ H s) (h:Sq X.K b H a xs):∃ its:List Value,Vals xs its∧SqAt b s.heap a its.toArray∧xs.length≤sizeLine:=by
  cases b
  · obtain ⟨its,r,p,z⟩:=I.list h; exact ⟨its,r,p.isList,z⟩
  · obtain ⟨its,r,p,z⟩:=I.tuple h; exact ⟨its,r,p,z⟩
theorem Inv.sq_inj {b:Bool} {X:Cx} {pins:List (Addr×Obj)} {σ:List (Option V)} {H:Hp} {s:Shared} {a:Addr} {xs ys:List V} (I:Inv X pins σ H s) (h:Sq X.K b H a xs) (h':Sq X.K b H a ys):xs=ys:=by
  cases b
  · exact I.list_inj h h'
  · exact I.tuple_inj h h'
noncomputable def Itz (K:PySem.W.Frag) (b b':Bool) (a a':Addr):It :=
  ⟨fun i H=>∃ xs ys x y,Sq K b H a xs∧xs[i]?=some x∧Sq K b' H a' ys∧ys[i]?=some y,
   fun i H v H'=>∃ p x y,H p=none∧v=.ref p∧H'=upd H p (.tup [x,y])∧(∀ xs,Sq K b H a xs→xs[i]?=some x)∧∀ ys,Sq K b' H a' ys→ys[i]?=some y,
   fun i H=>∃ xs ys,Sq K b H a xs∧Sq K b' H a' ys∧(xs.length=i∨(i < xs.length∧ys.length=i))⟩
noncomputable def zipT (b b':Bool) (a a' z TI TO j1 j2:Addr) (i:Nat) (h:Heap):Prop:=IsZip h z TI TO .none∧IsPair h TI (.ref j1) (.ref j2)∧(∃ u v,IsPair h TO u v)∧ItAt b h j1 a i∧ItAt b' h j2 a' i
theorem turn_zip {P:Program} {w:World} {K:PySem.W.Frag} {elts:List Expr} {x1} {pos:Pos} (b b':Bool) (a a' z TI TO j1 j2:Addr) (Z:ZA z TI TO j1 j2) (na:a≠z∧a≠TO∧a≠j1∧a≠j2) (na':a'≠z∧a'≠TO∧a'≠j1∧a'≠j2) :
    Turn P w K (.Tuple elts x1 pos) (Itz K b b' a a') [z,TI,TO,j1,j2] z (zipT b b' a a' z TI TO j1 j2) where
  mem:=by simp
  obj:=fun i h st c hc=>by
    obtain ⟨hz,hTI,⟨u,v,hTO⟩,h1,h2⟩:=st
    have hc':c=z∨c=TI∨c=TO∨c=j1∨c=j2:=by simpa using hc
    rcases hc' with rfl | rfl | rfl | rfl | rfl
    · exact ⟨_,hz,fun v q=>by simp at q⟩
    · exact ⟨_,hTI,fun v q=>by simp at q⟩
    · exact ⟨_,hTO,fun v q=>by simp at q⟩
    · obtain ⟨o,e,_,d⟩:=h1.obj; exact ⟨o,e,fun v q=>by rw [d] at q; cases q⟩
    · obtain ⟨o,e,_,d⟩:=h2.obj; exact ⟨o,e,fun v q=>by rw [d] at q; cases q⟩
  keep:=fun i h h' st k=>by
    obtain ⟨hz,hTI,⟨u,v,hTO⟩,h1,h2⟩:=st
    exact ⟨k z (by simp) _ hz,k TI (by simp) _ hTI,⟨u,v,k TO (by simp) _ hTO⟩,h1.stay fun o e=>k j1 (by simp) o e,h2.stay fun o e=>k j2 (by simp) o e⟩
  item:=by
    intro X hP hw hK hc i pins s σ H E I hf st hg
    subst hP hw hK
    obtain ⟨xs,ys,x,y,q1,e1,q2,e2⟩:=hg
    obtain ⟨its1,r1,p1,z1⟩:=I.sq q1
    obtain ⟨its2,r2,p2,z2⟩:=I.sq q2
    obtain ⟨u1,g1,v1⟩:=r1.get e1
    obtain ⟨u2,g2,v2⟩:=r2.get e2
    obtain ⟨hz,hTI,⟨u,v,hTO⟩,h1,h2⟩:=st
    have l1:=(List.getElem?_eq_some_iff.mp g1).1
    have l2:=(List.getElem?_eq_some_iff.mp g2).1
    have hh:X.A.in1.handled=none:=I.ok.hd hc
    have D1:=draws_sq b (prog:=X.prog) (w:=X.w) hh j1 a na.2.2.1 its1.toArray
    have D2:=draws_sq b' (prog:=X.prog) (w:=X.w) hh j2 a' na'.2.2.2 its2.toArray
    have hT:s.TypeIs (.ref z) "zip" := ⟨_,hz,rfl⟩
    unfold pyNext
    refine wpAny_bind (wpAny_attempt (wpAny_callSpecial?_slot (name:=Str.ofString "__next__") hT F.slot_zip_next (wpAny_call_entry F.slot_zip_next hT F.entry_zip_next
      (zp_item D1 D2 Z (fun c hc=>?_) (fun c hc=>?_) hz hTI hTO ⟨h1,p1⟩ ⟨h2,p2⟩ (by simpa using l1) (by simpa using l2) fun x' y' h' tk px py hz' hTO' st1 st2 hT' kk=>wpAny_pure ⟨_,rfl,?_⟩) (F.args_zip_next_1 _))))
    · have:c=j1∨c=a:=by simpa using hc
      rcases this with rfl | rfl
      · exact ⟨Z.c,Z.h.symm,Z.j⟩
      · exact ⟨na.1,na.2.1,na.2.2.2⟩
    · have:c=j2∨c=a':=by simpa using hc
      rcases this with rfl | rfl
      · exact ⟨Z.d,Z.i.symm,Z.j.symm⟩
      · exact ⟨na'.1,na'.2.1,na'.2.2.1⟩
    have ex:x'=u1:=by
      have px':its1.toArray[i]?=some x':=px
      rw [List.getElem?_toArray,g1] at px'
      exact (Option.some.inj px').symm
    have ey:y'=u2:=by
      have py':its2.toArray[i]?=some y':=py
      rw [List.getElem?_toArray,g2] at py'
      exact (Option.some.inj py').symm
    subst ex ey
    refine wpAny_letOwnedTupleGo_zip (s:={ s with heap:=h',toks:=tk }) hz' fun h₂ hz₂ hs₂=>?_
    replace hs₂:Heap.SameBut z h' h₂:=hs₂
    have hfr:H s.heap.objs.size=none:=I.hok.fresh (Nat.le_refl _)
    have Il:Inv X pins σ (upd H s.heap.objs.size (.tup [x,y])) { s with heap:=s.heap.push { cls:=.type "tuple",data:=.seq #[x',y'] } }:=I.laid (t':=s.toks) (fun b u e=>Heap.get?_push_of_some _ e) (Nat.le_refl _)
      ⟨by show 2≤sizeLine; decide,[x',y'],.cons v1 (.cons v2 .nil),⟨_,Heap.get?_push_size _ rfl,rfl,_,rfl⟩⟩
    have lt:∀ {c o},s.heap.get? c=some o→c≠s.heap.objs.size:=fun e=>Nat.ne_of_lt (Heap.lt_size e)
    have nT:∀ c∈[z,TI,TO,j1,j2],c≠s.heap.objs.size:=fun c hc=>by
      have hc':c=z∨c=TI∨c=TO∨c=j1∨c=j2:=by simpa using hc
      rcases hc' with rfl | rfl | rfl | rfl | rfl
      · exact lt hz
      · exact lt hTI
      · exact lt hTO
      · obtain ⟨o,e,_⟩:=h1.obj; exact lt e
      · obtain ⟨o,e,_⟩:=h2.obj; exact lt e
    have hn2:∀ c∈[z,TI,TO,j1,j2],upd H s.heap.objs.size (.tup [x,y]) c=none:=fun c hc=>by rw [upd_ne (nT c hc)]; exact (hf c hc).1
    have If:Inv X pins σ (upd H s.heap.objs.size (.tup [x,y])) { s with heap:=h₂,toks:=tk }:=Inv.turnedL (s:={ s with heap:=s.heap.push { cls:=.type "tuple",data:=.seq #[x',y'] } }) (ch:=[z,TI,TO,j1,j2]) (h':=h₂) (t':=tk) Il (fun c o hc e=>by
      have hc':c≠z∧c≠TI∧c≠TO∧c≠j1∧c≠j2:=by simpa using hc
      rcases Heap.get?_push_cases e with ⟨rfl,rfl⟩ | e
      · exact hs₂.extBut _ _ hc'.1 hT'
      · exact hs₂.extBut _ _ hc'.1 (kk c o hc'.1 hc'.2.2.1 hc'.2.2.2.1 hc'.2.2.2.2 e)) fun c hc=>⟨hn2 c hc,(hf c hc).2⟩
    refine ⟨.ref s.heap.objs.size,_,If,rfl,⟨s.heap.objs.size,x,y,hfr,rfl,rfl,fun zs hq=>by rw [I.sq_inj hq q1]; exact e1,fun zs hq=>by rw [I.sq_inj hq q2]; exact e2⟩,?_,hn2⟩
    exact ⟨hz₂,hs₂.extBut _ _ Z.a (kk _ _ Z.a Z.e Z.f Z.g hTI),⟨_,_,hs₂.extBut _ _ Z.b hTO'⟩,st1.1.stay fun o e=>hs₂.extBut _ _ Z.c e,st2.1.stay fun o e=>hs₂.extBut _ _ Z.d e⟩
  done:=by
    intro X hP hw hK hc i pins s σ H E I hf st hg
    subst hP hw hK
    obtain ⟨xs,ys,q1,q2,le⟩:=hg
    obtain ⟨its1,r1,p1,z1⟩:=I.sq q1
    obtain ⟨its2,r2,p2,z2⟩:=I.sq q2
    obtain ⟨hz,hTI,⟨u,v,hTO⟩,h1,h2⟩:=st
    have hh:X.A.in1.handled=none:=I.ok.hd hc
    have D1:=draws_sq b (prog:=X.prog) (w:=X.w) hh j1 a na.2.2.1 its1.toArray
    have D2:=draws_sq b' (prog:=X.prog) (w:=X.w) hh j2 a' na'.2.2.2 its2.toArray
    have hT:s.TypeIs (.ref z) "zip" := ⟨_,hz,rfl⟩
    have len1:=r1.length
    have len2:=r2.length
    unfold pyNext
    refine wpAny_bind (wpAny_attempt (wpAny_callSpecial?_slot (name:=Str.ofString "__next__") hT F.slot_zip_next (wpAny_call_entry F.slot_zip_next hT F.entry_zip_next
      (zp_end D1 D2 Z (fun c hc=>?_) (fun c hc=>?_) hz hTI hTO ⟨h1,p1⟩ ⟨h2,p2⟩ ?_ fun h' e tk kk ⟨o,ho,hco⟩=>?_) (F.args_zip_next_1 _))))
    · have:c=j1∨c=a:=by simpa using hc
      rcases this with rfl | rfl
      · exact ⟨Z.c,Z.h.symm,Z.j⟩
      · exact ⟨na.1,na.2.1,na.2.2.2⟩
    · have:c=j2∨c=a':=by simpa using hc
      rcases this with rfl | rfl
      · exact ⟨Z.d,Z.i.symm,Z.j.symm⟩
      · exact ⟨na'.1,na'.2.1,na'.2.2.1⟩
    · simp only [List.size_toArray]
      omega
    · refine wpAny_bind (wpAny_isInstance (T := "StopIteration") (b:=true) ⟨o,ho,hco⟩ isSubtype_stop (wpAny_pure ⟨rfl,?_⟩))
      exact I.turnedL (ch:=[z,TI,TO,j1,j2]) (h':=h') (t':=tk) (fun c o hc e=>by
        have hc':c≠z∧c≠TI∧c≠TO∧c≠j1∧c≠j2:=by simpa using hc
        exact kk c o hc'.1 hc'.2.2.1 hc'.2.2.2.1 hc'.2.2.2.2 e) hf
  self:=fun A i s Q E st h=>wpAny_pyIter_zip st.1 h
end L2
set_option Elab.async false
set_option linter.all false
set_option maxRecDepth 100000
set_option maxHeartbeats 4000000
namespace L2
open PySem PySem.Spec PyProof.Rows
noncomputable def Ite (K:PySem.W.Frag) (b:Bool) (a:Addr):It :=
  ⟨fun i H=>∃ xs x,Sq K b H a xs∧xs[i]?=some x,
   fun i H v H'=>∃ p x,H p=none∧v=.ref p∧H'=upd H p (.tup [.int i,x])∧∀ xs,Sq K b H a xs→xs[i]?=some x,
   fun i H=>∃ xs,Sq K b H a xs∧xs.length=i⟩
noncomputable def enumT (b:Bool) (a e j:Addr) (i:Nat) (h:Heap):Prop:=(∃ old,IsEnum h e j (i:Int) old)∧ItAt b h j a i
theorem turn_enum {P:Program} {w:World} {K:PySem.W.Frag} {elts:List Expr} {x1} {pos:Pos} (b:Bool) (a e j:Addr) (hej:e≠j) (na:a≠e∧a≠j) :
    Turn P w K (.Tuple elts x1 pos) (Ite K b a) [e,j] e (enumT b a e j) where
  mem:=by simp
  obj:=fun i h st c hc=>by
    obtain ⟨⟨old,he⟩,h1⟩:=st
    have hc':c=e∨c=j:=by simpa using hc
    rcases hc' with rfl | rfl
    · exact ⟨_,he,fun v q=>by simp at q⟩
    · obtain ⟨o,e,_,d⟩:=h1.obj; exact ⟨o,e,fun v q=>by rw [d] at q; cases q⟩
  keep:=fun i h h' st k=>by
    obtain ⟨⟨old,he⟩,h1⟩:=st
    exact ⟨⟨old,k e (by simp) _ he⟩,h1.stay fun o e=>k j (by simp) o e⟩
  item:=by
    intro X hP hw hK hc i pins s σ H E I hf st hg
    subst hP hw hK
    obtain ⟨xs,x,q1,e1⟩:=hg
    obtain ⟨its1,r1,p1,z1⟩:=I.sq q1
    obtain ⟨u1,g1,v1⟩:=r1.get e1
    obtain ⟨⟨old,he⟩,h1⟩:=st
    have l1:=(List.getElem?_eq_some_iff.mp g1).1
    have hh:X.A.in1.handled=none:=I.ok.hd hc
    have D1:=draws_sq b (prog:=X.prog) (w:=X.w) hh j a na.2 its1.toArray
    refine wpAny_pyNext_enum_itemD D1 he ⟨h1,p1⟩ (by simpa using l1) hej (by simp [hej,na.1.symm]) fun x' h' tk px ho st1 hT' hsz kk=>⟨_,rfl,?_⟩
    have ex:x'=u1:=by
      have px':its1.toArray[i]?=some x':=px
      rw [List.getElem?_toArray,g1] at px'
      exact (Option.some.inj px').symm
    subst ex
    refine wpAny_letOwnedTupleGo_enum (s:={ s with heap:=h',toks:=tk + 1 }) ho fun h₂ he₂ hs₂=>?_
    replace hs₂:Heap.SameBut e h' h₂:=hs₂
    have hfr:H s.heap.objs.size=none:=I.hok.fresh (Nat.le_refl _)
    have Il:Inv X pins σ (upd H s.heap.objs.size (.tup [.int i,x])) { s with heap:=s.heap.push { cls:=.type "tuple",data:=.seq #[.int i tk,x'] } }:=I.laid (t':=s.toks) (fun b u e=>Heap.get?_push_of_some _ e) (Nat.le_refl _)
      ⟨by show 2≤sizeLine; decide,[.int i tk,x'],.cons ⟨tk,rfl⟩ (.cons v1 .nil),⟨_,Heap.get?_push_size _ rfl,rfl,_,rfl⟩⟩
    have lt:∀ {c o},s.heap.get? c=some o→c≠s.heap.objs.size:=fun e=>Nat.ne_of_lt (Heap.lt_size e)
    have nT:∀ c∈[e,j],c≠s.heap.objs.size:=fun c hc=>by
      have hc':c=e∨c=j:=by simpa using hc
      rcases hc' with rfl | rfl
      · exact lt he
      · obtain ⟨o,e,_⟩:=h1.obj; exact lt e
    have hn2:∀ c∈[e,j],upd H s.heap.objs.size (.tup [.int i,x]) c=none:=fun c hc=>by rw [upd_ne (nT c hc)]; exact (hf c hc).1
    have If:Inv X pins σ (upd H s.heap.objs.size (.tup [.int i,x])) { s with heap:=h₂,toks:=tk + 1 }:=Inv.turnedL (s:={ s with heap:=s.heap.push { cls:=.type "tuple",data:=.seq #[.int i tk,x'] } }) (ch:=[e,j]) (h':=h₂) (t':=tk + 1) Il (fun c o hc q=>by
      have hc':c≠e∧c≠j:=by simpa using hc
      rcases Heap.get?_push_cases q with ⟨rfl,rfl⟩ | q
      · exact hs₂.extBut _ _ hc'.1 hT'
      · exact hs₂.extBut _ _ hc'.1 (kk c o hc'.1 hc'.2 q)) fun c hc=>⟨hn2 c hc,(hf c hc).2⟩
    refine ⟨.ref s.heap.objs.size,_,If,rfl,⟨s.heap.objs.size,x,hfr,rfl,rfl,fun zs hq=>by rw [I.sq_inj hq q1]; exact e1⟩,?_,hn2⟩
    exact ⟨⟨_,by simpa using he₂⟩,st1.1.stay fun o q=>hs₂.extBut _ _ hej.symm q⟩
  done:=by
    intro X hP hw hK hc i pins s σ H E I hf st hg
    subst hP hw hK
    obtain ⟨xs,q1,le⟩:=hg
    obtain ⟨its1,r1,p1,z1⟩:=I.sq q1
    obtain ⟨⟨old,he⟩,h1⟩:=st
    have hh:X.A.in1.handled=none:=I.ok.hd hc
    have D1:=draws_sq b (prog:=X.prog) (w:=X.w) hh j a na.2 its1.toArray
    have len1:=r1.length
    have en:its1.toArray.size=i:=by simp only [List.size_toArray]; omega
    refine wpAny_pyNext_enum_endD D1 he ⟨by rw [en]; exact h1,p1⟩ fun h' sb=>⟨rfl,?_⟩
    exact I.turnedL (ch:=[e,j]) (h':=h') (t':=s.toks) (fun c o hc q=>by
        have hc':c≠e∧c≠j:=by simpa using hc
        exact sb c o hc'.2 q) hf
  self:=fun A i s Q E st h=>let ⟨⟨_,he⟩,_⟩:=st; wpAny_pyIter_enum he h
theorem bt_zip:bootBuiltins "zip" = some (.type "zip"):=by decide +kernel
theorem bt_enumerate:bootBuiltins "enumerate" = some (.type "enumerate"):=by decide +kernel
end L2
set_option Elab.async false
set_option linter.all false
set_option maxRecDepth 100000
set_option maxHeartbeats 4000000
namespace L2
open PySem PySem.Spec PyProof.Rows
theorem compLoop_tst {prog:Program} {w:World} {A:Around} {R:Result→Shared→Prop} {s:Shared} {elt target iter:Expr} {ifs:List Expr} {scope:Scope} {pos:Pos} {it acc:Value} {env:Env} (I:Nat→Shared→Prop)
    (turn:∀ n s,I n s→wpAny (model prog w) A (pyNext it) (fun r s₁=>match r with
      | none=>R (.ok .next) s₁
      | some v=>wpAny (model prog w) A (letOwnedTupleGo target it v) (fun _ s₁'=>wpAny (model prog w) A (assign target env v) (fun _ s₂ =>
          wpAny (model prog w) A (forIn ifs true fun c r=>if r=true then do let ok ← isTrue c env (eval c env); pure (ForInStep.yield ok) else pure (ForInStep.yield r)) (fun ok s₃ =>
            if ok=true then wpAny (model prog w) A (eval elt env) (fun x s₄=>wpAny (model prog w) A (call (.builtin "list.append") [acc,x]) (fun _ s₅=>∃ m,m < n∧I m s₅) (fun _ _=>False) s₄) (fun _ _=>False) s₃
            else ∃ m,m < n∧I m s₃) (fun _ _=>False) s₂) (fun _ _=>False) s₁') (fun _ _=>False) s₁) (fun _ _=>False) s)
    (n:Nat) (h:I n s):codeAny (model prog w) A (.compLoop (.ListComp elt [⟨target,iter,ifs,0⟩] scope pos) 0 it acc env) R s:=by
  refine codeAny_loop rfl I (fun n s hI=>?_) n h
  show wpAny _ _ ((compTurn (.ListComp elt [⟨target,iter,ifs,0⟩] scope pos) 0 it acc env).onRaise (fun y=>do noteFrame y env; theTreesLotGoes y)) _ _ s
  refine wpAny_noted ?_
  rw [compTurn_list]
  refine wpAny_bind (wpAny_standAt (wpAny_bind (wpAny_mono (turn n s hI) (fun r s₁ h₁=>?_) fun _ _ z=>z.elim)))
  cases r with
  | none=>exact wpAny_pure h₁
  | some v =>
    refine wpAny_bind (wpAny_mono h₁ (fun _ s₁' h₁'=>?_) fun _ _ z=>z.elim)
    refine wpAny_bind (wpAny_mono h₁' (fun _ s₂ h₂=>wpAny_bind (wpAny_mono h₂ (fun ok s₃ h₃=>?_) fun _ _ z=>z.elim)) fun _ _ z=>z.elim)
    cases ok with
    | false=>exact wpAny_pure ⟨rfl,h₃⟩
    | true=>exact wpAny_bind (wpAny_bind (wpAny_mono h₃ (fun x s₄ h₄=>wpAny_bind (wpAny_mono h₄ (fun _ s₅ h₅=>wpAny_pure (wpAny_pure ⟨rfl,h₅⟩)) fun _ _ z=>z.elim)) fun _ _ z=>z.elim))
noncomputable def Cx.compM (X:Cx) (xs:List Str) (js:List Nat) (scope:Scope) (cl:List (Str×Addr)) (C:Addr) (s₀:Shared) (H₀:Hp) (fp:List Addr):Cx :=
  { X with N:=xs++js.map (fun j=>X.N.getD j ""),s₀:=s₀,H₀:=H₀,env:=compEnvC scope cl C X.env,outer:=X.stack,ex:=fp,fn:=fun _=>false,pn:=[],xe:=fun _ _=>False }
noncomputable def capsM (σ:St) (js:List Nat):St:=js.map fun j=>(σ[j]?).join
structure CompOkM (X:Cx) (xs:List Str) (js:List Nat) (scope:Scope):Prop where
  kind:scope.kind=.function
  cell:∀ y∈scope.names,y.2≠.cell
  loc:∀ y∈scope.names,y.2=.local→scope.names.lookup y.1=some .local
  free:∀ y∈scope.names,y.2=.free→X.env.kindOf y.1=some .cell∨X.env.kindOf y.1=some .free
  caps:∀ j∈js,scope.names.lookup (X.N.getD j "")=some .free
  nd:(xs++js.map (fun j=>X.N.getD j "")).Nodup
noncomputable def compChkM (names:List (Str×NameKind)) (N xs:List Str) (js:List Nat) (scope:Scope):Bool :=
  (scope.kind == .function) && (scope.names.all fun y=>(y.2 != .cell) && ((y.2 != .local) || scope.names.lookup y.1 == some .local) && ((y.2 != .free) || (names.lookup y.1 == some .cell || names.lookup y.1 == some .free))) &&
    (js.all fun j=>scope.names.lookup (N.getD j "") == some .free) && decide ((xs++js.map (fun j=>N.getD j "")).Nodup)
theorem CompOkM.of {X:Cx} {scope:Scope} (xs:List Str) (js:List Nat) (h:compChkM X.env.scope.names X.N xs js scope=true):CompOkM X xs js scope:=by
  unfold compChkM at h
  simp only [Bool.and_eq_true,List.all_eq_true,beq_iff_eq,bne_iff_ne,Bool.or_eq_true,decide_eq_true_eq] at h
  obtain ⟨⟨⟨h1,h2⟩,h4⟩,h5⟩:=h
  refine ⟨h1,fun y hy=>(h2 y hy).1.1,fun y hy e=>?_,fun y hy e=>?_,h4,h5⟩
  · rcases (h2 y hy).1.2 with z | z
    · exact absurd e z
    · exact z
  · rcases (h2 y hy).2 with z | z
    · exact absurd e z
    · exact z
section
variable {X:Cx} {pins:List (Addr×Obj)} {σ:St} {H:Hp} {s:Shared}
theorem inv_compM {xs:List Str} {js:List Nat} {scope:Scope} {cl:List (Str×Addr)} {fp:List Addr} {h':Heap} {tk:Nat} (I:Inv X pins σ H s) (S:CompOkM X xs js scope)
    (h1:∀ y c,cl.lookup y=some c→X.env.cells.lookup y=some c) (h2:∀ y,(y,NameKind.free)∈scope.names→∃ c,cl.lookup y=some c)
    (hf:∀ b∈fp,FpOk X pins H b) (hfl:∀ b∈fp,b < s.heap.objs.size)
    (hn:h'.Ns s.heap.objs.size (fun _=>none)) (hk:∀ b o,s.heap.get? b=some o→h'.get? b=some o) :
    Inv (X.compM xs js scope cl s.heap.objs.size s H fp) [] (List.replicate xs.length none++capsM σ js) H { s with heap:=h',toks:=tk }:=by
  have e0:=I.env0
  have hfree:H s.heap.objs.size=none:=I.hok.fresh (Nat.le_refl _)
  refine ⟨⟨I.ok.mod,S.kind,I.ok.glob,I.ok.blt,Nat.le_refl _,fun y z c a b=>I.ok.inj y z c (h1 y c a) (h1 z c b),fun y hy=>?_,(fun y c z=>by cases z),I.ok.hd,I.ok.frames,.inl rfl,fun b hb=>⟨Nat.ne_of_lt (hfl b hb),fun y c e=>(hf b hb).2.2.2.2.1 y c (h1 y c e)⟩,
    I.bs,Nat.le_trans I.ok.bsz I.sz,fun b o e hb=>?_,fun b hb z=>?_,I.stack,I.stkFree⟩,rfl,I.bare,Un.kept hk,⟨_,hn,fun i y v e1 e2 e3=>?_⟩,fun y c e=>?_,hfree,fun y c e=>I.freeC y c (h1 y c e),(fun p hp=>by cases hp),I.hok.kept hk,?_⟩
  · have hy:(relabel scope X.env).names.lookup y=some .cell∨(relabel scope X.env).names.lookup y=some .free:=hy
    rcases hy with hy | hy
    · exact h2 y (relabel_look hy (.inl rfl) S.cell)
    · exact h2 y (relabel_look hy (.inr rfl) S.cell)
  · rcases (hf b hb).2.2.2.1 with z | z
    · exact I.ok.noex b o e z
    · exact absurd (Nat.lt_of_lt_of_le (Heap.lt_size e) (Nat.le_trans I.ok.bsz z)) (Nat.lt_irrefl _)
  · have z:b∈frs X.stack:=z
    rcases List.mem_cons.mp (I.stkSub b z) with q | q
    · exact (hf b hb).2.1 q
    · exact (hf b hb).2.2.1 q
  · have e1:(xs++js.map (fun j=>X.N.getD j ""))[i]?=some y:=e1
    by_cases hi:i < xs.length
    · rw [List.getElem?_append_left (by simpa using hi),List.getElem?_replicate,if_pos hi] at e2
      cases e2
    · rw [List.getElem?_append_right (by omega)] at e1
      rw [List.getElem?_append_right (by simp; omega)] at e2
      simp only [List.length_replicate] at e2
      generalize i - xs.length=i at e1 e2
      unfold capsM at e2
      rw [List.getElem?_map] at e1 e2
      cases ej:js[i]? with
      | none=>rw [ej] at e1; cases e1
      | some j =>
        rw [ej] at e1 e2
        have e1:X.N.getD j "" = y:=Option.some.inj e1
        have e2:(σ[j]?).join=some v:=Option.some.inj e2
        have hjm:j∈js:=List.mem_of_getElem? ej
        have e2':σ[j]?=some (some v):=by
          cases q:σ[j]? with
          | none=>rw [q] at e2; cases e2
          | some o=>rw [q] at e2; cases o with
            | none=>cases e2
            | some v'=>cases e2; rfl
        have hjl:j < X.N.length:=by rw [← I.len]; exact (List.getElem?_eq_some_iff.mp e2').1
        have eN:X.N[j]?=some y:=by
          rw [← e1,List.getD_eq_getElem?_getD,List.getElem?_eq_getElem hjl]; rfl
        have hfr:scope.names.lookup y=some .free:=by rw [← e1]; exact S.caps j hjm
        have hmem:(y,NameKind.free)∈scope.names:=PySem.mem_of_lookup hfr
        obtain ⟨c,hc⟩:=h2 y hmem
        have hXc:=h1 y c hc
        have hkd:=S.free (y,.free) hmem rfl
        obtain ⟨m,hm,hl⟩:=I.loc
        have hvis:Vis X.env.scope y:=by rcases hkd with q | q; exact .inr (.inl q); exact .inr (.inr q)
        obtain ⟨u,r,l⟩:=hl j y v eN e2' hvis
        refine ⟨u,r,.inr ⟨relabel_kind hfr,c,hc,?_⟩⟩
        rcases l with ⟨q,_⟩ | ⟨q,c',q1,q2⟩
        · rcases hkd with z | z
          · rw [z] at q; cases q
          · rw [z] at q; cases q
        · rw [hXc] at q1; cases q1
          obtain ⟨o,ho,hd⟩:=q2
          exact ⟨o,hk _ _ ho,hd⟩
  · obtain ⟨v,o,ho,hd⟩:=I.cell y c (h1 y c e)
    exact ⟨v,o,hk _ _ ho,hd⟩
  · show (List.replicate xs.length none++capsM σ js).length=(xs++js.map (fun j=>X.N.getD j "")).length
    unfold capsM
    simp
end
noncomputable def tgV (K:PySem.W.Frag) (tup:Bool) (n:Nat) (v:V) (H:Hp) (k:List V→Prop):Prop:=match tup with
  | false=>k [v]
  | true=>∃ a ws,v=.ref a∧SqT K H a ws∧ws.length=n∧k ws
structure TgM (K:PySem.W.Frag) (tup:Bool) (n:Nat) (g:TG):Prop where
  go:∀ (caps:St) (v:V) (H:Hp) (Q:St→Hp→Prop),tgV K tup n v H (fun ws=>Q (ws.map some++caps) H)→g v (List.replicate n none++caps) H Q
theorem tgm_name {K:PySem.W.Frag}:TgM K false 1 (gName 0):=⟨fun caps v H Q h=>h⟩
noncomputable def PIfs (X:Cx) (ifs:List Expr) (t:TT):Prop:=∀ (pins:List (Addr×Obj)) (s:Shared) (σ:St) (H:Hp) (Q:Bool→Hp→Prop),Inv X pins σ H s→t σ H Q →
  wpAny (model X.prog X.w) X.A (forIn ifs true fun c r=>if r=true then do let ok ← isTrue c X.env (eval c X.env); pure (ForInStep.yield ok) else pure (ForInStep.yield r)) (TP X pins σ Q) X.xe s
theorem pifs_nil {X:Cx}:PIfs X [] (fun _ H Q=>Q true H):=fun pins s σ H Q I h=>wpAny_tests_nil ⟨H,I,h⟩
theorem pifs_one {X:Cx} {c:Expr} {t:TT} (h:PT X c t):PIfs X [c] t:=fun pins s σ H Q I q=>wpAny_tests_one (h pins s σ H Q I q)
noncomputable def compR2 (K:PySem.W.Frag) (J:It) (tup:Bool) (n:Nat) (caps:St) (D:Addr) (tc:TT) (te:TE) (H1:Hp) (Q:Hp→Prop):Prop:=∃ P:Nat→Nat→List V→Hp→Prop,(∃ m,P 0 m [] (upd H1 D (.lst [])))∧∀ i m ys H2,P i m ys H2→H2 D=some (.lst ys) ∧
  ((J.stop i H2∧Q H2)∨(J.go i H2∧∀ v H3,J.yld i H2 v H3→tgV K tup n v H3 fun ws=>tc (ws.map some++caps) H3 fun ok H4 =>
    if ok=true then te (ws.map some++caps) H4 fun y H5=>H5 D=some (.lst ys)∧ys.length < sizeLine∧∃ m',m' < m∧P (i + 1) m' (ys++[y]) (upd H5 D (.lst (ys++[y])))
    else ∃ m',m' < m∧P (i + 1) m' ys H4))
noncomputable def tComp2 (K:PySem.W.Frag) (wi:TI) (tup:Bool) (n:Nat) (js:List Nat) (tc:TT) (te:TE):TE:=fun σ H Q=>wi σ H fun J H1=>∀ D,H1 D=none→compR2 K J tup n (capsM σ js) D tc te H1 fun H2=>Q (.ref D) H2
section
variable {X:Cx}
theorem comp_blockM {xs:List Str} {target elt iter:Expr} {ifs:List Expr} {js:List Nat} {scope:Scope} {cl:List (Str×Addr)} {pos:Pos} {tup:Bool} {g:TG} {tc:TT} {te:TE} {J:It} {fp:List Addr} {it:Addr} {tn:Nat→Heap→Prop} {pins:List (Addr×Obj)} {σ:St} {H1:Hp} {s1:Shared}
    {Q:V→Hp→Prop} {RR:Value→Addr→Result→Shared→Prop} {E:Value→Shared→Prop} (hc:X.calm=true) (S:CompOkM X xs js scope)
    (hg:∀ C s₀ H₀ fp cl,PG (X.compM xs js scope cl C s₀ H₀ fp) target g) (gm:TgM X.K tup xs.length g) (ht:∀ C s₀ H₀ fp cl,PIfs (X.compM xs js scope cl C s₀ H₀ fp) ifs tc)
    (he:∀ C s₀ H₀ fp cl,PE (X.compM xs js scope cl C s₀ H₀ fp) elt te)
    (h1:∀ y c,cl.lookup y=some c→X.env.cells.lookup y=some c) (h2:∀ y,(y,NameKind.free)∈scope.names→∃ c,cl.lookup y=some c)
    (I:Inv X pins σ H1 s1) (T:Turn X.prog X.w X.K target J fp it tn) (st:tn 0 s1.heap) (hf:∀ b∈fp,FpOk X pins H1 b)
    (q:∀ D,H1 D=none→compR2 X.K J tup xs.length (capsM σ js) D tc te H1 fun H2=>Q (.ref D) H2)
    (hRR:∀ D C H' s',Inv X pins σ H' s'→Loose X pins H' C→(∃ m,s'.heap.Ns C m)→Q (.ref D) H'→RR (.ref D) C (.ok .next) s') :
    wpAny (model X.prog X.w) X.A (newList []) (fun acc s₃=>wpAny (model X.prog X.w) X.A (newFunctionEnv scope X.env.globals cl [] X.env.qual none .none (some X.env)) (fun cenv s₄ =>
      codeAny (model X.prog X.w) X.A (.compStart (.ListComp elt [⟨target,iter,ifs,0⟩] scope pos) 0 (.ref it) acc { cenv with scope:=relabel scope X.env }) (RR acc cenv.locals) s₄) E s₃) E s1:=by
  have hfr:H1 s1.heap.objs.size=none:=I.hok.fresh (Nat.le_refl _)
  refine wpAny_newObj_type (wpAny_newFunctionEnv S.cell (by intro y hy; simp at hy) (fun h₁ hns₁ hsb₁=>?_) S.kind)
  dsimp only at hns₁ hsb₁ ⊢
  have I3:=I.laid (a:=s1.heap.objs.size) (o:=.lst []) (h':=s1.heap.push { cls:=.type "list",dict:=none,data:=.seq ([]:List Value).toArray }) (t':=s1.toks) (fun b u e=>Heap.get?_push_of_some _ e) (Nat.le_refl _)
    ⟨by simp,[],0,.nil,Heap.get?_push_size _ rfl⟩
  generalize hD:s1.heap.objs.size=D at *
  generalize hH2:s1.heap.push { cls:=.type "list",dict:=none,data:=.seq ([]:List Value).toArray }=G at *
  have hGD:G.objs.size=D + 1:=by rw [← hH2,Heap.size_push,hD]
  have hkG:∀ b o,G.get? b=some o→h₁.get? b=some o:=fun b o e=>hsb₁.extBut b o (Nat.ne_of_lt (Heap.lt_size e)) (Heap.get?_push_of_some _ e)
  have hold:∀ b o,s1.heap.get? b=some o→h₁.get? b=some o:=fun b o e=>hkG b o (by rw [← hH2]; exact Heap.get?_push_of_some _ e)
  have hfpl:∀ b∈fp,b < s1.heap.objs.size:=fun b hb=>by obtain ⟨o,e,_⟩:=T.obj _ _ st b hb; exact Heap.lt_size e
  have hf3:∀ b∈fp,FpOk X pins (upd H1 D (.lst [])) b:=fun b hb=>⟨by rw [upd_ne (by rw [← hD]; exact Nat.ne_of_lt (hfpl b hb))]; exact (hf b hb).1,(hf b hb).2⟩
  have IC:=inv_compM (xs:=xs) (js:=js) (scope:=scope) (cl:=cl) (fp:=fp) (h':=h₁) (tk:=s1.toks + ([]:List (Str×Value)).length) I3 S h1 h2 hf3 (fun b hb=>Nat.lt_of_lt_of_le (hfpl b hb) (by show s1.heap.objs.size≤G.objs.size; rw [hGD,hD]; exact Nat.le_succ _)) hns₁ hkG
  obtain ⟨P,⟨m0,p0⟩,turn⟩:=q D hfr
  have loop:∀ s':Shared,s'={ s1 with heap:=h₁,toks:=s1.toks + ([]:List (Str×Value)).length } →
      codeAny (model X.prog X.w) X.A (.compLoop (.ListComp elt [⟨target,iter,ifs,0⟩] scope pos) 0 (.ref it) (.ref D) (compEnvC scope cl G.objs.size X.env)) (RR (.ref D) G.objs.size) s':=by
    rintro s' rfl
    refine compLoop_tst (fun n s'=>∃ i ys H',Inv (X.compM xs js scope cl G.objs.size { s1 with heap:=G } (upd H1 D (.lst [])) fp) [] (List.replicate xs.length none++capsM σ js) H' s'∧tn i s'.heap∧(∀ b∈fp,H' b=none)∧P i n ys H') ?_ m0 ⟨0,[],_,IC,T.keep _ _ _ st fun b hb o e=>hold b o e,fun b hb=>(hf3 b hb).1,p0⟩
    rintro n s3 ⟨i,ys,H3,J3,st3,fr3,p3⟩
    obtain ⟨hD3,tr⟩:=turn i n ys H3 p3
    have stat:∀ {H':Hp} {s':Shared} {σ':St},Inv (X.compM xs js scope cl G.objs.size { s1 with heap:=G } (upd H1 D (.lst [])) fp) [] σ' H' s'→(∀ b∈fp,H' b=none)→∀ b∈fp,FpOk (X.compM xs js scope cl G.objs.size { s1 with heap:=G } (upd H1 D (.lst [])) fp) [] H' b :=
      fun {H' s' σ'} JJ hn b hb=>⟨hn b hb,(JJ.ok.exf b hb).1,JJ.ok.exfs b hb,.inl hb,(JJ.ok.exf b hb).2,fun p hp=>by cases hp⟩
    rcases tr with ⟨stop,qn⟩ | ⟨go,step⟩
    · refine wpAny_mono (T.done (X.compM xs js scope cl G.objs.size { s1 with heap:=G } (upd H1 D (.lst [])) fp) rfl rfl rfl hc i [] s3 _ H3 (fun _ _=>False) J3 (stat J3 fr3) st3 stop) (fun r s4 ⟨hr,J4⟩=>?_) fun _ _ z=>z
      subst hr
      have I4:Inv X pins σ H3 s4:=by
        refine I3.call' (ch:=fp) (s':=s4) J4.os J4.base J4.hok J4.bare fun b hb=>?_
        obtain ⟨_,f1,f2,f3,f4,f5⟩:=hf3 b hb
        exact ⟨f3,f1,f4,f5⟩
      refine hRR D G.objs.size H3 s4 I4 ⟨J4.free,?_,?_,?_,?_⟩ (let ⟨m,hm,_⟩:=J4.loc; ⟨m,hm⟩) qn
      · exact Nat.ne_of_gt I3.lt
      · exact I3.sz
      · exact fun y c e=>by obtain ⟨v,z⟩:=I3.cell y c e; exact Nat.ne_of_lt z.lt
      · exact fun p hp=>Nat.ne_of_lt (Heap.lt_size (I3.pin p hp).1)
    · refine wpAny_mono (T.item (X.compM xs js scope cl G.objs.size { s1 with heap:=G } (upd H1 D (.lst [])) fp) rfl rfl rfl hc i [] s3 _ H3 (fun _ _=>False) J3 (stat J3 fr3) st3 go) (fun r s4 ⟨u,hr,h4⟩=>?_) fun _ _ z=>z
      subst hr
      refine wpAny_mono h4 (fun _ s5 ⟨v,H5,J5,r5,y5,st5,fr5⟩=>?_) fun _ _ z=>z
      have J5':=J5.pinned (stat J5 fr5) (T.obj _ _ st5)
      have back:∀ {ws:List V} {H':Hp} {s':Shared} {pp},Inv (X.compM xs js scope cl G.objs.size { s1 with heap:=G } (upd H1 D (.lst [])) fp) pp (ws.map some++capsM σ js) H' s'→Inv (X.compM xs js scope cl G.objs.size { s1 with heap:=G } (upd H1 D (.lst [])) fp) pp (List.replicate xs.length none++capsM σ js) H' s' :=
        fun {ws H' s' pp} JJ=>by
          have hl:(ws.map some++capsM σ js).length=(List.replicate xs.length none++capsM σ js).length:=by rw [JJ.len,← J3.len]
          have hw:ws.length=xs.length:=by simpa using hl
          refine JJ.weak hl.symm fun k v e=>?_
          by_cases hk:k < xs.length
          · rw [List.getElem?_append_left (by simpa using hk),List.getElem?_replicate,if_pos hk] at e; cases e
          · rw [List.getElem?_append_right (by simp; omega)] at e ⊢
            simpa [hw] using e
      have seen:∀ {H':Hp} {s':Shared} {σ':St},Inv (X.compM xs js scope cl G.objs.size { s1 with heap:=G } (upd H1 D (.lst [])) fp) ([]++pinsAt fp s5.heap) σ' H' s'→tn (i + 1) s'.heap∧∀ b∈fp,H' b=none:=fun {H' s' σ'} JJ=>by
        refine ⟨T.keep _ _ _ st5 fun b hb o e=>(JJ.pin (b,o) (List.mem_append_right _ (List.mem_append_right _ (mem_pinsAt hb e)))).1,fun b hb=>?_⟩
        obtain ⟨o,e,d⟩:=T.obj _ _ st5 b hb
        exact (JJ.pin (b,o) (List.mem_append_right _ (List.mem_append_right _ (mem_pinsAt hb e)))).2.1
      have st5':=step v H5 y5
      refine wpAny_mono (hg G.objs.size { s1 with heap:=G } (upd H1 D (.lst [])) fp cl _ s5 _ H5 v u (fun σ' H'=>∃ ws:List V,σ'=ws.map some++capsM σ js∧H'=H5∧tc (ws.map some++capsM σ js) H5 fun ok H4 =>
          if ok=true then te (ws.map some++capsM σ js) H4 fun y H5=>H5 D=some (.lst ys)∧ys.length < sizeLine∧∃ m',m' < n∧P (i + 1) m' (ys++[y]) (upd H5 D (.lst (ys++[y]))) else ∃ m',m' < n∧P (i + 1) m' ys H4) J5' r5 (gm.go _ _ _ _ ?_)) (fun _ s6 ⟨σ6,H6,J6,ws,e1,e2,h6⟩=>?_) fun _ _ z=>z
      · unfold tgV at st5' ⊢
        cases tup
        · exact ⟨_,rfl,rfl,st5'⟩
        · obtain ⟨a,ws,z1,z2,z3,z4⟩:=st5'
          exact ⟨a,ws,z1,z2,z3,ws,rfl,rfl,z4⟩
      subst e1 e2
      refine wpAny_mono (ht G.objs.size { s1 with heap:=G } (upd H1 D (.lst [])) fp cl _ s6 _ _ _ J6 h6) (fun ok s7 ⟨H7,J7,q7⟩=>?_) fun _ _ z=>z
      cases ok with
      | false =>
        rw [if_neg Bool.false_ne_true] at q7 ⊢
        obtain ⟨m',hm',p7⟩:=q7
        obtain ⟨w1,w2⟩:=seen J7
        exact ⟨m',hm',i + 1,ys,H7,back J7.unpinned,w1,w2,p7⟩
      | true =>
        rw [if_pos rfl] at q7 ⊢
        refine wpAny_mono (he G.objs.size { s1 with heap:=G } (upd H1 D (.lst [])) fp cl _ s7 _ H7 _ J7 q7) (fun y s8 ⟨yv,H8,J8,ry,hD8,hz8,m',hm',p8⟩=>?_) fun _ _ z=>z
        obtain ⟨z,its,nn,r,hl,e⟩:=J8.lstM hD8
        refine call_meets F.slot_list_append ⟨_,e,rfl⟩ F.entry_list_append (F.args_list_append_2 _ _) (PySem.list_append D its.toArray nn y (by rw [List.size_toArray]; omega)) ⟨e,?_⟩
        have J9:=J8.lset (its':=its++[y]) (t':=s8.toks) hD8 e (f:=fun xs=>xs.push y) (by simp) (r.append (.cons ry .nil)) (by rw [List.length_append,List.length_singleton]; omega)
        obtain ⟨w1,w2⟩:=seen J9
        exact ⟨m',hm',i + 1,ys++[yv],_,back J9.unpinned,w1,w2,p8⟩
  exact codeAny_compStart_list (loop _ rfl) (T.self X.A 0 _ _ _ (T.keep _ _ _ st fun b hb o e=>hold b o e) (loop _ rfl))
theorem pe_compM {xs:List Str} {target elt iter:Expr} {ifs:List Expr} {js:List Nat} {scope:Scope} {pos:Pos} {tup:Bool} {g:TG} {tc:TT} {te:TE} {wi:TI} (hc:X.calm=true) (S:CompOkM X xs js scope) (hi:PI X target iter wi)
    (hg:∀ C s₀ H₀ fp cl,PG (X.compM xs js scope cl C s₀ H₀ fp) target g) (gm:TgM X.K tup xs.length g) (ht:∀ C s₀ H₀ fp cl,PIfs (X.compM xs js scope cl C s₀ H₀ fp) ifs tc)
    (he:∀ C s₀ H₀ fp cl,PE (X.compM xs js scope cl C s₀ H₀ fp) elt te) (hs:∀ v,foldedSetIterable iter X.env v=pure v:=by intro _; rfl) :
    PE X (.ListComp elt [⟨target,iter,ifs,0⟩] scope pos) (tComp2 X.K wi tup xs.length js tc te):=by
  intro pins s σ H Q I h
  obtain ⟨cl,c0,c1,c2⟩:=closure_ok (scope:=scope) (env:=X.env) fun p hp hk=>I.ok.has p.1 (S.free p hp hk)
  rw [eval_ListComp]
  refine wpAny_comprehension_free (use:=none) rfl hs c0 S.kind S.loc (thn (hi pins s σ H _ I h) fun xv s₁ h₁=>thn h₁ fun itv s₂ h₂=>?_)
  obtain ⟨it,fp,tn,J,H',rfl,I2,T,st,hf,q⟩:=h₂
  refine comp_blockM (RR:=fun acc C=>compPost (model X.prog X.w) X.A X.xe none (EP X pins σ Q) acc C) hc S hg gm ht he c1 c2 I2 T st hf q ?_
  rintro D C H' s' I' L ⟨m,hm⟩ qq
  refine ⟨m,hm,fun h' hs'=>⟨.ref D,H',?_,rfl,qq⟩⟩
  exact I'.turned (t':=s'.toks) (it:=C) (fun b o hb e=>hs'.extBut b o hb e) L.free L.ne (.inr L.yng) L.cell L.pin
theorem ps_compM {i:Nat} {y:Str} {py:Pos} {xs:List Str} {target elt iter:Expr} {ifs:List Expr} {js:List Nat} {scope:Scope} {pos spos:Pos} {tup:Bool} {g:TG} {tc:TT} {te:TE} {wi:TI} (hc:X.calm=true) (S:CompOkM X xs js scope) (hi:PI X target iter wi)
    (hg:∀ C s₀ H₀ fp cl,PG (X.compM xs js scope cl C s₀ H₀ fp) target g) (gm:TgM X.K tup xs.length g) (ht:∀ C s₀ H₀ fp cl,PIfs (X.compM xs js scope cl C s₀ H₀ fp) ifs tc)
    (he:∀ C s₀ H₀ fp cl,PE (X.compM xs js scope cl C s₀ H₀ fp) elt te) (hN:X.N.Nodup) (hy:X.N[i]?=some y) (hl:Loc X.env.scope y)
    (hsw:swapsWith (.ListComp elt [⟨target,iter,ifs,0⟩] scope pos) (some (.Name y py)) spos.line X.env=pure true)
    (hs:∀ v,foldedSetIterable iter X.env v=pure v:=by intro _; rfl) (hfn:X.fn y=true∨X.env.scope.names.lookup y=some .local:=by first | exact .inl rfl | exact .inr rfl | assumption) :
    PS X (.Assign [.Name y py] (.ListComp elt [⟨target,iter,ifs,0⟩] scope pos) spos) (tAsg (tComp2 X.K wi tup xs.length js tc te) (gName i)):=by
  intro pins s σ H D I h
  obtain ⟨cl,c0,c1,c2⟩:=closure_ok (scope:=scope) (env:=X.env) fun p hp hk=>I.ok.has p.1 (S.free p hp hk)
  rw [exec_Assign_Name_used _ _ _ _ hsw]
  refine wpAny_bind (wpAny_standAt (wpAny_bind ?_))
  show wpAny _ _ (do let _ ← comprehension (.ListComp elt [⟨target,iter,ifs,0⟩] scope pos) scope X.env _ (newList []) false (eval iter X.env) (some (assign (.Name y py) X.env))) _ _ s
  refine wpAny_bind (wpAny_mono (wpAny_comprehension_free (use:=some (assign (.Name y py) X.env)) (Q:=fun _ s'=>SP X pins D .next s') rfl hs c0 S.kind S.loc
    (thn (hi pins s σ H _ I h) fun xv s₁ h₁=>thn h₁ fun itv s₂ h₂=>?_)) (fun _ s' hq=>wpAny_pure (wpAny_pure hq)) fun _ _ e=>e)
  obtain ⟨it,fp,tn,J,H',rfl,I2,T,st,hf,q⟩:=h₂
  refine comp_blockM (Q:=fun v H1=>gName i v σ H1 D.nx) (RR:=fun acc C=>compPost (model X.prog X.w) X.A X.xe (some (assign (.Name y py) X.env)) (fun _ s'=>SP X pins D .next s') acc C) hc S hg gm ht he c1 c2 I2 T st hf q ?_
  rintro E C H' s' I' L ⟨m,hm⟩ qq
  show wpAny _ _ (assign (.Name y py) X.env (.ref E)) _ _ _
  refine wpAny_assign_Name (store_ok2 (v:=.ref E) I' hN hy hl rfl (fun s2 I2 ⟨a,sb,ha⟩=>?_) hfn)
  have nca:C≠a:=by
    rcases ha with z | z
    · rw [z]; exact L.ne
    · exact (L.cell y a z).symm
  refine ⟨m,hm.sameBut sb nca,fun h' hs'=>⟨_,H',?_,qq⟩⟩
  exact I2.turned (t':=s2.toks) (it:=C) (fun b o hb e=>hs'.extBut b o hb e) L.free L.ne (.inr L.yng) L.cell L.pin
end
section
variable {X:Cx} {elts:List Expr} {x1:Nat} {tpos:Pos}
noncomputable def iZip (K:PySem.W.Frag) (ta:TA):TI:=fun σ H R=>ta σ H fun vs H1=>∃ a a' b b',vs=[.ref a,.ref a']∧(∃ xs,Sq K b H1 a xs)∧(∃ ys,Sq K b' H1 a' ys)∧R (Itz K b b' a a') H1
theorem pi_zip {a b:Expr} {ta:TA} {p pos:Pos} (hg:Gl X "zip") (hm:X.mg "zip" = none) (ha:PA X [a,b] ta) (hs:starEach [a,b] X.env=[(false,eval a X.env),(false,eval b X.env)]:=by rfl) (hs2:starEach [b] X.env=[(false,eval b X.env)]:=by rfl) :
    PI X (.Tuple elts x1 tpos) (.Call (.Name "zip" p) [a,b] [] pos) (iZip X.K ta):=by
  intro pins s σ H R I h
  refine Call_ (ld_blt I hg hm bt_zip (PyProof.Rows.callWith_type1 (thn (ha pos pins s σ H _ I h) fun us s1 ⟨vs,H1,I1,r1,q1⟩=>?_) (by rw [hs,hs2]) (by rw [hs2]; rfl)))
  obtain ⟨a1,a2,b1,b2,e,⟨xs,k1⟩,⟨ys,k2⟩,q⟩:=q1
  subst e
  cases r1 with
  | cons r rr =>
    cases rr with
    | cons r' rr =>
      cases rr
      cases r
      cases r'
      obtain ⟨its1,v1,p1,z1⟩:=I1.sq k1
      obtain ⟨its2,v2,p2,z2⟩:=I1.sq k2
      have l1:a1 < s1.heap.objs.size:=by obtain ⟨o,e,_⟩:=p1.obj; exact Heap.lt_size e
      have l2:a2 < s1.heap.objs.size:=by obtain ⟨o,e,_⟩:=p2.obj; exact Heap.lt_size e
      refine call_zp p1 p2 fun h' hz hTI hTO i1 i2 kk=>wpAny_pyIter_zip (s:={ s1 with heap:=h' }) hz ?_
      have ne:∀ {c k:Nat},c < s1.heap.objs.size→c≠s1.heap.objs.size + k:=fun h z=>by omega
      have ap:∀ {k l:Nat},k≠l→s1.heap.objs.size + k≠s1.heap.objs.size + l:=fun h z=>h (by omega)
      have ap0:∀ {l:Nat},l≠0→s1.heap.objs.size≠s1.heap.objs.size + l:=fun h z=>h (by omega)
      refine ⟨_,[s1.heap.objs.size + 4,s1.heap.objs.size + 2,s1.heap.objs.size + 3,s1.heap.objs.size,s1.heap.objs.size + 1],_,_,H1,rfl,I1.kept (t':=s1.toks) kk,turn_zip b1 b2 a1 a2 _ _ _ _ _ ⟨ap (by decide),ap (by decide),ap0 (by decide),ap (by decide),ap (by decide),(ap0 (by decide)).symm,ap (by decide),(ap0 (by decide)).symm,ap (by decide),ap0 (by decide)⟩
        ⟨ne l1,ne l1,Nat.ne_of_lt l1,ne l1⟩ ⟨ne l2,ne l2,Nat.ne_of_lt l2,ne l2⟩,⟨hz,hTI,⟨_,_,hTO⟩,i1,i2⟩,fun c hc=>?_,q⟩
      have hle:s1.heap.objs.size≤c:=by
        have hc':c=s1.heap.objs.size + 4∨c=s1.heap.objs.size + 2∨c=s1.heap.objs.size + 3∨c=s1.heap.objs.size∨c=s1.heap.objs.size + 1:=by simpa using hc
        rcases hc' with e | e | e | e | e <;> (rw [e]; omega)
      exact I1.fpOk hle (I1.hok.fresh hle)
noncomputable def iEnu (K:PySem.W.Frag) (ta:TA):TI:=fun σ H R=>ta σ H fun vs H1=>∃ a b,vs=[.ref a]∧(∃ xs,Sq K b H1 a xs)∧R (Ite K b a) H1
theorem pi_enum {a:Expr} {ta:TA} {p pos:Pos} (hg:Gl X "enumerate") (hm:X.mg "enumerate" = none) (ha:PA X [a] ta) (hs:starEach [a] X.env=[(false,eval a X.env)]:=by rfl) :
    PI X (.Tuple elts x1 tpos) (.Call (.Name "enumerate" p) [a] [] pos) (iEnu X.K ta):=by
  intro pins s σ H R I h
  refine Call_ (ld_blt I hg hm bt_enumerate (PyProof.Rows.callWith_type1 (thn (ha pos pins s σ H _ I h) fun us s1 ⟨vs,H1,I1,r1,q1⟩=>?_) hs rfl))
  obtain ⟨a1,b1,e,⟨xs,k1⟩,q⟩:=q1
  subst e
  cases r1 with
  | cons r rr =>
    cases rr
    cases r
    obtain ⟨its1,v1,p1,z1⟩:=I1.sq k1
    have l1:a1 < s1.heap.objs.size:=by obtain ⟨o,e,_⟩:=p1.obj; exact Heap.lt_size e
    refine call_en p1 fun h' he i1 kk=>wpAny_pyIter_enum (s:={ s1 with heap:=h' }) he ?_
    refine ⟨_,[s1.heap.objs.size + 1,s1.heap.objs.size],_,_,H1,rfl,I1.kept (t':=s1.toks) kk,turn_enum b1 a1 _ _ (Nat.succ_ne_self _) ⟨Nat.ne_of_lt (Nat.lt_succ_of_lt l1),Nat.ne_of_lt l1⟩,⟨⟨_,he⟩,i1⟩,fun c hc=>?_,q⟩
    have hle:s1.heap.objs.size≤c:=by
      have hc':c=s1.heap.objs.size + 1∨c=s1.heap.objs.size:=by simpa using hc
      rcases hc' with e | e <;> (rw [e]; omega)
    exact I1.fpOk hle (I1.hok.fresh hle)
end
end L2
set_option Elab.async false
set_option linter.all false
set_option maxRecDepth 100000
set_option maxHeartbeats 4000000
namespace L2
open PySem PySem.Spec PyProof.Rows
section
variable {X:Cx}
theorem bt_sum:bootBuiltins "sum" = some (.builtin "sum"):=by decide +kernel
noncomputable def sumFits (ns:List Int):Prop:=∀ j,j < ns.length→InLong (ns.getD j 0)∧InLong (preSum (fun i=>ns.getD i 0) (j + 1))
theorem preSum_take (ns:List Int):∀ j,preSum (fun i=>ns.getD i 0) j=(ns.take j).sum
  | 0=>by simp [preSum]
  | j + 1=>by
    rw [PySem.sum_take_succ,← preSum_take ns j]
    rfl
noncomputable def rSum (K:PySem.W.Frag):List V→Hp→VK→Prop:=fun vs H Q=>∃ (b:Bool) (a:Addr) (ns:List Int),vs=[.ref a]∧Sq K b H a (ns.map V.int)∧sumFits ns∧Q (.int ns.sum) H
theorem sq_walks (b:Bool) {prog:Program} {w:World} {A:Around} (hh:A.handled=none) (j a:Addr) (ne:a≠j) (xs:Array Value) :
    Walks prog w A j [j,a] [j] xs.size (fun i v=>xs[i]?=some v) (fun i h=>ItAt b h j a i∧SqAt b h a xs):=by
  cases b
  · exact Walks.list hh j a ne xs
  · exact Walks.tuple hh j a ne xs
theorem call_sum (hc:X.calm=true):CallR X (.builtin "sum") (rSum X.K):=by
  intro pins s σ H xs us Q I rv h
  obtain ⟨b,a,ns,rfl,hq,fit,q⟩:=h
  obtain ⟨u,rfl,ru⟩:=rv.one
  cases (show u=Value.ref a from ru)
  obtain ⟨its,r,p,hz⟩:=I.sq hq
  have hi:=intsAre_of r
  have hlt:a < s.heap.objs.size:=by obtain ⟨_,e,_⟩:=p.obj; exact Heap.lt_size e
  have hlen:its.length=ns.length:=by have:=r.length; simpa using this.symm
  refine call_sum_walk (iter_sq p ?_)
  refine ⟨s.heap.objs.size,[s.heap.objs.size,a],[s.heap.objs.size],its.toArray.size,_,_,fun i=>ns.getD i 0,rfl,sq_walks b (A:=X.A.in1) (I.ok.hd hc) _ a (Nat.ne_of_lt hlt) its.toArray,
    ⟨.of (Heap.get?_push_size _ rfl) rfl rfl,p.stay fun o e=>Heap.get?_push_of_some _ e⟩,fun c hcm=>?_,fun i v hP=>?_,fun j hj=>fit j (by simpa [hlen] using hj),fun h' tk t' hk=>?_⟩
  · show c < (s.heap.push _).objs.size
    rw [Heap.size_push]
    have:c=s.heap.objs.size∨c=a:=by simpa using hcm
    rcases this with rfl | rfl
    · exact Nat.lt_succ_self _
    · exact Nat.lt_succ_of_lt hlt
  · have hP':its[i]?=some v:=by simpa using hP
    have hl:=(List.getElem?_eq_some_iff.mp hP').1
    have hl2:i < (ns.map V.int).length:=by rw [List.length_map]; omega
    obtain ⟨u,hu,rr⟩:=r.get (List.getElem?_eq_getElem hl2)
    rw [hP'] at hu
    cases hu
    rw [List.getElem_map] at rr
    obtain ⟨t,e⟩:=rr
    refine ⟨t,?_⟩
    rw [e]
    show Value.int ns[i] t=Value.int (ns.getD i 0) t
    rw [List.getD_eq_getElem?_getD,List.getElem?_eq_getElem (by omega)]
    rfl
  · rw [List.size_toArray,hlen,preSum_take,List.take_length]
    have hn:∀ c o,s.heap.get? c=some o→c ∉ [s.heap.objs.size]:=fun c o e z=>by
      have z':c=s.heap.objs.size:=by simpa using z
      subst z'
      exact absurd (Heap.lt_size e) (Nat.lt_irrefl _)
    exact ⟨.int _,H,I.kept fun c o e=>hk c o (hn c o e) (Heap.get?_push_of_some _ e),⟨t',rfl⟩,q⟩
noncomputable def rCatA (K:PySem.W.Frag):R2:=fun x y H Q=>∃ a b xs ys,x=.ref a∧y=.ref b∧SqT K H a xs∧SqT K H b ys∧xs.length + ys.length≤sizeLine ∧
  (xs=[]→Q (.ref b) H)∧(xs≠[]→ys=[]→Q (.ref a) H)∧(xs≠[]→ys≠[]→∀ p,H p=none→Q (.ref p) (upd H p (.tup (xs++ys))))
theorem op_catA:OpR X (binaryOp .Add) (rCatA X.K):=by
  intro pins s σ H x y v u Q I rx ry h
  obtain ⟨a,b,xs,ys,rfl,rfl,ha,hb,hz,q0,q1,q2⟩:=h
  by_cases hx:xs=[]
  · cases rx
    cases ry
    obtain ⟨its,r1,p1,_⟩:=I.tuple ha
    obtain ⟨its2,r2,p2,_⟩:=I.tuple hb
    have hv:its=[]:=r1.nil_iff.mpr hx
    obtain ⟨⟨cls,dd,data,sl⟩,ho,hc,n,hd⟩:=id p1
    obtain ⟨⟨cls2,dd2,data2,sl2⟩,ho2,hc2,n2,hd2⟩:=id p2
    simp only at hc hd hc2 hd2
    subst hc hd hc2 hd2
    exact concat_meets ⟨_,ho,rfl⟩ ⟨_,ho2,rfl⟩ noFill_tuple_add seq_tuple_add PySem.F.slot_tuple_add PySem.F.entry_tuple_add (PySem.F.args_tuple_add_2 _ _) (tuple_addW0 a b its.toArray its2.toArray n n2 dd dd2 sl sl2 (by simp [hv])) ⟨ho,ho2,.ref b,H,I,rfl,q0 hx⟩
  · exact op_catT pins s σ H _ _ v u Q I rx ry ⟨a,b,xs,ys,rfl,rfl,ha,hb,hx,hz,q1 hx,q2 hx⟩
end
end L2
set_option Elab.async false
set_option linter.all false
set_option maxRecDepth 100000
set_option maxHeartbeats 4000000
namespace DL
open PySem PySem.Spec L2
open PySem.W (XC)
section
variable {X:Cx} {Y:Y2} {W:XW} {tg:Expr} {K:Frag}
noncomputable def sqb:D→Bool | .tup _=>true | _=>false
theorem seqD_q {F:Hp} {d:D} {xs:List D} {x:V} (h:seqD d=some xs) (r:Rep K F d x):∃ a vs b,x=.ref a∧Sq K b F a vs∧Reps K F xs vs:=by
  obtain ⟨a,vs,e,sq,z⟩:=seqD_w h r
  rcases sq with sq | sq
  · exact ⟨a,vs,false,e,sq,z⟩
  · exact ⟨a,vs,true,e,sq,z⟩
theorem _root_.L2.Same.sq {F F':Hp} {b:Bool} {a:Addr} {xs:List V} (s:Same F F') (h:Sq K b F a xs):Sq K b F' a xs:=by
  cases b
  · exact s.sqL h
  · exact s.sqT h
noncomputable def zipD (ds es:List D):List D:=List.zipWith (fun d e=>D.tup [d,e]) ds es
theorem zipD_get {ds es:List D} {i:Nat} {c:D} (h:(zipD ds es)[i]?=some c):∃ d e,ds[i]?=some d∧es[i]?=some e∧c=.tup [d,e]:=by
  unfold zipD at h
  rw [List.getElem?_zipWith] at h
  cases h1:ds[i]? with
  | none=>rw [h1] at h; cases h
  | some d =>
    cases h2:es[i]? with
    | none=>rw [h1,h2] at h; cases h
    | some e=>rw [h1,h2] at h; exact ⟨d,e,rfl,rfl,(Option.some.inj h).symm⟩
theorem zipD_len {ds es:List D}:(zipD ds es).length=min ds.length es.length:=by unfold zipD; simp
theorem src_zip {F:Hp} {b b':Bool} {a a':Addr} {xs ys:List V} {ds es:List D} (h:Sq K b F a xs) (h':Sq K b' F a' ys) (r:Reps K F ds xs) (r':Reps K F es ys):SrcOk K (Itz K b b' a a') F (zipD ds es):=by
  refine ⟨fun i c F' H e s1 s2=>?_,fun F' H s1 s2=>?_⟩
  · obtain ⟨d,e',e1,e2,rfl⟩:=zipD_get e
    obtain ⟨v,ev,rv⟩:=r.get e1
    obtain ⟨v',ev',rv'⟩:=r'.get e2
    have q1:=(s1.trans s2).sq h
    have q2:=(s1.trans s2).sq h'
    refine ⟨⟨xs,ys,v,v',q1,ev,q2,ev'⟩,fun u H' y=>?_⟩
    obtain ⟨p,x,y,hp,rfl,rfl,k1,k2⟩:=y
    have e3:=k1 xs q1
    have e4:=k2 ys q2
    rw [ev] at e3
    rw [ev'] at e4
    cases e3
    cases e4
    exact .inr ⟨p,_,_,hp,rfl,rfl,rfl,Reps.cons (rv.mono s1) (Reps.cons (rv'.mono s1) Reps.nil)⟩
  · rw [zipD_len]
    refine ⟨xs,ys,(s1.trans s2).sq h,(s1.trans s2).sq h',?_⟩
    rw [r.length,r'.length]
    omega
noncomputable def enumD (k:Nat) (ds:List D):List D:=match ds with | []=>[] | d :: r=>.tup [.int (k:Int),d] :: enumD (k + 1) r
theorem enumD_len:∀ (ds:List D) (k:Nat),(enumD k ds).length=ds.length
  | [],k=>rfl
  | d :: r,k=>by unfold enumD; rw [List.length_cons,List.length_cons,enumD_len r]
theorem enumD_get:∀ {ds:List D} {k i:Nat} {c:D},(enumD k ds)[i]?=some c→∃ d,ds[i]?=some d∧c=.tup [.int ((k + i:Nat):Int),d]
  | [],k,i,c,h=>by unfold enumD at h; simp at h
  | d :: r,k,0,c,h=>by unfold enumD at h; simp at h; exact ⟨d,rfl,h.symm⟩
  | d :: r,k,i + 1,c,h=>by
    unfold enumD at h
    rw [List.getElem?_cons_succ] at h
    obtain ⟨e,h1,h2⟩:=enumD_get h
    exact ⟨e,by simpa using h1,by rw [h2,show k + 1 + i=k + (i + 1) by omega]⟩
theorem src_enum {F:Hp} {b:Bool} {a:Addr} {xs:List V} {ds:List D} (h:Sq K b F a xs) (r:Reps K F ds xs):SrcOk K (Ite K b a) F (enumD 0 ds):=by
  refine ⟨fun i c F' H e s1 s2=>?_,fun F' H s1 s2=>?_⟩
  · obtain ⟨d,e1,rfl⟩:=enumD_get e
    obtain ⟨v,ev,rv⟩:=r.get e1
    have q1:=(s1.trans s2).sq h
    refine ⟨⟨xs,v,q1,ev⟩,fun u H' y=>?_⟩
    obtain ⟨p,x,hp,rfl,rfl,k1⟩:=y
    have e3:=k1 xs q1
    rw [ev] at e3
    cases e3
    rw [Nat.zero_add]
    exact .inr ⟨p,_,_,hp,rfl,rfl,rfl,Reps.cons (rep_int.mpr rfl) (Reps.cons (rv.mono s1) Reps.nil)⟩
  · rw [enumD_len]
    exact ⟨xs,(s1.trans s2).sq h,r.length⟩
variable {a b:Expr} {ta:TA2} {p pos tpos:Pos} {elts:List Expr} {x1:Nat}
noncomputable def t2Zip (ta:TA2):TI2:=fun x ρ δ q=>ta x ρ δ fun ds ρ1 δ1=>match ds with | [d,e]=>(match seqD d,seqD e with | some xs,some ys=>q (zipD xs ys) ρ1 δ1 | _,_=>False) | _=>False
theorem i2_zip (hm:X.mg "zip" = none) (ha:PA2 X Y W [a,b] ta) (hg:Gl X "zip" := by rfl) (hs:starEach [a,b] X.env=[(false,eval a X.env),(false,eval b X.env)]:=by rfl) (hs2:starEach [b] X.env=[(false,eval b X.env)]:=by rfl) :
    PI2 X Y W (.Tuple elts x1 tpos) (.Call (.Name "zip" p) [a,b] [] pos) (t2Zip ta):=pi2 (pi_zip hg hm ha.go hs hs2) fun σ H R ⟨F,ρ,δ,x,q,I,h,k,kx⟩=>by
  refine ⟨F,ρ,δ,x,_,I,h,fun ds vs F' H' ρ' δ' I' s' r' h'=>?_,kx⟩
  split at h'
  · rename_i d e
    split at h'
    · rename_i xs ys e1 e2
      obtain ⟨v,u,rfl,r1,r2⟩:=reps2 r'
      obtain ⟨a1,vs1,b1,rfl,q1,z1⟩:=seqD_q e1 r1
      obtain ⟨a2,vs2,b2,rfl,q2,z2⟩:=seqD_q e2 r2
      exact ⟨a1,a2,b1,b2,rfl,⟨_,I'.sub.sq q1⟩,⟨_,I'.sub.sq q2⟩,k _ _ F' H' ρ' δ' I' s' (src_zip q1 q2 z1 z2) h'⟩
    · exact h'.elim
  · exact h'.elim
noncomputable def t2Enu (ta:TA2):TI2:=fun x ρ δ q=>ta x ρ δ fun ds ρ1 δ1=>match ds with | [d]=>(match seqD d with | some xs=>q (enumD 0 xs) ρ1 δ1 | none=>False) | _=>False
theorem i2_enum (hm:X.mg "enumerate" = none) (ha:PA2 X Y W [a] ta) (hg:Gl X "enumerate" := by rfl) (hs:starEach [a] X.env=[(false,eval a X.env)]:=by rfl) :
    PI2 X Y W (.Tuple elts x1 tpos) (.Call (.Name "enumerate" p) [a] [] pos) (t2Enu ta):=pi2 (pi_enum hg hm ha.go hs) fun σ H R ⟨F,ρ,δ,x,q,I,h,k,kx⟩=>by
  refine ⟨F,ρ,δ,x,_,I,h,fun ds vs F' H' ρ' δ' I' s' r' h'=>?_,kx⟩
  split at h'
  · split at h'
    · rename_i xs e1
      obtain ⟨v,rfl,r1⟩:=reps1 r'
      obtain ⟨a1,vs1,b1,rfl,q1,z1⟩:=seqD_q e1 r1
      exact ⟨a1,b1,rfl,⟨_,I'.sub.sq q1⟩,k _ _ F' H' ρ' δ' I' s' (src_enum q1 z1) h'⟩
    · exact h'.elim
  · exact h'.elim
end
noncomputable def tgD (tup:Bool) (n:Nat) (d:D):Option (List D):=match tup,d with
  | false,d=>some [d]
  | true,.tup ds=>if ds.length=n then some ds else none
  | true,_=>none
noncomputable def compM (tup:Bool) (n:Nat) (tc:TT2) (te:TE2) (js:List Nat) (ρ:En) (q:List D→Dk→Prop):List D→List D→Dk→Prop
  | [],acc,δ=>q acc δ
  | d :: ds,acc,δ=>match tgD tup n d with
    | some es=>tc (fun _ _ _ _=>False) (es.map .val++capt ρ js) δ fun b ρ1 δ1=>if b=true then te (fun _ _ _ _=>False) ρ1 δ1 fun e _ δ2=>acc.length < 1000∧compM tup n tc te js ρ q ds (acc++[e]) δ2 else compM tup n tc te js ρ q ds acc δ1
    | none=>False
section
variable {K:Frag} {Y:Y2} {F H:Hp} {σ:St} {ρ:En} {δ:Dk}
theorem cells_app {H₀:Hp} {sf:Option Addr} {cs:En} {ss:St} (hc:∀ (i:Nat) (c:Cell),cs[i]?=some c→CellOk K F H H₀ sf c (ss[i]?).join):∀ {es:List D} {ws:List V},Reps K F es ws→∀ (i:Nat) (c:Cell),(es.map Cell.val++cs)[i]?=some c→CellOk K F H H₀ sf c ((ws.map some++ss:St)[i]?).join
  | [],ws,r,i,c,e=>by rw [reps_nil.mp r]; exact hc i c e
  | d :: es,ws,r,0,c,e=>by
    obtain ⟨v,l,rfl,r1,r2⟩:=reps_cons.mp r
    cases e
    exact ⟨v,rfl,r1⟩
  | d :: es,ws,r,i + 1,c,e=>by
    obtain ⟨v,l,rfl,r1,r2⟩:=reps_cons.mp r
    exact cells_app hc r2 i c e
theorem I2.blockM {es:List D} {ws:List V} {js:List Nat} (I:I2 K Y F H σ ρ δ) (r:Reps K F es ws):I2 K ⟨F,H,δ,none⟩ F H (ws.map some++capsM σ js) (es.map .val++capt ρ js) δ:=by
  have vals:∀ (i:Nat) c,(es.map Cell.val++capt ρ js)[i]?=some c→(∃ e,c=.val e)∨c=.no:=fun i c e=>by
    have m:=List.mem_of_getElem? e
    rcases List.mem_append.mp m with m | m
    · obtain ⟨d,_,rfl⟩:=List.mem_map.mp m; exact .inl ⟨d,rfl⟩
    · unfold capt at m
      obtain ⟨j,_,rfl⟩:=List.mem_map.mp m
      unfold captC
      split
      · exact .inl ⟨_,rfl⟩
      · exact .inr rfl
  have no:∀ i a,¬ ownAt (es.map .val++capt ρ js) (ws.map some++capsM σ js) i a:=fun i a o=>by
    rcases o.1 with ⟨es,q⟩ | ⟨C,fs,q⟩ | ⟨kvs,q⟩
    · rcases vals i _ q with ⟨d,z⟩ | z <;> cases z
    · rcases vals i _ q with ⟨d,z⟩ | z <;> cases z
    · rcases vals i _ q with ⟨d,z⟩ | z <;> cases z
  refine ⟨Ran.refl I.sub I.ran.dk,cells_app (fun i c e=>?_) r,by simp [capsM,capt,r.length],fun i j a _ o _=>absurd o (no i a),fun i a o=>absurd o (no i a)⟩
  unfold capt at e
  rw [List.getElem?_map,Option.map_eq_some_iff] at e
  obtain ⟨j,ej,rfl⟩:=e
  unfold capsM
  rw [List.getElem?_map,ej]
  show CellOk K F H H none _ (σ[j]?).join
  cases ec:ρ[j]? with
  | none=>trivial
  | some c =>
    have w:=I.env j c ec
    cases c with
    | val e=>exact w
    | _=>trivial
end
section
variable {X:Cx} {Y:Y2} {W:XW} {px pos:Pos} {target elt iter:Expr} {ifs:List Expr} {xs:List Str} {js:List Nat} {scope:Scope} {tc:TT2} {te:TE2} {ti:TI2} {tup:Bool} {g:TG}
noncomputable def tcY (K:Frag) (tc:TT2):TT:=fun σ H Q=>∃ Y',upT K Y' W0 tc σ H Q
theorem comp_runM {σ:St} {ρ1:En} {δ1:Dk} {F1 H1:Hp} {J:It} {n:Nat} {ds:List D} {q:List D→Dk→Prop} {Q:Addr→Hp→Prop} (I1:I2 X.K Y F1 H1 σ ρ1 δ1) (src:SrcOk X.K J F1 ds) (h1:compM tup n tc te js ρ1 q ds [] δ1)
    (k:∀ D F' H' δ' acc vs,I2 X.K Y F' H' σ ρ1 δ'→Same F1 F'→H' D=some (.lst vs)→F' D=none→Y.H₀ D=none→Off δ' D→(∀ j a,ownAt ρ1 σ j a→a≠D)→Reps X.K F' acc vs→q acc δ'→Q D H') :
    ∀ D,H1 D=none→compR2 X.K J tup n (capsM σ js) D (tcY X.K tc) (teY X.K te) H1 fun H2=>Q D H2:=by
  intro D hD
  have hF:F1 D=none:=I1.sub.free hD
  have h0:=I1.ran.fresh hD
  have no:∀ j a,ownAt ρ1 σ j a→a≠D:=fun j a o=>by
    obtain ⟨u,hu⟩:=I1.ownAddr o
    exact ne_of_none hu hD
  have off:Off δ1 D:=fun b es e w=>by
    obtain ⟨_,vs,q2,_⟩:=I1.ran.dk b es e
    rw [← w,hD] at q2; cases q2
  have I0:I2 X.K Y F1 (upd H1 D (.lst [])) σ ρ1 δ1:=by
    refine ⟨⟨fun b u e=>by rw [upd_ne (ne_of_none e hF)]; exact I1.sub _ _ e,fun b fs e=>?_,fun b u e f=>by rw [upd_ne (ne_of_none e h0)]; exact I1.ran.keep b u e f,I1.ran.f0,I1.ran.fnew,I1.ran.dto⟩,fun j c e=>?_,I1.len,I1.apart,I1.off⟩
    · obtain ⟨q1,ws,q2,q3⟩:=I1.ran.dk b fs e
      exact ⟨q1,ws,by rw [upd_ne (Ne.symm (off b fs e))]; exact q2,q3⟩
    · have w:=I1.env j c e
      cases c with
      | no=>trivial
      | val d=>exact w
      | own fs =>
        obtain ⟨b,ws,e1,h1,f1,g1,r1⟩:=w
        exact ⟨b,ws,e1,by rw [upd_ne (ne_of_none h1 hD)]; exact h1,f1,g1,r1⟩
      | obj C fs =>
        obtain ⟨b,dx,ws,e1,es1,h1,h2,f1,f2,g1,g2,r1⟩:=w
        exact ⟨b,dx,ws,e1,es1,by rw [upd_ne (ne_of_none h1 hD)]; exact h1,by rw [upd_ne (ne_of_none h2 hD)]; exact h2,f1,f2,g1,g2,r1⟩
      | ownD fs =>
        obtain ⟨b,ws,e1,h1,f1,g1,r1⟩:=w
        exact ⟨b,ws,e1,by rw [upd_ne (ne_of_none h1 hD)]; exact h1,f1,g1,r1⟩
  refine ⟨fun i m ys H2=>∃ F2 δ2 acc,I2 X.K Y F2 H2 σ ρ1 δ2∧Same F1 F2∧H2 D=some (.lst ys)∧F2 D=none∧Off δ2 D∧Reps X.K F2 acc ys∧compM tup n tc te js ρ1 q (ds.drop i) acc δ2∧i≤ds.length∧m=ds.length - i,⟨ds.length,F1,δ1,[],I0,Same.refl F1,upd_same,hF,off,Reps.nil,by simpa using h1,Nat.zero_le _,by simp⟩,?_⟩
  rintro i m ys H2 ⟨F2,δ2,acc,I2',s2,hD2,hF2,of2,r2,h2,hi,rfl⟩
  refine ⟨hD2,?_⟩
  cases e:ds[i]? with
  | none =>
    have hl:ds.length≤i:=List.getElem?_eq_none_iff.mp e
    have ei:i=ds.length:=by omega
    subst ei
    rw [List.drop_length] at h2
    exact .inl ⟨src.stop F2 H2 s2 I2'.sub,k D F2 H2 δ2 acc ys I2' s2 hD2 hF2 h0 of2 no r2 h2⟩
  | some d =>
    have hl:i < ds.length:=(List.getElem?_eq_some_iff.mp e).1
    obtain ⟨go,yl⟩:=src.item i d F2 H2 e s2 I2'.sub
    refine .inr ⟨go,fun v H3 y=>?_⟩
    have hy:=yl v H3 y
    obtain ⟨F3,I3,s3,r3,nf3⟩:=I2'.yld hy
    have hD3:H3 D=some (.lst ys):=by
      rcases hy with ⟨rfl,_⟩ | ⟨p,vs,es,hp,rfl,_⟩
      · exact hD2
      · rw [upd_ne (ne_of_none hD2 hp)]; exact hD2
    have hF3:F3 D=none:=nf3 D _ hD2 hF2
    have ed:ds.drop i=d :: ds.drop (i + 1):=by rw [List.drop_eq_getElem_cons hl]; congr 1; exact (List.getElem?_eq_some_iff.mp e).2
    rw [ed] at h2
    unfold compM at h2
    split at h2
    · rename_i es ees
      have body:∀ ws:List V,Reps X.K F3 es ws→tcY X.K tc (ws.map some++capsM σ js) H3 fun ok H4=>if ok=true then teY X.K te (ws.map some++capsM σ js) H4 fun y H5=>H5 D=some (.lst ys)∧ys.length < sizeLine∧∃ m',m' < ds.length - i ∧
          ∃ F2 δ2 acc,I2 X.K Y F2 (upd H5 D (.lst (ys++[y]))) σ ρ1 δ2∧Same F1 F2∧upd H5 D (.lst (ys++[y])) D=some (.lst (ys++[y]))∧F2 D=none∧Off δ2 D∧Reps X.K F2 acc (ys++[y])∧compM tup n tc te js ρ1 q (ds.drop (i + 1)) acc δ2∧i + 1≤ds.length∧m'=ds.length - (i + 1)
          else ∃ m',m' < ds.length - i∧∃ F2 δ2 acc,I2 X.K Y F2 H4 σ ρ1 δ2∧Same F1 F2∧H4 D=some (.lst ys)∧F2 D=none∧Off δ2 D∧Reps X.K F2 acc ys∧compM tup n tc te js ρ1 q (ds.drop (i + 1)) acc δ2∧i + 1≤ds.length∧m'=ds.length - (i + 1):=by
        intro ws rw'
        have kept:∀ {F4 H4 δ4},Ran X.K F3 H3 δ2 F4 H4 δ4→H4 D=some (.lst ys)∧F4 D=none∧Off δ4 D:=fun {F4 H4 δ4} R=>by
          refine ⟨R.keep D _ hD3 of2,?_,fun b es e w=>?_⟩
          · cases z:F4 D with
            | none=>rfl
            | some u =>
              rcases R.fnew D u z with w | w
              · rw [hF3] at w; cases w
              · rw [hD3] at w; cases w
          · cases hd:δ2 with
            | none=>have:=R.dto.2 b es e hd; rw [← w,hD3] at this; cases this
            | some p =>
              obtain ⟨c,gs⟩:=p
              obtain ⟨es',z⟩:=R.dto.1 c gs hd
              rw [e] at z
              cases z
              exact of2 b gs hd w
        refine ⟨⟨F3,H3,δ2,none⟩,F3,_,δ2,_,_,I3.blockM rw',h2,fun bb F4 H4 ρ4 δ4 I4 s4 h4=>?_,fun _ _ _ _ _ _ _ _ _ _ _ z=>z⟩
        obtain ⟨hD4,hF4,of4⟩:=kept I4.ran
        cases bb with
        | false =>
          rw [if_neg Bool.false_ne_true] at h4 ⊢
          exact ⟨ds.length - (i + 1),by omega,F4,δ4,acc,I3.call I4.ran,(s2.trans s3).trans s4,hD4,hF4,of4,r2.mono (s3.trans s4),h4,hl,rfl⟩
        | true =>
          rw [if_pos rfl] at h4 ⊢
          refine ⟨⟨F3,H3,δ2,none⟩,F4,ρ4,δ4,_,_,I4,h4,fun d5 v5 F5 H5 ρ5 δ5 I5 s5 r5 h5=>?_,fun _ _ _ _ _ _ _ _ _ _ _ z=>z⟩
          obtain ⟨hD5,hF5,of5⟩:=kept I5.ran
          have hlen:acc.length < 1000:=h5.1
          have s35:Same F3 F5:=s4.trans s5
          exact ⟨hD5,by rw [r2.length]; exact Nat.lt_of_lt_of_le hlen (by decide),ds.length - (i + 1),by omega,F5,δ5,acc++[d5],(I3.call I5.ran).side hF5 h0 of5 ⟨_,hD5⟩ no,(s2.trans s3).trans s35,upd_same,hF5,of5,(r2.mono (s3.trans s35)).append (Reps.cons r5 Reps.nil),h5.2,hl,rfl⟩
      unfold tgD at ees
      split at ees
      · cases ees
        exact body [v] (Reps.cons r3 Reps.nil)
      · rename_i _ es0
        split at ees
        · rename_i hn
          cases ees
          obtain ⟨a,vs,rfl,ea,z⟩:=rep_tup.mp r3
          exact ⟨a,vs,rfl,SqT.of (I3.sub _ _ ea),by rw [z.length]; exact hn,body vs z⟩
        · cases ees
      · cases ees
    · exact h2.elim
structure PIf2 (X:Cx) (Y:Y2) (W:XW) (ifs:List Expr) (t:TT2):Prop where
  go:PIfs X ifs (upT X.K Y W t)
noncomputable def t2True:TT2:=fun _ ρ δ q=>q true ρ δ
theorem if2_nil:PIf2 X Y W [] t2True:=⟨fun pins s σ H Q I ⟨F,ρ,δ,x,q,I2',h,k,kx⟩=>pifs_nil pins s σ H Q I (k true F H ρ δ I2' (Same.refl F) h)⟩
theorem if2_one {c:Expr} (h:PT2 X Y W c tc):PIf2 X Y W [c] tc:=⟨pifs_one h.go⟩
variable {i:Nat} {y:Str} {py spos:Pos}
noncomputable def t2CompM (ti:TI2) (tup:Bool) (n:Nat) (js:List Nat) (tc:TT2) (te:TE2):TE2:=fun x ρ δ q=>ti x ρ δ fun ds ρ1 δ1=>compM tup n tc te js ρ1 (fun acc δ2=>q (.lst acc) ρ1 δ2) ds [] δ1
theorem up_compM {n:Nat} {σ:St} {H:Hp} {Q:VK} (h:upE X.K Y W (t2CompM ti tup n js tc te) σ H Q):tComp2 X.K (upI2 X.K Y W ti) tup n js (tcY X.K tc) (teY X.K te) σ H Q:=by
  obtain ⟨F,ρ,δ,x,q,I,h,k,kx⟩:=h
  refine ⟨F,ρ,δ,x,_,I,h,fun ds J F1 H1 ρ1 δ1 I1 s1 src h1=>comp_runM (Q:=fun D H2=>Q (.ref D) H2) I1 src h1 fun D F' H' δ' acc vs I' s' hD hF h0 of no r hq=>?_,kx⟩
  exact k _ _ _ _ ρ1 δ' (I'.ice hF h0 of hD no) ((s1.trans s').trans (Same.new hF)) (rep_lst.mpr ⟨D,vs,rfl,upd_same,r.mono (Same.new hF)⟩) hq
variable (hc:X.calm=true) (S:CompOkM X xs js scope) (hi:PI2 X Y W target iter ti) (hg:(xs++js.map (fun j=>X.N.getD j "")).Nodup→∀ C s₀ H₀ fp cl,PG (X.compM xs js scope cl C s₀ H₀ fp) target g) (gm:TgM X.K tup xs.length g)
  (ht:∀ C s₀ H₀ fp cl Y',PIf2 (X.compM xs js scope cl C s₀ H₀ fp) Y' W0 ifs tc) (he:∀ C s₀ H₀ fp cl Y',PE2 (X.compM xs js scope cl C s₀ H₀ fp) Y' W0 elt te)
include hc S hi hg gm ht he
theorem e2_compM (hs:∀ v,foldedSetIterable iter X.env v=pure v:=by intro _; rfl):PE2 X Y W (.ListComp elt [⟨target,iter,ifs,0⟩] scope pos) (t2CompM ti tup xs.length js tc te) :=
  pe2 (pe_compM (tc:=tcY X.K tc) (te:=teY X.K te) hc S hi.go (hg S.nd) gm (fun C s₀ H₀ fp cl pins s σ H Q I ⟨Y',h⟩=>(ht C s₀ H₀ fp cl Y').go pins s σ H Q I h) (fun C s₀ H₀ fp cl pins s σ H Q I ⟨Y',h⟩=>(he C s₀ H₀ fp cl Y').go pins s σ H Q I h) hs) fun σ H Q h=>up_compM h
theorem s2_compM (hN:X.N.Nodup) (hy:X.N[i]?=some y:=by rfl) (hl:Loc X.env.scope y:=by walk_at "v2")
    (hsw:swapsWith (.ListComp elt [⟨target,iter,ifs,0⟩] scope pos) (some (.Name y py)) spos.line X.env=pure true:=by rfl) (hs:∀ v,foldedSetIterable iter X.env v=pure v:=by intro _; rfl) (hfn:X.fn y=true∨X.env.scope.names.lookup y=some .local:=by walk_at "v1") :
    PS2 X Y W (.Assign [.Name y py] (.ListComp elt [⟨target,iter,ifs,0⟩] scope pos) spos) (t2Set i (t2CompM ti tup xs.length js tc te)) :=
  ps2 (ps_compM (i:=i) (tc:=tcY X.K tc) (te:=teY X.K te) hc S hi.go (hg S.nd) gm (fun C s₀ H₀ fp cl pins s σ H Q I ⟨Y',h⟩=>(ht C s₀ H₀ fp cl Y').go pins s σ H Q I h) (fun C s₀ H₀ fp cl pins s σ H Q I ⟨Y',h⟩=>(he C s₀ H₀ fp cl Y').go pins s σ H Q I h) hN hy hl hsw hs hfn) fun E1 σ H ⟨F,ρ,δ,E2,I,h,er⟩ =>
    up_compM ⟨F,ρ,δ,E2.xc,_,I,h,fun d v F' H' ρ' δ' I' s' r' h'=>er.nx _ F' H' _ δ' (I'.put r') s' h',er.xc⟩
omit hc S hi hg gm ht he in
noncomputable def t2OwnM (i:Nat) (ti:TI2) (tup:Bool) (n:Nat) (js:List Nat) (tc:TT2) (te:TE2):TS2:=fun E ρ δ=>ti E.xc ρ δ fun ds ρ1 δ1=>compM tup n tc te js ρ1 (fun acc δ2=>E.nx (ρ1.set i (.own acc)) δ2) ds [] δ1
theorem s2_ownM (hN:X.N.Nodup) (hy:X.N[i]?=some y:=by rfl) (hl:Loc X.env.scope y:=by walk_at "v2")
    (hsw:swapsWith (.ListComp elt [⟨target,iter,ifs,0⟩] scope pos) (some (.Name y py)) spos.line X.env=pure true:=by rfl) (hs:∀ v,foldedSetIterable iter X.env v=pure v:=by intro _; rfl) (hfn:X.fn y=true∨X.env.scope.names.lookup y=some .local:=by walk_at "v1") :
    PS2 X Y W (.Assign [.Name y py] (.ListComp elt [⟨target,iter,ifs,0⟩] scope pos) spos) (t2OwnM i ti tup xs.length js tc te) :=
  ps2 (ps_compM (i:=i) (tc:=tcY X.K tc) (te:=teY X.K te) hc S hi.go (hg S.nd) gm (fun C s₀ H₀ fp cl pins s σ H Q I ⟨Y',h⟩=>(ht C s₀ H₀ fp cl Y').go pins s σ H Q I h) (fun C s₀ H₀ fp cl pins s σ H Q I ⟨Y',h⟩=>(he C s₀ H₀ fp cl Y').go pins s σ H Q I h) hN hy hl hsw hs hfn) fun E1 σ H ⟨F,ρ,δ,E2,I,h,er⟩ =>
    ⟨F,ρ,δ,E2.xc,_,I,h,fun ds J F1 H1 ρ1 δ1 I1 s1 src h1=>comp_runM (Q:=fun D H2=>E1.nx (σ.set i (some (.ref D))) H2) I1 src h1 fun D F' H' δ' acc vs I' s' hD hF h0 of no r hq =>
      er.nx _ F' H' _ δ' (I'.take hF h0 of hD no r) (s1.trans s') hq,er.xc⟩
end
end DL
set_option Elab.async false
set_option linter.all false
set_option maxRecDepth 100000
set_option maxHeartbeats 4000000
namespace DL
open PySem PySem.Spec L2
open PySem.W (XC)
mutual
noncomputable def lfD:D→Bool
  | .lst _=>false | .scr _=>false | .dic _=>false | .dwk _=>false
  | .tup xs=>lfDs xs
  | .ins _ fs=>lfFs fs | .exc _ fs=>lfFs fs
  | _=>true
noncomputable def lfDs:List D→Bool
  | []=>true
  | d :: ds=>lfD d && lfDs ds
noncomputable def lfFs:List (Str×D)→Bool
  | []=>true
  | (_,d) :: ds=>lfD d && lfFs ds
end
mutual
theorem Rep.lf {K:Frag} {F F':Hp} (s:∀ b o,F b=some o→(∀ vs,o≠.lst vs)→F' b=some o):∀ {d:D} {v:V},lfD d=true→Rep K F d v→Rep K F' d v
  | .non,v,_,h=>by unfold Rep at h ⊢; exact h
  | .bl b,v,_,h=>by unfold Rep at h ⊢; exact h
  | .int i,v,_,h=>by unfold Rep at h ⊢; exact h
  | .str x,v,_,h=>by unfold Rep at h ⊢; exact h
  | .lst ds,v,l,h=>by unfold lfD at l; cases l
  | .tup ds,v,l,h=>by unfold Rep at h ⊢; unfold lfD at l; obtain ⟨a,vs,e,q,r⟩:=h; exact ⟨a,vs,e,s _ _ q (fun vs z=>by cases z),Reps.lf s l r⟩
  | .scr ds,v,l,h=>by unfold lfD at l; cases l
  | .dic ds,v,l,h=>by unfold lfD at l; cases l
  | .dwk ds,v,l,h=>by unfold lfD at l; cases l
  | .ins C fs,v,l,h=>by unfold Rep at h ⊢; unfold lfD at l; obtain ⟨a,dx,vs,e,q,q2,r⟩:=h; exact ⟨a,dx,vs,e,s _ _ q (fun vs z=>by cases z),s _ _ q2 (fun vs z=>by cases z),RepF.lf s l r⟩
  | .exc C fs,v,l,h=>by
    unfold Rep at h ⊢
    unfold lfD at l
    obtain ⟨a,fr,e,h⟩:=h
    refine ⟨a,fr,e,?_⟩
    rcases h with ⟨e1,q⟩ | ⟨d,us,q,q2,r⟩
    · exact .inl ⟨e1,s _ _ q (fun vs z=>by cases z)⟩
    · exact .inr ⟨d,us,s _ _ q (fun vs z=>by cases z),s _ _ q2 (fun vs z=>by cases z),RepF.lf s l r⟩
  | .ref a,v,_,h=>by unfold Rep at h ⊢; exact h
  | .ty n,v,_,h=>by unfold Rep at h ⊢; exact h
theorem Reps.lf {K:Frag} {F F':Hp} (s:∀ b o,F b=some o→(∀ vs,o≠.lst vs)→F' b=some o):∀ {ds:List D} {vs:List V},lfDs ds=true→Reps K F ds vs→Reps K F' ds vs
  | [],vs,_,h=>by unfold Reps at h ⊢; exact h
  | d :: ds,vs,l,h=>by
    unfold Reps at h ⊢
    unfold lfDs at l
    rw [Bool.and_eq_true] at l
    obtain ⟨v,r,e,q,z⟩:=h
    exact ⟨v,r,e,Rep.lf s l.1 q,Reps.lf s l.2 z⟩
theorem RepF.lf {K:Frag} {F F':Hp} (s:∀ b o,F b=some o→(∀ vs,o≠.lst vs)→F' b=some o):∀ {ds:List (Str×D)} {vs:List (Str×V)},lfFs ds=true→RepF K F ds vs→RepF K F' ds vs
  | [],vs,_,h=>by unfold RepF at h ⊢; exact h
  | (x,d) :: ds,vs,l,h=>by
    unfold RepF at h ⊢
    unfold lfFs at l
    rw [Bool.and_eq_true] at l
    obtain ⟨v,r,e,q,z⟩:=h
    exact ⟨v,r,e,Rep.lf s l.1 q,RepF.lf s l.2 z⟩
end
inductive BA where | v (d:D) | o (i:Nat)
noncomputable def RepB (K:Frag) (F:Hp) (σ:St):BA→V→Prop
  | .v d,v=>Rep K F d v
  | .o i,v=>σ[i]?=some (some v)
inductive RepsB (K:Frag) (F:Hp) (σ:St):List BA→List V→Prop
  | nil:RepsB K F σ [] []
  | cons {b v bs vs}:RepB K F σ b v→RepsB K F σ bs vs→RepsB K F σ (b :: bs) (v :: vs)
noncomputable abbrev TB2:=XK2→En→Dk→(List BA→En→Dk→Prop)→Prop
noncomputable def upB (K:Frag) (Y:Y2) (W:XW) (t:TB2):TA:=fun σ H Q=>∃ F ρ δ x q,I2 K Y F H σ ρ δ∧t x ρ δ q∧(∀ bs vs F' H' ρ' δ',I2 K Y F' H' σ ρ' δ'→Same F F'→RepsB K F' σ bs vs→q bs ρ' δ'→Q vs H')∧XR K Y W F x
structure PB2 (X:Cx) (Y:Y2) (W:XW) (es:List Expr) (t:TB2):Prop where
  go:PA X es (upB X.K Y W t)
section
variable {X:Cx} {Y:Y2} {W:XW} {e:Expr} {es:List Expr} {te:TE2} {t:TB2} {x:Str} {p pos:Pos}
noncomputable def t2BNil:TB2:=fun _ ρ δ q=>q [] ρ δ
noncomputable def t2BV (te:TE2) (t:TB2):TB2:=fun x ρ δ q=>te x ρ δ fun d ρ1 δ1=>t x ρ1 δ1 fun bs ρ2 δ2=>q (.v d :: bs) ρ2 δ2
noncomputable def t2BO (i:Nat) (t:TB2):TB2:=fun x ρ δ q=>hasV ρ i=true∧t x ρ δ fun bs ρ2 δ2=>q (.o i :: bs) ρ2 δ2
noncomputable def argB (ρ:En):BA→Option D
  | .v d=>some d
  | .o i=>match ρ[i]? with | some (.own ds)=>some (.lst ds) | some (.val d)=>some d | _=>none
noncomputable def argsB (ρ:En):List BA→Option (List D)
  | []=>some []
  | b :: bs=>match argB ρ b,argsB ρ bs with | some d,some ds=>some (d :: ds) | _,_=>none
noncomputable def LentAt (ρ:En) (σ:St) (b:Addr):Prop:=∃ (i:Nat) (ds:List D),ρ[i]?=some (Cell.own ds)∧σ[i]?=some (some (V.ref b))
open Classical in
noncomputable def lend (ρ:En) (σ:St) (F H:Hp):Hp:=fun b=>if LentAt ρ σ b then H b else F b
open Classical in
noncomputable def back (ρ:En) (σ:St) (F:Hp):Hp:=fun b=>if LentAt ρ σ b then none else F b
section
variable {K:Frag} {F H F' H':Hp} {σ:St} {ρ:En} {δ δ':Dk}
end
noncomputable def t2CallB (sp:Sp2) (t:TB2):TE2:=fun x ρ δ q=>t x ρ δ fun bs ρ1 δ1=>match argsB ρ1 bs with
  | some ds=>sp ds none (fun d _=>lfD d=true∧q d ρ1 δ1) fun C fs _=>lfFs fs=true∧x C fs ρ1 δ1
  | none=>False
variable {k:Nat} {ps:List Str} {sp:Sp2}
end
end DL
set_option Elab.async false
set_option linter.all false
set_option maxRecDepth 100000
set_option maxHeartbeats 4000000
namespace DL
open PySem PySem.Spec L2
open PySem.W (XC)
section
variable {X:Cx} {K:Frag}
noncomputable def intsD:List D→Option (List Int)
  | []=>some []
  | .int i :: r=>(intsD r).map (i :: ·)
  | _=>none
theorem ints_v {F:Hp}:∀ {ds:List D} {ns:List Int} {vs:List V},intsD ds=some ns→Reps K F ds vs→vs=ns.map V.int
  | [],ns,vs,h,r=>by cases h; rw [reps_nil.mp r]; rfl
  | d :: ds,ns,vs,h,r=>by
    obtain ⟨v,l,rfl,r1,r2⟩:=reps_cons.mp r
    cases d with
    | int b =>
      unfold intsD at h
      obtain ⟨cs,e1,rfl⟩:=Option.map_eq_some_iff.mp h
      rw [rep_int.mp r1,ints_v e1 r2]; rfl
    | _=>cases h
theorem ints_map:∀ ns:List Int,intsD (ns.map D.int)=some ns
  | []=>rfl
  | n :: ns=>by rw [List.map_cons]; unfold intsD; rw [ints_map ns]; rfl
noncomputable def fewD (ns:List Int):Prop:=ns.length≤1000∧∀ n∈ns,-(2 ^ 40)≤n∧n≤2 ^ 40
theorem sum_bound:∀ (ns:List Int),(∀ n∈ns,-(2 ^ 40)≤n∧n≤2 ^ 40)→-(2 ^ 40 * (ns.length:Int))≤ns.sum∧ns.sum≤2 ^ 40 * (ns.length:Int)
  | [],_=>by simp
  | n :: ns,h=>by
    have h1:=sum_bound ns fun m hm=>h m (List.mem_cons_of_mem _ hm)
    have h2:=h n List.mem_cons_self
    rw [List.sum_cons,List.length_cons]
    omega
theorem few_fits {ns:List Int} (h:fewD ns):sumFits ns:=fun j hj=>by
  have h1:-(2 ^ 40)≤ns.getD j 0∧ns.getD j 0≤2 ^ 40:=by
    rw [List.getD_eq_getElem?_getD,List.getElem?_eq_getElem hj]
    exact h.2 _ (List.getElem_mem hj)
  refine ⟨⟨by omega,by omega⟩,?_⟩
  rw [preSum_take]
  have h2:=sum_bound (ns.take (j + 1)) fun m hm=>h.2 m (List.mem_of_mem_take hm)
  have h3:(ns.take (j + 1)).length≤1000:=Nat.le_trans (by rw [List.length_take]; omega) h.1
  exact ⟨by omega,by omega⟩
noncomputable def sumF:F1:=fun ds q=>match ds with | [d]=>(match seqD d with | some xs=>(match intsD xs with | some ns=>fewD ns∧q (.int ns.sum) | none=>False) | none=>False) | _=>False
theorem d_sum:CallD K (rSum K) sumF:=by
  intro Y F H σ ρ δ vs ds Q1 q I r h' k
  unfold sumF at h'
  split at h'
  · split at h'
    · split at h'
      · rename_i xs e _ ns en
        obtain ⟨v,rfl,r1⟩:=reps1 r
        obtain ⟨a,us,b,rfl,sq,z⟩:=seqD_q e r1
        exact ⟨b,a,ns,rfl,by rw [← ints_v en z]; exact I.sub.sq sq,few_fits h'.1,k _ _ F H I (Same.refl F) (rep_int.mpr rfl) h'.2⟩
      · exact h'.elim
    · exact h'.elim
  · exact h'.elim
noncomputable def rAddE (K:Frag):R2:=fun x y H Q=>rAddD K x y H Q∨rCatA K x y H Q
noncomputable def addG:F2:=fun d1 d2 q=>match d1,d2 with
  | .int i,.int j=>q (.int (i + j))
  | .lst xs,.lst ys=>xs.length + ys.length≤1000∧q (.lst (xs++ys))
  | .tup xs,.tup ys=>xs.length + ys.length≤1000∧q (.tup (xs++ys))
  | _,_=>False
theorem op_addE:OpR X (binaryOp .Add) (rAddE X.K):=OpR_or op_addD op_catA
theorem d_addE:OpD K (rAddE K) addG:=by
  intro Y F H σ ρ δ x y d1 d2 Q1 q I r1 r2 h' k
  unfold addG at h'
  split at h'
  · exact .inl (d_add Y F H σ ρ δ x y _ _ Q1 q I r1 r2 h' k)
  · exact .inl (d_add Y F H σ ρ δ x y _ _ Q1 q I r1 r2 h' k)
  · rename_i xs ys
    have r1':=r1
    have r2':=r2
    obtain ⟨a,vs,rfl,e1,z1⟩:=rep_tup.mp r1
    obtain ⟨b,us,rfl,e2,z2⟩:=rep_tup.mp r2
    refine .inr ⟨a,b,vs,us,rfl,rfl,SqT.of (I.sub _ _ e1),SqT.of (I.sub _ _ e2),sz_ok (by rw [z1.length,z2.length]; exact h'.1),fun hv=>?_,fun hv hu=>?_,fun _ _ p hp=>k _ _ _ _ (I.alloc hp) (I.grow hp) (I.tup hp (z1.append z2)) h'.2⟩
    · have:xs=[]:=List.eq_nil_of_length_eq_zero (by rw [← z1.length,hv]; rfl)
      subst this
      exact k _ _ F H I (Same.refl F) r2' h'.2
    · have:ys=[]:=List.eq_nil_of_length_eq_zero (by rw [← z2.length,hu]; rfl)
      subst this
      exact k _ _ F H I (Same.refl F) (by rw [List.append_nil]; exact r1') h'.2
  · exact h'.elim
noncomputable def insertM:FM:=fun ds es q=>match es with | [.int k,e]=>ds.length < 1000∧(0≤k∧k≤1000)∧q .non (ds.take (min k.toNat ds.length)++[e]++ds.drop (min k.toNat ds.length)) | _=>False
end
section
variable {X:Cx} {Y:Y2} {W:XW} {a:Expr} {ta:TA2} {p p2 pos pos2:Pos} {i:Nat} {x:Str} {pos':Pos}
noncomputable def lrQ (ds:List D) (q:List D→Prop):Prop:=match ds with | [.int n]=>(0≤n∧n≤1000)∧q (rngD 0 n.toNat) | _=>False
noncomputable def t2LR (ta:TA2):TE2:=fun x ρ δ q=>ta x ρ δ fun ds ρ1 δ1=>lrQ ds fun l=>q (.lst l) ρ1 δ1
noncomputable def t2OwnLR (i:Nat) (ta:TA2):TS2:=fun E ρ δ=>ta E.xc ρ δ fun ds ρ1 δ1=>lrQ ds fun l=>E.nx (ρ1.set i (.own l)) δ1
end
structure KNo (K:Frag) (C:Addr):Prop where
  n:PySem.W.kitOne K (.type "NoneType") (.ref C)=some false
  b:PySem.W.kitOne K (.type "bool") (.ref C)=some false
  i:PySem.W.kitOne K (.type "int") (.ref C)=some false
  s:PySem.W.kitOne K (.type "str") (.ref C)=some false
  l:PySem.W.kitOne K (.type "list") (.ref C)=some false
  t:PySem.W.kitOne K (.type "tuple") (.ref C)=some false
  d:PySem.W.kitOne K (.type "dict") (.ref C)=some false
theorem compM_ix {tup:Bool} {n:Nat} {tc:TT2} {te:TE2} {js:List Nat} {ρ:En} {q:List D→Dk→Prop} {ds:List D} {acc:List D} {δ:Dk} (P:Nat→List D→Dk→Prop) (h0:P 0 acc δ)
    (step:∀ (i:Nat) (d:D) (acc:List D) (δ:Dk) (rest:List D→Dk→Prop),ds[i]?=some d→P i acc δ→(∀ acc' δ',P (i + 1) acc' δ'→rest acc' δ')→match tgD tup n d with
      | some es=>tc (fun _ _ _ _=>False) (es.map .val++capt ρ js) δ fun b ρ1 δ1=>if b=true then te (fun _ _ _ _=>False) ρ1 δ1 fun e _ δ2=>acc.length < 1000∧rest (acc++[e]) δ2 else rest acc δ1
      | none=>False)
    (fin:∀ acc δ,P ds.length acc δ→q acc δ):compM tup n tc te js ρ q ds acc δ:=by
  have key:∀ (k i:Nat) (acc:List D) (δ:Dk),i + k=ds.length→P i acc δ→compM tup n tc te js ρ q (ds.drop i) acc δ:=by
    intro k
    induction k with
    | zero =>
      intro i acc δ hi p
      rw [List.drop_eq_nil_of_le (by omega)]
      have:i=ds.length:=by omega
      subst this
      exact fin acc δ p
    | succ k ih =>
      intro i acc δ hi p
      have hl:i < ds.length:=by omega
      rw [List.drop_eq_getElem_cons hl]
      have:=step i ds[i] acc δ (compM tup n tc te js ρ q (ds.drop (i + 1))) (by simp [hl]) p fun acc' δ' p'=>ih (i + 1) acc' δ' (by omega) p'
      unfold compM
      exact this
  have:=key ds.length 0 acc δ (by omega) h0
  rwa [List.drop_zero] at this
end DL
set_option Elab.async false
set_option linter.all false
set_option maxRecDepth 100000
set_option maxHeartbeats 4000000
namespace L2
open PySem PySem.Spec PyProof.Rows
section
variable {X:Cx}
noncomputable def eqVs:List V→List V→Bool
  | [],[]=>true
  | x :: xs,y :: ys=>eqV x y && eqVs xs ys
  | _,_=>false
theorem eqVs_all:∀ (xs ys:List V),((List.range (min xs.length ys.length)).all (fun j=>match xs[j]?,ys[j]? with | some x,some y=>eqV x y | _,_=>false) && xs.length == ys.length)=eqVs xs ys
  | [],[]=>rfl
  | [],_ :: _=>by simp [eqVs]
  | _ :: _,[]=>by simp [eqVs]
  | x :: xs,y :: ys=>by
    have ih:=eqVs_all xs ys
    have e:min (x :: xs).length (y :: ys).length=min xs.length ys.length + 1:=by simp only [List.length_cons]; omega
    rw [e,List.range_succ_eq_map,List.all_cons,List.all_map]
    unfold eqVs
    rw [← ih,← Bool.and_assoc]
    simp only [List.length_cons,List.getElem?_cons_zero]
    congr 1
    simp
noncomputable def rEqT (K:PySem.W.Frag) (neg:Bool):R2:=fun x y H Q=>∃ a b xs ys,x=.ref a∧y=.ref b∧SqT K H a xs∧SqT K H b ys∧xs.all flatV=true∧ys.all flatV=true∧Q (.bl (if neg then !eqVs xs ys else eqVs xs ys)) H
theorem flat_at {A:Around} {s:Shared} {xs ys:List V} {us ws:List Value} (r:Vals xs us) (r':Vals ys ws) (f:xs.all flatV=true) (f':ys.all flatV=true):∀ j (h1:j < us.toArray.size) (h2:j < ws.toArray.size),SeqAt.EqAt A s us.toArray[j] ws.toArray[j] (match xs[j]?,ys[j]? with | some x,some y=>eqV x y | _,_=>false):=by
  intro j h1 h2
  have l1:j < xs.length:=by rw [r.length]; simpa using h1
  have l2:j < ys.length:=by rw [r'.length]; simpa using h2
  obtain ⟨u,hu,ru⟩:=r.get (List.getElem?_eq_getElem l1)
  obtain ⟨w,hw,rw'⟩:=r'.get (List.getElem?_eq_getElem l2)
  have eu:us.toArray[j]=u:=by
    have:us[j]?=some us.toArray[j]:=by simp
    rw [hu] at this
    exact (Option.some.inj this).symm
  have ew:ws.toArray[j]=w:=by
    have:ws[j]?=some ws.toArray[j]:=by simp
    rw [hw] at this
    exact (Option.some.inj this).symm
  rw [eu,ew,List.getElem?_eq_getElem l1,List.getElem?_eq_getElem l2]
  exact eqAt_V ru rw' (List.all_eq_true.mp f _ (List.getElem_mem l1)) (List.all_eq_true.mp f' _ (List.getElem_mem l2))
theorem op_eqT (hu:X.A.units < cLine):OpR X (compareOp .Eq) (rEqT X.K false):=by
  intro pins s σ H x y v u Q I rx ry h
  obtain ⟨a,b,xs,ys,rfl,rfl,ha,hb,f1,f2,q⟩:=h
  cases rx
  cases ry
  obtain ⟨its,r,p,_⟩:=I.tuple ha
  obtain ⟨its2,r2,p2,_⟩:=I.tuple hb
  refine SeqAt.eq_tupleAt p p2 hu (flat_at r r2 f1 f2) ⟨.bl (eqVs xs ys),H,I,?_,q⟩
  rw [← eqVs_all,r.length,r2.length]
  simp only [List.size_toArray]
  rfl
theorem op_neT (hu:X.A.units < cLine):OpR X (compareOp .NotEq) (rEqT X.K true):=by
  intro pins s σ H x y v u Q I rx ry h
  obtain ⟨a,b,xs,ys,rfl,rfl,ha,hb,f1,f2,q⟩:=h
  cases rx
  cases ry
  obtain ⟨its,r,p,_⟩:=I.tuple ha
  obtain ⟨its2,r2,p2,_⟩:=I.tuple hb
  refine SeqAt.RcNeAt.tuples p p2 hu (flat_at r r2 f1 f2) X.prog X.w X.xe _ ⟨.bl (!eqVs xs ys),H,I,?_,q⟩
  rw [← eqVs_all,r.length,r2.length]
  simp only [List.size_toArray]
  rfl
end
end L2
namespace DL
open PySem PySem.Spec L2
open PySem.W (XC)
section
variable {X:Cx} {K:Frag}
noncomputable def rEqE (K:Frag):R2:=fun x y H Q=>rEq x y H Q∨rEqT K false x y H Q
noncomputable def rNeE (K:Frag):R2:=fun x y H Q=>rNe x y H Q∨rEqT K true x y H Q
theorem op_eqE (hu:X.A.units < cLine):OpR X (compareOp .Eq) (rEqE X.K):=OpR_or op_eq (op_eqT hu)
theorem op_neE (hu:X.A.units < cLine):OpR X (compareOp .NotEq) (rNeE X.K):=OpR_or op_ne (op_neT hu)
noncomputable def eqDs:List D→List D→Bool
  | [],[]=>true
  | x :: xs,y :: ys=>eqV (toV x) (toV y) && eqDs xs ys
  | _,_=>false
theorem eqDs_v:∀ xs ys:List D,eqVs (xs.map toV) (ys.map toV)=eqDs xs ys
  | [],[]=>rfl
  | [],_ :: _=>rfl
  | _ :: _,[]=>rfl
  | x :: xs,y :: ys=>by rw [List.map_cons,List.map_cons]; unfold eqVs eqDs; rw [eqDs_v xs ys]
noncomputable def eqG:F2:=fun d1 d2 q=>match eqD d1 d2 with
  | some b=>q (.bl b)
  | none=>match d1,d2 with | .tup xs,.tup ys=>(xs.all flatD && ys.all flatD)=true∧q (.bl (eqDs xs ys)) | _,_=>False
noncomputable def neG:F2:=fun d1 d2 q=>match eqD d1 d2 with
  | some b=>q (.bl (!b))
  | none=>match d1,d2 with | .tup xs,.tup ys=>(xs.all flatD && ys.all flatD)=true∧q (.bl (!eqDs xs ys)) | _,_=>False
theorem d_eqE:OpD K (rEqE K) eqG:=by
  intro Y F H σ ρ δ x y d1 d2 Q1 q I r1 r2 h' k
  unfold eqG at h'
  split at h'
  · rename_i b e
    exact .inl (d_eq Y F H σ ρ δ x y d1 d2 Q1 q I r1 r2 (by unfold eqF; rw [e]; exact h') k)
  · split at h'
    · rename_i xs ys
      obtain ⟨hf,h'⟩:=h'
      rw [Bool.and_eq_true] at hf
      obtain ⟨a,vs,rfl,e1,z1⟩:=rep_tup.mp r1
      obtain ⟨b,us,rfl,e2,z2⟩:=rep_tup.mp r2
      obtain ⟨e3,e4⟩:=flats_v hf.1 z1
      obtain ⟨e5,e6⟩:=flats_v hf.2 z2
      refine .inr ⟨a,b,vs,us,rfl,rfl,SqT.of (I.sub _ _ e1),SqT.of (I.sub _ _ e2),e4,e6,?_⟩
      rw [if_neg Bool.false_ne_true,e3,e5,eqDs_v]
      exact k _ _ F H I (Same.refl F) (rep_bl.mpr rfl) h'
    · exact h'.elim
theorem d_neE:OpD K (rNeE K) neG:=by
  intro Y F H σ ρ δ x y d1 d2 Q1 q I r1 r2 h' k
  unfold neG at h'
  split at h'
  · rename_i b e
    exact .inl (d_ne Y F H σ ρ δ x y d1 d2 Q1 q I r1 r2 (by unfold neF; rw [e]; exact h') k)
  · split at h'
    · rename_i xs ys
      obtain ⟨hf,h'⟩:=h'
      rw [Bool.and_eq_true] at hf
      obtain ⟨a,vs,rfl,e1,z1⟩:=rep_tup.mp r1
      obtain ⟨b,us,rfl,e2,z2⟩:=rep_tup.mp r2
      obtain ⟨e3,e4⟩:=flats_v hf.1 z1
      obtain ⟨e5,e6⟩:=flats_v hf.2 z2
      refine .inr ⟨a,b,vs,us,rfl,rfl,SqT.of (I.sub _ _ e1),SqT.of (I.sub _ _ e2),e4,e6,?_⟩
      rw [if_pos rfl,e3,e5,eqDs_v]
      exact k _ _ F H I (Same.refl F) (rep_bl.mpr rfl) h'
    · exact h'.elim
noncomputable def cutD (xs:List D) (lo hi:Option Int):List D:=(xs.drop (HT.sIx xs.length 0 lo)).take (HT.sIx xs.length xs.length hi - HT.sIx xs.length 0 lo)
noncomputable abbrev TO2:=XK2→En→Dk→(Option Int→En→Dk→Prop)→Prop
variable {Y:Y2} {W:XW} {e lo hi:Expr} {te tl th:TE2} {pos p2:Pos}
noncomputable def upO (K:Frag) (Y:Y2) (W:XW) (t:TO2):TO:=fun σ H Q=>∃ F ρ δ x q,I2 K Y F H σ ρ δ∧t x ρ δ q∧(∀ o F' H' ρ' δ',I2 K Y F' H' σ ρ' δ'→Same F F'→q o ρ' δ'→Q o H')∧XR K Y W F x
structure PO2 (X:Cx) (Y:Y2) (W:XW) (e:Option Expr) (t:TO2):Prop where
  go:PO X e (upO X.K Y W t)
noncomputable def t2ON:TO2:=fun _ ρ δ q=>q none ρ δ
noncomputable def t2OI (te:TE2):TO2:=fun x ρ δ q=>te x ρ δ fun d ρ1 δ1=>match d with | .int i=>q (some i) ρ1 δ1 | _=>False
noncomputable def slF (d:D) (l u:Option Int) (q:D→Prop):Prop:=match d with
  | .lst xs=>q (.lst (cutD xs l u))
  | .tup xs=>¬ (HT.sIx xs.length 0 l=0∧HT.sIx xs.length xs.length u=xs.length)∧q (.tup (cutD xs l u))
  | _=>False
noncomputable def t2Sl (te:TE2) (tl th:TO2):TE2:=fun x ρ δ q=>te x ρ δ fun d ρ1 δ1=>tl x ρ1 δ1 fun l ρ2 δ2=>th x ρ2 δ2 fun u ρ3 δ3=>slF d l u fun e=>q e ρ3 δ3
end
theorem compM_L {te:TE2} {js:List Nat} {ρ:En} {q:List D→Dk→Prop}:∀ (ds acc:List D) (δ:Dk),compM false 1 t2True te js ρ q ds acc δ=compL te js ρ q ds acc δ
  | [],acc,δ=>rfl
  | d :: ds,acc,δ=>by
    show (te (fun _ _ _ _=>False) (.val d :: capt ρ js) δ fun e _ δ2=>acc.length < 1000∧compM false 1 t2True te js ρ q ds (acc++[e]) δ2)=te (fun _ _ _ _=>False) (.val d :: capt ρ js) δ fun e _ δ1=>acc.length < 1000∧compL te js ρ q ds (acc++[e]) δ1
    congr 1
    funext e ρ1 δ1
    rw [compM_L ds (acc++[e]) δ1]
end DL
set_option Elab.async false
set_option linter.all false
set_option maxRecDepth 100000
set_option maxHeartbeats 4000000
namespace L2
open PySem PySem.Spec PyProof.Rows PySem.W PySem.SeqAt
open AutoSeq1 (wpAny_loadPart')
open MeetsSeq MeetsSeq2 MeetsSeq3 SeqRoads2
section
variable {prog:Program} {w:World} {A:Around} {E:Value→Shared→Prop} {s:Shared}
end
section
variable {B:Nat}
end
section
variable {prog:Program} {w:World} {A:Around} {E:Value→Shared→Prop} {s:Shared}
end
end L2
set_option Elab.async false
set_option linter.all false
set_option maxRecDepth 100000
set_option maxHeartbeats 4000000
namespace L2
open PySem PySem.Spec PyProof.Rows PySem.W
section
variable {X:Cx}
end
end L2
namespace DL
open PySem PySem.Spec L2
end DL
set_option Elab.async false
set_option linter.all false
set_option maxRecDepth 100000
set_option maxHeartbeats 4000000
namespace L2
open PySem PySem.Spec PyProof.Rows PySem.W
open AutoSeq1 (wpAny_loadPart')
theorem noFill_tuple_mul:fillsNumberSlot (.type "tuple") "mul" = pure false :=
  PySem.fillsNumberSlot_seq (id := "tuple.__mul__") (r:=some (.builtin "tuple.__rmul__")) PySem.F.slot_tuple_mul.lookup (by decide +kernel) PySem.F.slot_tuple_rmul.lookup (by decide +kernel)
theorem repeat_tuple:seqRepeat? (.type "tuple")=pure (some (.builtin "tuple.__mul__")):=by
  unfold seqRepeat?
  rw [PySem.seqSlot_of (T := "tuple") (name := "__mul__") (id := "tuple.__mul__") PySem.F.slot_tuple_mul.lookup (by decide +kernel),PySem.seqSlot_of (T := "tuple") (name := "__rmul__") (id := "tuple.__rmul__") PySem.F.slot_tuple_rmul.lookup (by decide +kernel)]
  rfl
theorem rmul_int_tuple (a:Int) (t:Tok) (l:Addr) (dd:Option Addr) (items:Array Value) (n:Nat) (sl:Array (Option Value)) :
    Meets (Builtin.«int.__rmul__» ⟨[.int a t,.ref l],[]⟩) (fun _ R s=>s.heap.get? l=some { cls:=.type "tuple",dict:=dd,data:=.seq items n,slots:=sl }∧R (.ok (.ret Value.notImplemented)) s) :=
  .of_wp fun prog w A R s h=>by obtain ⟨hp,g,d,tk,os⟩:=s; obtain ⟨hl,h⟩:=h; wp_walk; exact ⟨_,rfl,h⟩
theorem tuple_mulAt (l:Addr) (dd:Option Addr) (items:Array Value) (n:Nat) (sl:Array (Option Value)) (x:Int) (u:Tok) (h0:2≤x) (h1:x≤1000) (hi:items.isEmpty=false) (hz:items.size * x.toNat≤1000) :
    Meets (Builtin.«tuple.__mul__» ⟨[.ref l,.int x u],[]⟩) (fun _ R s=>s.heap.get? l=some { cls:=.type "tuple",dict:=dd,data:=.seq items n,slots:=sl }∧R (.ok (.ret (Value.ref s.heap.objs.size))) { s with heap:=s.heap.push { cls:=Value.type "tuple",data:=Data.seq (List.foldl (fun x1 x2=>x1++x2) #[] (List.replicate x.toNat items)) },toks:=s.toks }) :=
  .of_wp fun prog w A R s h=>by
    obtain ⟨hp,g,d,tk,os⟩:=s; obtain ⟨hl,h⟩:=h
    have c1:(decide (x < -(2 ^ 63)) || decide (x ≥ 2 ^ 63))=false:=by simp; omega
    wp_walk using wpAny_loadPart' hl
    rw [if_neg (by rw [c1]; decide)]
    wp_walk using wpAny_loadPart' hl
    have c2:(items.isEmpty || x == 1)=false:=by rw [hi]; simp; omega
    rw [if_neg (by rw [c2]; decide)]
    have c3:(decide (x≤0) || items.isEmpty)=false:=by rw [hi]; simp; omega
    rw [if_neg (by rw [c3]; decide)]
    have hx:x=((x.toNat:Nat):Int):=by omega
    have hm:(items.size:Int) * x≤1000:=by
      rw [hx]
      have:((items.size * x.toNat:Nat):Int)≤1000:=by omega
      rw [Int.natCast_mul] at this
      exact this
    have c4:¬ ((items.size:Int) * x > (2 ^ 63 - 1) / 8):=by
      have:(1000:Int)≤(2 ^ 63 - 1) / 8:=by decide
      omega
    have c5:¬ Builtin.Tuple.tupleTooMany ((items.size:Int) * x)=true:=by
      unfold Builtin.Tuple.tupleTooMany
      have:(1000:Int)≤(sizeLine:Int):=by rw [sizeLine_eq]; decide
      simp
      omega
    dsimp only
    rw [if_neg c4,if_neg c5]
    have hzs:(List.foldl (fun x1 x2=>x1++x2) #[] (List.replicate x.toNat items)).size≤sizeLine:=by
      have e:=foldl_rep items.toList x.toNat []
      rw [List.nil_append,Array.toArray_toList] at e
      have e2:(List.foldl (fun x1 x2=>x1++x2) #[] (List.replicate x.toNat items)).size=x.toNat * items.size:=by
        rw [show List.foldl (fun x1 x2=>x1++x2) #[] (List.replicate x.toNat items)=_ from e,List.size_toArray,len_rep,Array.length_toList]
      rw [e2,Nat.mul_comm,sizeLine_eq]
      omega
    generalize List.foldl (fun x1 x2=>x1++x2) #[] (List.replicate x.toNat items)=z at h hzs ⊢
    unfold Builtin.Tuple.tupleExact
    exact wpAny_bind (wpAny_newObj_type (wpAny_pure ⟨_,rfl,h⟩) hzs)
section
variable {X:Cx}
noncomputable def rRepT (K:PySem.W.Frag):R2:=fun x y H Q=>∃ l k xs,x=.ref l∧y=.int k∧SqT K H l xs∧2≤k∧k≤1000∧xs≠[]∧xs.length * k.toNat≤1000 ∧
  ∀ p,H p=none→Q (.ref p) (upd H p (.tup (List.replicate k.toNat xs).flatten))
theorem op_repT:OpR X (binaryOp .Mult) (rRepT X.K):=by
  intro pins s σ H x y v u Q I rx ry h
  obtain ⟨l,k,xs,rfl,rfl,hH,h1,h2,hne,hz,q⟩:=h
  cases rx
  obtain ⟨t,rfl⟩:=ry
  obtain ⟨its,r,⟨⟨cls,dd,data,sl⟩,e,hc,n,hd⟩,zz⟩:=I.tuple hH
  simp only at hc hd
  subst hc hd
  have hl:=r.length
  have hemp:its.toArray.isEmpty=false:=by
    cases its with
    | nil=>exact absurd (r.nil_iff.mp rfl) hne
    | cons a b=>rfl
  have hnew:List.foldl (fun x1 x2=>x1++x2) #[] (List.replicate k.toNat its.toArray)=(List.replicate k.toNat its).flatten.toArray:=by
    have:=foldl_rep its k.toNat []
    rw [List.nil_append] at this
    exact this
  refine wpAny_binaryOp_repeat_ref (T := "tuple") (U := "int") (by decide) ⟨_,e,rfl⟩ (fun s'=>typeIs_int s' k t) noFill_tuple_mul PySem.F.fills_int_mul PySem.F.slot_int_rmul repeat_tuple PySem.F.slot_int_index.lookup
    (call_meets PySem.F.slot_int_rmul (typeIs_int s k t) PySem.F.entry_int_rmul (PySem.F.args_int_rmul_2 _ _) (rmul_int_tuple k t l dd its.toArray n sl)
      ⟨e,rfl,⟨_,e,rfl⟩,call_meets PySem.F.slot_tuple_mul ⟨_,e,rfl⟩ PySem.F.entry_tuple_mul (PySem.F.args_tuple_mul_2 _ _) (tuple_mulAt l dd its.toArray n sl k t h1 h2 hemp (by rw [List.size_toArray,← hl]; exact hz)) ⟨e,?_⟩⟩)
  rw [hnew]
  refine ⟨.ref s.heap.objs.size,_,I.laid (t':=s.toks) (o:=.tup (List.replicate k.toNat xs).flatten) (fun b ob q=>Heap.get?_push_of_some _ q) (Nat.le_refl _) ?_,rfl,q _ (I.hok.fresh (Nat.le_refl _))⟩
  exact ⟨by rw [len_rep,Nat.mul_comm,sizeLine_eq]; omega,_,r.rep k.toNat,IsTup.new _ _⟩
end
end L2
namespace DL
open PySem PySem.Spec L2
theorem bt_sorted:bootBuiltins "sorted" = some (.builtin "sorted"):=by decide +kernel
end DL
namespace L2
end L2
set_option Elab.async false
set_option linter.all false
set_option maxRecDepth 100000
set_option maxHeartbeats 4000000
namespace DL
open PySem PySem.Spec L2
end DL
namespace DL
open PySem PySem.Spec L2
theorem ss_weak {X:Cx} {Y:Y2} {W:XW} {ss:List Stmt} {t t':TS2} (h:PSs2 X Y W ss t) (k:∀ E ρ δ,t' E ρ δ→t E ρ δ):PSs2 X Y W ss t':=⟨pss_mono h.go fun D σ H ⟨F,ρ,δ,E2,I,q,er⟩=>⟨F,ρ,δ,E2,I,k _ _ _ q,er⟩⟩
end DL
set_option Elab.async false
set_option linter.all false
set_option maxRecDepth 100000
set_option maxHeartbeats 4000000
namespace L2
open PySem PySem.Spec PyProof.Rows PySem.W
theorem get_list {X:Cx}:PGet X (rIxL X.K):=by
  intro pins s σ H x y v u Q I rx ry h
  obtain ⟨p,xs,i,z,rfl,rfl,hq,he,q⟩:=h
  cases rx
  obtain ⟨t,rfl⟩:=ry
  obtain ⟨its,r,pl,hz⟩:=I.list hq
  obtain ⟨j,h1,h2,h3,h4,h5⟩:=atI_get he
  obtain ⟨w,ew,rw'⟩:=r.get h2
  have hl:=r.length
  have hn:=line63
  have fin:EP X pins σ Q w s:=⟨z,H,I,rw',q⟩
  by_cases h0:0≤i
  · have hj:i.toNat=j:=by
      rw [seqIndex_of h0 h5] at h1
      exact Option.some.inj h1
    exact wpAny_getItem_list pl.isList h0 (by omega) (by rw [hj]; simpa using ew) fin
  · have hj:(i + (its.toArray.size:Int)).toNat=j:=by
      rw [seqIndex_neg (by omega) h4] at h1
      rw [List.size_toArray,← hl]
      exact Option.some.inj h1
    exact wpAny_getItem_list_neg pl.isList (by omega) (by rw [List.size_toArray] <;> omega) (by omega) (by rw [hj]; simpa using ew) fin
end L2
namespace DL
open PySem PySem.Spec L2
section
variable {X:Cx} {Y:Y2} {W:XW} {x:Str} {p tpos pos:Pos} {e j:Expr} {te tj:TE2}
noncomputable def t2AugV (i:Nat) (g:Int→Int→Int) (tj te:TE2):TS2:=fun E ρ δ=>(mutV ρ δ i).isSome=true∧tj E.xc ρ δ fun dj ρ1 δ1=>match mutV ρ1 δ1 i,dj with
  | some (ds,_),.int j=>(match atI ds j with
    | some (.int a)=>te E.xc ρ1 δ1 fun d ρ2 δ2=>(match d,mutV ρ2 δ2 i with
      | .int b,some (ds',put)=>(match ixN ds'.length j with | some m=>E.nx (put (ds'.set m (.int (g a b)))).1 (put (ds'.set m (.int (g a b)))).2 | none=>False)
      | _,_=>False)
    | _=>False)
  | _,_=>False
theorem s2_augv (i:Nat) {op:Operator} {g:Int→Int→Int} (ho:PIp X op (ipI g)) (hj:PE2 X Y W j tj) (he:PE2 X Y W e te) (hN:X.N[i]?=some x:=by rfl) (hv:Vis X.env.scope x:=by walk_at "v3") (hd:(x == ("__debug__" : Str))=false:=by decide)
    (hcd:(x == ("__classdict__" : Str))=false:=by decide) (ha:∀ ov iv new,augStore j ov iv new=(do holding [new,ov,iv] (setItem ov iv new); release [new,ov,iv] []; pure .next):=by intros; rfl) :
    PS2 X Y W (.AugAssign (.Subscript (.Name x p) j tpos) op e pos) (t2AugV i g tj te):=ps2 (ps_augS (pe_var hN hv hd hcd) hj.go get_list he.go ho set_list ha) fun E1 σ H ⟨F,ρ,δ,E2,I,h,er⟩=>by
  obtain ⟨h0,h⟩:=h
  obtain ⟨⟨ds0,put0⟩,e0⟩:=Option.isSome_iff_exists.mp h0
  obtain ⟨a0,vs0,ea0,hh0,z0,up0⟩:=mut_v I e0
  refine ⟨_,ea0,F,ρ,δ,E2.xc,_,I,h,fun dj w F1 H1 ρ1 δ1 I1 s1 r1 h1=>?_,er.xc⟩
  split at h1
  · rename_i ds put k em
    split at h1
    · rename_i av eat
      obtain ⟨a,vs,ea,hh,z,up⟩:=mut_v I1 em
      rw [ea0] at ea
      cases ea
      obtain ⟨v3,e3,r3⟩:=z.atI eat
      refine ⟨a0,vs,k,v3,rfl,rep_int.mp r1,SqL.of hh,e3,F1,ρ1,δ1,E2.xc,_,I1,h1,fun d v F2 H2 ρ2 δ2 I2' s2 r2 h2=>?_,er.xc.mono s1⟩
      split at h2
      · rename_i b ds' put' em'
        split at h2
        · rename_i m hm
          obtain ⟨a',vs',ea',hh',z',up'⟩:=mut_v I2' em'
          rw [ea0] at ea'
          cases ea'
          exact ⟨av,b,rep_int.mp r3,rep_int.mp r2,a0,vs',k,m,rfl,rep_int.mp r1,hh',by rw [z'.length]; exact hm,er.nx σ F2 _ _ _ (up' _ _ (z'.set (rep_int.mpr rfl) m)) (s1.trans s2) h2⟩
        · exact h2.elim
      · exact h2.elim
    · exact h1.elim
  · exact h1.elim
end
end DL
set_option Elab.async false
set_option linter.all false
set_option maxRecDepth 100000
set_option maxHeartbeats 4000000
namespace DL
open PySem PySem.Spec L2
theorem compL_fold {te:TE2} {js:List Nat} {ρ:En} {q:List D→Dk→Prop} {ds:List D} {δ:Dk} (I:Nat→Dk→Prop) (R:Nat→D→D→Prop) (hl:ds.length≤1000) (h0:I 0 δ)
    (step:∀ (i:Nat) (d:D) (δ':Dk),ds[i]?=some d→I i δ'→∀ Q:D→Dk→Prop,(∀ e δ1,R i d e→I (i + 1) δ1→Q e δ1)→te (fun _ _ _ _=>False) (.val d :: capt ρ js) δ' fun e _ δ1=>Q e δ1)
    (fin:∀ acc δ',acc.length=ds.length→(∀ i d e,ds[i]?=some d→acc[i]?=some e→R i d e)→I ds.length δ'→q acc δ'):compL te js ρ q ds [] δ:=by
  refine compL_ix (fun i acc δ'=>acc.length=i∧(∀ j d e,ds[j]?=some d→acc[j]?=some e→R j d e)∧I i δ') ⟨rfl,fun j d e _ h=>(by simp at h),h0⟩ ?_ ?_
  · rintro i d acc δ' rest hi ⟨rfl,hR,hI⟩ hrest
    have hlt:=(List.getElem?_eq_some_iff.mp hi).1
    refine step _ d δ' hi hI (fun e δ1=>acc.length < 1000∧rest (acc++[e]) δ1) fun e δ1 hr hI1=>⟨by omega,hrest _ _ ⟨by rw [List.length_append]; rfl,fun j d' e' h1 h2=>?_,hI1⟩⟩
    rcases Nat.lt_or_ge j acc.length with hj | hj
    · rw [List.getElem?_append_left hj] at h2; exact hR j d' e' h1 h2
    · rw [List.getElem?_append_right hj] at h2
      have hj2:j - acc.length=0:=by
        have:=(List.getElem?_eq_some_iff.mp h2).1
        simp at this; omega
      rw [hj2] at h2
      have hj3:j=acc.length:=by omega
      subst hj3
      rw [hi] at h1
      cases h1; cases h2
      exact hr
  · rintro acc δ' ⟨h1,h2,h3⟩
    exact fin acc δ' h1 h2 h3
theorem compL_map {te:TE2} {js:List Nat} {ρ:En} {q:List D→Dk→Prop} {ds:List D} {δ:Dk} (f:D→D) (hl:ds.length≤1000)
    (step:∀ d∈ds,∀ Q:D→Dk→Prop,Q (f d) δ→te (fun _ _ _ _=>False) (.val d :: capt ρ js) δ fun e _ δ1=>Q e δ1) (fin:q (ds.map f) δ):compL te js ρ q ds [] δ:=by
  refine compL_fold (fun _ δ'=>δ'=δ) (fun _ d e=>e=f d) hl rfl (fun i d δ' hi h Q hQ=>?_) fun acc δ' h1 h2 h3=>?_
  · subst h
    exact step d (List.mem_of_getElem? hi) Q (hQ _ _ rfl rfl)
  · subst h3
    have:acc=ds.map f:=by
      apply List.ext_getElem?
      intro i
      rw [List.getElem?_map]
      cases e1:ds[i]? with
      | none =>
        rw [List.getElem?_eq_none_iff] at e1
        rw [List.getElem?_eq_none (by omega)]; rfl
      | some d =>
        have hi:=(List.getElem?_eq_some_iff.mp e1).1
        have hi2:i < acc.length:=by omega
        rw [List.getElem?_eq_getElem hi2,h2 i d _ e1 (List.getElem?_eq_getElem hi2)]; rfl
    rw [this]; exact fin
theorem compM_filter {tup:Bool} {n:Nat} {tc:TT2} {te:TE2} {js:List Nat} {ρ:En} {q:List D→Dk→Prop} {ds:List D} {δ:Dk} (p:D→Bool) (f:D→D) (hl:ds.length≤1000)
    (step:∀ d∈ds,∀ Q:Option D→Dk→Prop,(p d=true→Q (some (f d)) δ)→(p d=false→Q none δ)→∃ es,tgD tup n d=some es∧tc (fun _ _ _ _=>False) (es.map .val++capt ρ js) δ fun b ρ1 δ1=>if b=true then te (fun _ _ _ _=>False) ρ1 δ1 fun e _ δ2=>Q (some e) δ2 else Q none δ1)
    (fin:q ((ds.filter p).map f) δ):compM tup n tc te js ρ q ds [] δ:=by
  refine compM_ix (fun i acc δ'=>acc=((ds.take i).filter p).map f∧δ'=δ) ⟨by simp,rfl⟩ ?_ ?_
  · rintro i d acc δ' rest hi ⟨rfl,rfl⟩ hrest
    have hlt:=(List.getElem?_eq_some_iff.mp hi).1
    have hlen:(((ds.take i).filter p).map f).length < 1000:=by
      rw [List.length_map]
      have:=List.length_filter_le p (ds.take i)
      rw [List.length_take] at this
      omega
    obtain ⟨es,e1,e2⟩:=step d (List.mem_of_getElem? hi) (fun o δ1=>match o with | some e=>(((ds.take i).filter p).map f).length < 1000∧rest (((ds.take i).filter p).map f++[e]) δ1 | none=>rest (((ds.take i).filter p).map f) δ1)
      (fun hp=>⟨hlen,hrest _ _ ⟨by rw [List.take_succ,hi,List.filter_append,List.map_append]; simp [hp],rfl⟩⟩) fun hp=>hrest _ _ ⟨by rw [List.take_succ,hi,List.filter_append,List.map_append]; simp [hp],rfl⟩
    rw [e1]
    exact e2
  · rintro acc δ' ⟨rfl,rfl⟩
    rw [List.take_length]; exact fin
theorem in_ints (k:Int):∀ c:List Int,inD (.int k) (c.map D.int)=decide (k∈c)
  | []=>by simp [inD]
  | a :: c=>by
    have ih:=in_ints k c
    unfold inD at ih ⊢
    rw [List.map_cons,List.any_cons,ih]
    have:eqV (toV (.int a)) (toV (.int k))=decide (k=a):=by
      show (decide (a=k))=decide (k=a)
      exact decide_eq_decide.mpr eq_comm
    rw [this]
    by_cases h:k=a <;> simp [h]
theorem flat_ints (c:List Int):(c.map D.int).all flatD=true:=by
  rw [List.all_eq_true]
  intro d hd
  obtain ⟨x,_,rfl⟩:=List.mem_map.mp hd
  rfl
end DL
set_option Elab.async false
set_option linter.all false
set_option maxRecDepth 100000
set_option maxHeartbeats 4000000
namespace L2
open PySem PySem.Spec PyProof.Rows
section
variable {prog:Program} {w:World} {A:Around} {E:Value→Shared→Prop} {s:Shared}
end
section
variable {prog:Program} {w:World} {A:Around} {E:Value→Shared→Prop} {s:Shared}
end
section
variable {X:Cx}
end
end L2
namespace DL
open PySem PySem.Spec L2
section
variable {X:Cx} {Y:Y2} {W:XW} {a e tg:Expr} {ta:TA2} {te:TE2} {p p2 pos pos2:Pos}
noncomputable def t2TR (ta:TA2):TE2:=fun x ρ δ q=>ta x ρ δ fun ds ρ1 δ1=>lrQ ds fun l=>q (.tup l) ρ1 δ1
noncomputable def t2Unp (g:G2) (te:TE2):TS2:=fun E ρ δ=>te E.xc ρ δ fun d ρ1 δ1=>match g d ρ1 with | some ρ2=>E.nx ρ2 δ1 | none=>False
theorem s2_unp {g:TG} {g2:G2} (he:PE2 X Y W e te) (hg:PG X tg g) (hd:TgD X.K g g2) (hs:swapsWithSole [tg] e pos.line X.env=pure false:=by rfl) (hw:swappedStores [tg] e X.env=pure none:=by rfl)
    (h1:(assignEach [tg] X.env).map (·.2)=[assign tg X.env]:=by rfl):PS2 X Y W (.Assign [tg] e pos) (t2Unp g2 te):=ps2 (ps_asg he.go hg hs hw h1) fun E1 σ H ⟨F,ρ,δ,E2,I,h,er⟩=>by
  refine ⟨F,ρ,δ,E2.xc,_,I,h,fun d v F1 H1 ρ1 δ1 I1 s1 r1 h1=>?_,er.xc⟩
  split at h1
  · rename_i ρ2 e2
    exact hd Y F1 H1 σ ρ1 ρ2 δ1 d v _ I1 r1 e2 fun σ' I'=>er.nx σ' F1 H1 ρ2 δ1 I' s1 h1
  · exact h1.elim
end
end DL
set_option Elab.async false
set_option linter.all false
set_option maxRecDepth 100000
set_option maxHeartbeats 4000000
namespace L2
open PySem PySem.Spec PyProof.Rows
section
variable {prog:Program} {w:World} {A:Around} {E:Value→Shared→Prop} {s:Shared}
theorem sorted_seqI {p:Addr} {o:Obj} {T:String} {items:Array Value} {n:Nat} {ns:List Int} {Q:Value→Shared→Prop} (hT:T = "list" ∨ T = "tuple") (ho:s.heap.get? p=some o) (hc:o.cls=.type T) (hd:o.data=.seq items n) (hI:IntsAre items.toList ns) (h64:items.toList.length < 64)
    (h:∀ (h1 h':Heap) (vs':List Value) (ns':List Int) (e:Nat),(∀ b o,s.heap.get? b=some o→h1.get? b=some o)→(∀ b o,h1.get? b=some o→h'.get? b=some o)→h'.get? h1.objs.size=some (seqObj "list" vs'.toArray e)→IntsAre vs' ns'→ns'.Perm ns→ns'.Pairwise (·≤·)→Q (.ref h1.objs.size) { s with heap:=h' }) :
    wpAny (model prog w) A (call (.builtin "sorted") [.ref p]) Q E s:=by
  refine Calls.call_function_entry kind_sorted plain_sorted entry_sorted (args_sorted1 _) ?_
  unfold Builtin.«sorted»
  refine wpAny_bind (m:=checkCount "sorted" 1 1 _) (wpAny_pure ?_)
  refine wpAny_bind (wpAny_collect_seq p hT ho hc hd (fun h1 k1=>?_) (Nat.le_trans (Nat.le_of_lt (by simpa using h64)) (by decide)))
  refine wpAny_bind (wpAny_newList ?_)
  have hoL:(h1.push (seqObj "list" items.toList.toArray 0)).get? h1.objs.size=some (seqObj "list" items.toList.toArray 0):=Heap.get?_push_size _ rfl
  show wpAny _ _ _ _ _ { s with heap:=h1.push (seqObj "list" items.toList.toArray 0) }
  refine wpAny_bind (wpAny_holding (wpAny_call_entry slot_list_sort ⟨_,hoL,rfl⟩ entry_list_sort (list_sort_tree hoL hI h64 fun out ns' a1 a2 a3=>⟨_,rfl,?_⟩) (args_list_sort _)))
  obtain ⟨e,he⟩:=sortedHeap_at (out:=out) hoL
  refine wpAny_pure ⟨_,rfl,h h1 _ out.toList ns' e k1 (fun b o' hb1=>?_) (by simpa using he) a1 a2 a3⟩
  have hlt:=Heap.lt_size hb1
  rw [sortedHeap_old (Nat.ne_of_lt hlt) (by rw [size_push']; exact Nat.lt_succ_of_lt hlt),Heap.get?_push_ne _ _ _ (Nat.ne_of_lt hlt)]
  exact hb1
end
theorem ints_of_vals {ns:List Int}:∀ {us:List Value},Vals (ns.map V.int) us→IntsAre us ns:=by
  induction ns with
  | nil=>intro us r; rw [List.map_nil] at r; cases r; exact IntsAre.nil
  | cons n ns ih =>
    intro us r
    rw [List.map_cons] at r
    cases r with
    | cons r1 r2 =>
      obtain ⟨t,rfl⟩:=r1
      exact IntsAre.cons n t (ih r2)
theorem vals_of_ints {ns:List Int}:∀ {us:List Value},IntsAre us ns→Vals (ns.map V.int) us:=by
  intro us h
  induction h with
  | nil=>exact .nil
  | cons n t h ih=>exact .cons ⟨t,rfl⟩ ih
noncomputable def sortZ (ns:List Int):List Int:=ns.mergeSort fun a b=>decide (a≤b)
theorem sortZ_is {ns ns':List Int} (p:ns'.Perm ns) (o:ns'.Pairwise (·≤·)):ns'=sortZ ns:=by
  refine List.Perm.eq_of_pairwise (le:=fun a b=>a≤b) (fun a b _ _ h1 h2=>Int.le_antisymm h1 h2) o ?_ (p.trans (List.mergeSort_perm _ _).symm)
  have:=List.pairwise_mergeSort (le:=fun (a b:Int)=>decide (a≤b)) (fun a b c h1 h2=>decide_eq_true (Int.le_trans (of_decide_eq_true h1) (of_decide_eq_true h2))) (fun a b=>by rw [Bool.or_eq_true,decide_eq_true_eq,decide_eq_true_eq]; exact Int.le_total a b) ns
  exact this.imp fun h=>of_decide_eq_true h
section
variable {X:Cx}
noncomputable def rSortI (K:PySem.W.Frag):List V→Hp→VK→Prop:=fun vs H Q=>∃ (b:Bool) (a:Addr) (ns:List Int),vs=[.ref a]∧Sq K b H a (ns.map V.int)∧ns.length < 64∧∀ l,H l=none→Q (.ref l) (upd H l (.lst ((sortZ ns).map V.int)))
theorem call_sortedI:CallR X (.builtin "sorted") (rSortI X.K):=by
  intro pins s σ H xs us Q I rv h
  obtain ⟨b,a,ns,rfl,hq,h64,q⟩:=h
  obtain ⟨u,rfl,ru⟩:=rv.one
  cases (show u=Value.ref a from ru)
  have fin:∀ (its:List Value) (T:String) (o:Obj) (n:Nat),(T = "list" ∨ T = "tuple")→s.heap.get? a=some o→o.cls=.type T→o.data=.seq its.toArray n→Vals (ns.map V.int) its→its.length < 64 →
      wpAny (model X.prog X.w) X.A (call (.builtin "sorted") [.ref a]) (EP X pins σ Q) X.xe s:=fun its T o n hT ho hc hd r hl=>by
    refine sorted_seqI (items:=its.toArray) hT ho hc hd (by simpa using ints_of_vals r) (by simpa using hl) fun h1 h' vs' ns' e k1 k2 he hi hp ho'=>?_
    have I1:Inv X pins σ H { s with heap:=h1 }:=I.kept (t':=s.toks) k1
    have es:=sortZ_is hp ho'
    subst es
    exact ⟨.ref h1.objs.size,_,I1.laid (t':=s.toks) k2 (Nat.le_refl _) (show ObjOk X.prog X.w _ _ _ (.lst ((sortZ ns).map V.int)) from ⟨by rw [List.length_map,hp.length_eq]; exact Nat.le_trans (Nat.le_of_lt h64) (by decide),vs',e,vals_of_ints hi,he⟩),rfl,q _ (I1.hok.fresh (Nat.le_refl _))⟩
  cases b with
  | false =>
    obtain ⟨its,r,pl,hz⟩:=I.list hq
    have hlen:=r.length
    rw [List.length_map] at hlen
    obtain ⟨o,ho,hc,n,hd⟩:=pl.isList
    exact fin its "list" o n (.inl rfl) ho hc hd r (by omega)
  | true =>
    obtain ⟨its,r,⟨o,ho,hc,n,hd⟩,hz⟩:=I.tuple hq
    have hlen:=r.length
    rw [List.length_map] at hlen
    exact fin its "tuple" o n (.inr rfl) ho hc hd r (by omega)
end
end L2
namespace DL
open PySem PySem.Spec L2
noncomputable def sortIF:F1:=fun ds q=>match ds with
  | [d]=>(match seqD d with | some xs=>(match intsD xs with | some ns=>ns.length < 64∧q (.lst ((sortZ ns).map D.int)) | none=>False) | none=>False)
  | _=>False
theorem d_sortI {K:PySem.W.Frag}:CallD K (rSortI K) sortIF:=by
  intro Y F H σ ρ δ vs ds Q1 q I r h' k
  unfold sortIF at h'
  split at h'
  · rename_i d
    obtain ⟨v,rfl,r1⟩:=reps1 r
    split at h'
    · rename_i xs e1
      split at h'
      · rename_i ns e2
        obtain ⟨h64,hq⟩:=h'
        obtain ⟨a1,vs1,b1,rfl,q1,z1⟩:=seqD_q e1 r1
        exact ⟨b1,a1,ns,rfl,by rw [← ints_v e2 z1]; exact I.sub.sq q1,h64,fun l hl=>k _ _ _ _ (I.alloc hl) (I.grow hl) (I.lst hl (reps_ints _)) hq⟩
      · exact h'.elim
    · exact h'.elim
  · exact h'.elim
end DL
set_option Elab.async false
set_option linter.all false
set_option maxRecDepth 100000
set_option maxHeartbeats 4000000
namespace L2
open PySem PySem.Spec PyProof.Rows PySem.W
open AutoSeq1 (wpAny_loadPart')
section
variable {X:Cx}
theorem best_lt (bt:Nat→Nat→Bool):∀ n,argBest bt n≤n
  | 0=>Nat.le_refl _
  | n + 1=>by
    unfold argBest
    split
    · exact Nat.le_refl _
    · exact Nat.le_succ_of_le (best_lt bt n)
noncomputable def rMaxL (K:PySem.W.Frag):List V→Hp→VK→Prop:=fun vs H Q=>∃ (b:Bool) (a:Addr) (ns:List Int),vs=[.ref a]∧Sq K b H a (ns.map V.int)∧ns≠[]∧∀ n∈ns,Q (.int n) H
theorem call_maxL (hc:X.calm=true):CallR X (.builtin "max") (rMaxL X.K):=by
  intro pins s σ H xs us Q I rv h
  obtain ⟨b,a,ns,rfl,hq,hne,q⟩:=h
  obtain ⟨u,rfl,ru⟩:=rv.one
  cases (show u=Value.ref a from ru)
  obtain ⟨its,r,p,hz⟩:=I.sq hq
  have hlt:a < s.heap.objs.size:=by obtain ⟨_,e,_⟩:=p.obj; exact Heap.lt_size e
  have hlen:its.length=ns.length:=by have:=r.length; simpa using this.symm
  have hpos:0 < ns.length:=List.length_pos_iff.mpr hne
  have hval:∀ i v,its.toArray[i]?=some v→∃ t,v=Value.int (ns.getD i 0) t:=fun i v hP=>by
    have hP':its[i]?=some v:=by simpa using hP
    have hl:=(List.getElem?_eq_some_iff.mp hP').1
    have hl2:i < (ns.map V.int).length:=by rw [List.length_map]; omega
    obtain ⟨u,hu,rr⟩:=r.get (List.getElem?_eq_getElem hl2)
    rw [hP'] at hu
    cases hu
    rw [List.getElem_map] at rr
    obtain ⟨t,e⟩:=rr
    refine ⟨t,?_⟩
    rw [e]
    show Value.int ns[i] t=Value.int (ns.getD i 0) t
    rw [List.getD_eq_getElem?_getD,List.getElem?_eq_getElem (by omega)]
    rfl
  refine call_max_walk (iter_sq p ?_)
  refine ⟨s.heap.objs.size,[s.heap.objs.size,a],[s.heap.objs.size],its.toArray.size,_,_,_,rfl,sq_walks b (A:=X.A.in1) (I.ok.hd hc) _ a (Nat.ne_of_lt hlt) its.toArray,
    ⟨.of (Heap.get?_push_size _ rfl) rfl rfl,p.stay fun o e=>Heap.get?_push_of_some _ e⟩,fun c hcm=>?_,by rw [List.size_toArray,hlen]; exact hpos,CmpOf.ints_gt (fun i=>ns.getD i 0) hval,fun v h' tk hP hk=>?_⟩
  · show c < (s.heap.push _).objs.size
    rw [Heap.size_push]
    have:c=s.heap.objs.size∨c=a:=by simpa using hcm
    rcases this with rfl | rfl
    · exact Nat.lt_succ_self _
    · exact Nat.lt_succ_of_lt hlt
  · obtain ⟨t,rfl⟩:=hval _ _ hP
    have hn:∀ c o,s.heap.get? c=some o→c ∉ [s.heap.objs.size]:=fun c o e z=>by
      have z':c=s.heap.objs.size:=by simpa using z
      subst z'
      exact absurd (Heap.lt_size e) (Nat.lt_irrefl _)
    refine ⟨.int _,H,I.kept fun c o e=>hk c o (hn c o e) (Heap.get?_push_of_some _ e),⟨t,rfl⟩,q _ ?_⟩
    have hb:=best_lt (fun i j=>decide (ns.getD i 0 > ns.getD j 0)) (its.toArray.size - 1)
    rw [List.size_toArray,hlen] at hb ⊢
    generalize argBest (fun i j=>decide (ns.getD i 0 > ns.getD j 0)) (ns.length - 1)=m at hb ⊢
    rw [List.getD_eq_getElem?_getD,List.getElem?_eq_getElem (by omega)]
    exact List.getElem_mem _
theorem tuple_mul0 (l:Addr) (dd:Option Addr) (items:Array Value) (n:Nat) (sl:Array (Option Value)) (u:Tok) (hi:items.isEmpty=false) :
    Meets (Builtin.«tuple.__mul__» ⟨[.ref l,.int 0 u],[]⟩) (fun _ R s=>s.heap.get? l=some { cls:=.type "tuple",dict:=dd,data:=.seq items n,slots:=sl }∧R (.ok (.ret (Value.ref s.heap.objs.size))) { s with heap:=s.heap.push { cls:=Value.type "tuple",data:=Data.seq #[] },toks:=s.toks }) :=
  .of_wp fun prog w A R s h=>by
    obtain ⟨hp,g,d,tk,os⟩:=s; obtain ⟨hl,h⟩:=h
    have c1:(decide ((0:Int) < -(2 ^ 63)) || decide ((0:Int) ≥ 2 ^ 63))=false:=by decide
    wp_walk using wpAny_loadPart' hl
    exact ⟨_,rfl,h⟩
theorem tuple_mul1 (l:Addr) (dd:Option Addr) (items:Array Value) (n:Nat) (sl:Array (Option Value)) (u:Tok) :
    Meets (Builtin.«tuple.__mul__» ⟨[.ref l,.int 1 u],[]⟩) (fun _ R s=>s.heap.get? l=some { cls:=.type "tuple",dict:=dd,data:=.seq items n,slots:=sl }∧R (.ok (.ret (Value.ref l))) s) :=
  .of_wp fun prog w A R s h=>by
    obtain ⟨hp,g,d,tk,os⟩:=s; obtain ⟨hl,h⟩:=h
    have c1:(decide ((1:Int) < -(2 ^ 63)) || decide ((1:Int) ≥ 2 ^ 63))=false:=by decide
    wp_walk using wpAny_loadPart' hl
    exact ⟨_,rfl,h⟩
noncomputable def rRepA (K:PySem.W.Frag):R2:=fun x y H Q=>∃ l k xs,x=.ref l∧y=.int k∧SqT K H l xs∧0≤k∧k≤1000∧xs≠[]∧xs.length * k.toNat≤1000 ∧
  (k=1→Q (.ref l) H)∧(k≠1→∀ p,H p=none→Q (.ref p) (upd H p (.tup (List.replicate k.toNat xs).flatten)))
theorem op_repA:OpR X (binaryOp .Mult) (rRepA X.K):=by
  intro pins s σ H x y v u Q I rx ry h
  obtain ⟨l,k,xs,rfl,rfl,hH,h1,h2,hne,hz,q1,q2⟩:=h
  by_cases hk:2≤k
  · exact op_repT pins s σ H _ _ v u Q I rx ry ⟨l,k,xs,rfl,rfl,hH,hk,h2,hne,hz,q2 (by omega)⟩
  cases rx
  obtain ⟨t,rfl⟩:=ry
  obtain ⟨its,r,⟨⟨cls,dd,data,sl⟩,e,hc,n,hd⟩,zz⟩:=I.tuple hH
  simp only at hc hd
  subst hc hd
  have hemp:its.toArray.isEmpty=false:=by
    cases its with
    | nil=>exact absurd (r.nil_iff.mp rfl) hne
    | cons a b=>rfl
  have hk2:k=0∨k=1:=by omega
  rcases hk2 with rfl | rfl
  · refine wpAny_binaryOp_repeat_ref (T := "tuple") (U := "int") (by decide) ⟨_,e,rfl⟩ (fun s'=>typeIs_int s' 0 t) noFill_tuple_mul PySem.F.fills_int_mul PySem.F.slot_int_rmul repeat_tuple PySem.F.slot_int_index.lookup
      (call_meets PySem.F.slot_int_rmul (typeIs_int s 0 t) PySem.F.entry_int_rmul (PySem.F.args_int_rmul_2 _ _) (rmul_int_tuple 0 t l dd its.toArray n sl)
        ⟨e,rfl,⟨_,e,rfl⟩,call_meets PySem.F.slot_tuple_mul ⟨_,e,rfl⟩ PySem.F.entry_tuple_mul (PySem.F.args_tuple_mul_2 _ _) (tuple_mul0 l dd its.toArray n sl t hemp) ⟨e,?_⟩⟩)
    refine ⟨.ref s.heap.objs.size,_,I.laid (t':=s.toks) (o:=.tup []) (fun b ob q=>Heap.get?_push_of_some _ q) (Nat.le_refl _) ?_,rfl,q2 (by decide) _ (I.hok.fresh (Nat.le_refl _))⟩
    exact ⟨Nat.zero_le _,[],.nil,IsTup.new _ _⟩
  · refine wpAny_binaryOp_repeat_ref (T := "tuple") (U := "int") (by decide) ⟨_,e,rfl⟩ (fun s'=>typeIs_int s' 1 t) noFill_tuple_mul PySem.F.fills_int_mul PySem.F.slot_int_rmul repeat_tuple PySem.F.slot_int_index.lookup
      (call_meets PySem.F.slot_int_rmul (typeIs_int s 1 t) PySem.F.entry_int_rmul (PySem.F.args_int_rmul_2 _ _) (rmul_int_tuple 1 t l dd its.toArray n sl)
        ⟨e,rfl,⟨_,e,rfl⟩,call_meets PySem.F.slot_tuple_mul ⟨_,e,rfl⟩ PySem.F.entry_tuple_mul (PySem.F.args_tuple_mul_2 _ _) (tuple_mul1 l dd its.toArray n sl t) ⟨e,?_⟩⟩)
    exact ⟨.ref l,H,I,rfl,q1 rfl⟩
end
end L2
namespace DL
open PySem PySem.Spec L2
noncomputable def repAF:F2:=fun d1 d2 q=>match d1,d2 with
  | .tup xs,.int k=>xs.length * k.toNat≤1000∧0≤k∧k≤1000∧xs≠[]∧q (.tup (List.replicate k.toNat xs).flatten)
  | _,_=>False
theorem d_repA {K:PySem.W.Frag}:OpD K (rRepA K) repAF:=by
  intro Y F H σ ρ δ x y d1 d2 Q1 q I r1 r2 h' k
  unfold repAF at h'
  split at h'
  · rename_i xs n
    have r1':=r1
    obtain ⟨a,vs,rfl,e1,z1⟩:=rep_tup.mp r1
    obtain ⟨h1,h2,h3,hn,h4⟩:=h'
    refine ⟨a,n,vs,rfl,rep_int.mp r2,SqT.of (I.sub _ _ e1),h2,h3,fun z=>hn ?_,by rw [z1.length]; exact h1,fun e=>?_,fun _ p hp=>k _ _ _ _ (I.alloc hp) (I.grow hp) (I.tup hp (z1.rep _)) h4⟩
    · subst z
      cases xs with
      | nil=>rfl
      | cons d ds=>obtain ⟨_,_,e,_⟩:=reps_cons.mp z1; cases e
    · subst e
      refine k _ _ F H I (Same.refl F) ?_ h4
      simpa using r1'
  · exact h'.elim
noncomputable def neL:F2:=fun d1 d2 q=>match d1,d2 with | .lst xs,.lst ys=>(xs.all flatD && ys.all flatD)=true∧q (.bl (!eqDs xs ys)) | _,_=>False
noncomputable def maxLF:F1:=fun ds q=>match ds with | [d]=>(match seqD d with | some xs=>(match intsD xs with | some ns=>ns≠[]∧∀ n∈ns,q (.int n) | none=>False) | none=>False) | _=>False
theorem bt_str:bootBuiltins "str" = some (.type "str"):=by kernel_rfl
noncomputable def strF:F1:=fun ds q=>match ds with | [.int i]=>i.natAbs.log2 < 1920∧q (.str (toString i)) | _=>False
theorem d_str {K:PySem.W.Frag}:CallD K (fun xs H Q=>∃ i,xs=[V.int i]∧i.natAbs.log2 < 1920∧Q (V.str (toString i)) H) strF:=by
  intro Y F H σ ρ δ vs ds Q1 q I r h' k
  unfold strF at h'
  split at h'
  · obtain ⟨v,rfl,r1⟩:=reps1 r
    rw [rep_int.mp r1]
    exact ⟨_,rfl,h'.1,k _ _ F H I (Same.refl F) (rep_str.mpr rfl) h'.2⟩
  · exact h'.elim
noncomputable def addS:F2:=fun d1 d2 q=>match d1,d2 with
  | .str x,.str y=>x.length + y.length≤1000∧q (.str (x++y))
  | _,_=>False
theorem d_addS {K:PySem.W.Frag}:OpD K (fun x y H Q=>∃ i j,x=V.str i∧y=V.str j∧i.length + j.length≤sizeLine∧Q (V.str (i++j)) H) addS:=by
  intro Y F H σ ρ δ x y d1 d2 Q1 q I r1 r2 h' k
  unfold addS at h'
  split at h'
  · rename_i a b
    exact ⟨a,b,rep_str.mp r1,rep_str.mp r2,sz_ok h'.1,k _ _ F H I (Same.refl F) (rep_str.mpr rfl) h'.2⟩
  · exact h'.elim
noncomputable def addH:F2:=fun d1 d2 q=>match d1,d2 with
  | .lst xs,.lst ys=>xs.length + ys.length≤100000∧q (.lst (xs++ys))
  | _,_=>False
section
variable {X:Cx} {Y:Y2} {W:XW} {a b:Expr} {ta tb:TE2} {x:Str} {pos pos' bpos:Pos}
noncomputable def t2OwnRep (i:Nat) (ta tb:TE2):TS2:=fun E ρ δ=>ta E.xc ρ δ fun d1 ρ1 δ1=>tb E.xc ρ1 δ1 fun d2 ρ2 δ2=>match d1,d2 with
  | .lst xs,.int k=>xs.length * k.toNat≤1000∧0≤k∧k≤1000∧E.nx (ρ2.set i (.own (List.replicate k.toNat xs).flatten)) δ2
  | _,_=>False
theorem s2_ownRep (i:Nat) (hN:X.N.Nodup) (ha:PE2 X Y W a ta) (hb:PE2 X Y W b tb) (hi:X.N[i]?=some x:=by rfl) (hx:Loc X.env.scope x:=by walk_at "v2")
    (hs:swapsWith (.BinOp a .Mult b bpos) (some (.Name x pos')) pos.line X.env=pure false:=by rfl) (hf:X.fn x=true∨X.env.scope.names.lookup x=some .local:=by walk_at "v1") :
    PS2 X Y W (.Assign [.Name x pos'] (.BinOp a .Mult b bpos) pos) (t2OwnRep i ta tb):=ps2 (ps_set (i:=i) hN hi hx (pe_op op_rep ha.go hb.go) hs hf) fun E1 σ H ⟨F,ρ,δ,E2,I,h,er⟩=>by
  refine ⟨F,ρ,δ,E2.xc,_,I,h,fun d1 v1 F1 H1 ρ1 δ1 I1 s1 r1 h1=>⟨F1,ρ1,δ1,E2.xc,_,I1,h1,fun d2 v2 F2 H2 ρ2 δ2 I2 s2 r2 h2=>?_,er.xc.mono s1⟩,er.xc⟩
  split at h2
  · rename_i xs k
    obtain ⟨l,vs,rfl,e1,z1⟩:=rep_lst.mp (r1.mono s2)
    obtain ⟨h3,h4,h5,h6⟩:=h2
    exact ⟨l,k,vs,rfl,rep_int.mp r2,I2.sub _ _ e1,by omega,by omega,sz_ok (by rw [z1.length]; exact h3),fun p hp=>er.nx _ F2 _ _ δ2 (I2.own hp (z1.rep _)) (s1.trans s2) h6⟩
  · exact h2.elim
variable {i:Nat} {p:Pos}
noncomputable def t2MaxV (i:Nat):TE2:=fun x ρ δ q=>match seqV ρ δ i with | some xs=>(match intsD xs with | some ns=>ns≠[]∧∀ n∈ns,q (.int n) ρ δ | none=>False) | none=>False
theorem e2_maxv (i:Nat) {np:Pos} (hc:X.calm=true) (hm:X.mg "max" = none) (hg:Gl X "max" := by rfl) (hN:X.N[i]?=some x:=by rfl) (hv:Vis X.env.scope x:=by walk_at "v3") (hd:(x == ("__debug__" : Str))=false:=by decide)
    (hcd:(x == ("__classdict__" : Str))=false:=by decide) (hst:starEach [.Name x p] X.env=[(false,eval (.Name x p) X.env)]:=by rfl) (hpl:(backTo pos (starEach [] X.env)).any (·.1)=false:=by exact star_any rfl) :
    PE2 X Y W (.Call (.Name "max" np) [.Name x p] [] pos) (t2MaxV i):=pe2 (pe_callB (call_maxL hc) hg hm bt_max (pa_cons (pe_var hN hv hd hcd) pa_nil hst) (by decide) (by decide) hst hpl) fun σ H Q ⟨F,ρ,δ,x,q,I,h,k,kx⟩=>by
  unfold t2MaxV at h
  split at h
  · rename_i xs e
    split at h
    · rename_i ns e2
      obtain ⟨a,vs,ea,sq,z⟩:=seq_v I e
      obtain ⟨hne,h⟩:=h
      have ev:=ints_v e2 z
      subst ev
      rcases sq with sq | sq
      · exact ⟨_,ea,false,a,ns,rfl,sq,hne,fun n hn=>k _ _ F H ρ δ I (Same.refl F) (rep_int.mpr rfl) (h n hn)⟩
      · exact ⟨_,ea,true,a,ns,rfl,sq,hne,fun n hn=>k _ _ F H ρ δ I (Same.refl F) (rep_int.mpr rfl) (h n hn)⟩
    · exact h.elim
  · exact h.elim
end
end DL
set_option Elab.async false
set_option linter.all false
set_option maxRecDepth 100000
set_option maxHeartbeats 4000000
namespace L2
theorem Room.units1 {k:Nat} {A:PySem.Around} (r:Room k A):A.units + 1 < PySem.cLine:=by have:=r.un; omega
end L2
namespace DL
open PySem PySem.Spec L2
noncomputable def valD (kvs:List (Key×D)) (k:Key):Option D:=(kvs.find? fun kv=>decide (kv.1=k)).map (·.2)
noncomputable def putD (kvs:List (Key×D)) (k:Key) (v:D):List (Key×D):=if (kvs.any fun kv=>decide (kv.1=k))=true then kvs.map (fun kv=>if kv.1=k then (kv.1,v) else kv) else kvs++[(k,v)]
section
variable {K:Frag} {F:Hp}
theorem RepK.length:∀ {ds:List (Key×D)} {us:List (Key×V)},RepK K F ds us→us.length=ds.length
  | [],us,h=>by unfold RepK at h; rw [h]; rfl
  | (x,d) :: ds,us,h=>by unfold RepK at h; obtain ⟨v,r,rfl,_,z⟩:=h; rw [List.length_cons,List.length_cons,RepK.length z]
theorem RepK.any (k:Key):∀ {ds:List (Key×D)} {us:List (Key×V)},RepK K F ds us→(us.any fun kv=>decide (kv.1=k))=ds.any fun kv=>decide (kv.1=k)
  | [],us,h=>by unfold RepK at h; rw [h]; rfl
  | (x,d) :: ds,us,h=>by unfold RepK at h; obtain ⟨v,r,rfl,_,z⟩:=h; rw [List.any_cons,List.any_cons,RepK.any k z]
theorem RepK.nil:RepK K F [] []:=by unfold RepK; rfl
theorem RepK.cons {x:Key} {d:D} {v:V} {ds:List (Key×D)} {us:List (Key×V)} (r:Rep K F d v) (z:RepK K F ds us):RepK K F ((x,d) :: ds) ((x,v) :: us):=by unfold RepK; exact ⟨v,us,rfl,r,z⟩
theorem RepK.repl (k:Key) {d:D} {v:V} (r:Rep K F d v):∀ {ds:List (Key×D)} {us:List (Key×V)},RepK K F ds us→RepK K F (ds.map fun kv=>if kv.1=k then (kv.1,d) else kv) (us.map fun kv=>if kv.1=k then (kv.1,v) else kv)
  | [],us,h=>by unfold RepK at h; rw [h]; exact RepK.nil
  | (x,e) :: ds,us,h=>by
    unfold RepK at h
    obtain ⟨w,l,rfl,q,z⟩:=h
    rw [List.map_cons,List.map_cons]
    by_cases hk:x=k
    · simp only [hk,if_true]
      exact RepK.cons r (RepK.repl k r z)
    · simp only [hk,if_false]
      exact RepK.cons q (RepK.repl k r z)
theorem RepK.snoc {k:Key} {d:D} {v:V} (r:Rep K F d v):∀ {ds:List (Key×D)} {us:List (Key×V)},RepK K F ds us→RepK K F (ds++[(k,d)]) (us++[(k,v)])
  | [],us,h=>by unfold RepK at h; rw [h]; exact RepK.cons r RepK.nil
  | (x,e) :: ds,us,h=>by unfold RepK at h; obtain ⟨w,l,rfl,q,z⟩:=h; exact RepK.cons q (RepK.snoc r z)
theorem RepK.put {k:Key} {d:D} {v:V} {ds:List (Key×D)} {us:List (Key×V)} (z:RepK K F ds us) (r:Rep K F d v):RepK K F (putD ds k d) (putK us k v):=by
  unfold putD putK
  rw [RepK.any k z]
  split
  · exact RepK.repl k r z
  · exact RepK.snoc r z
theorem RepK.val (k:Key):∀ {ds:List (Key×D)} {us:List (Key×V)},RepK K F ds us→match valD ds k with | some d=>∃ v,valV us k=some v∧Rep K F d v | none=>valV us k=none
  | [],us,h=>by unfold RepK at h; rw [h]; rfl
  | (x,e) :: ds,us,h=>by
    unfold RepK at h
    obtain ⟨w,l,rfl,q,z⟩:=h
    have ih:=RepK.val k z
    by_cases hk:x=k
    · subst hk
      have e1:valD ((x,e) :: ds) x=some e:=by unfold valD; simp [List.find?_cons]
      rw [e1]
      exact ⟨w,valV_pos rfl,q⟩
    · have e1:valD ((x,e) :: ds) k=valD ds k:=by unfold valD; simp [List.find?_cons,hk]
      rw [e1,valV_neg (p:=(x,w)) hk]
      exact ih
end
section
variable {X:Cx} {Y:Y2} {W:XW} {e j:Expr} {te tj tx:TE2} {x:Str} {i:Nat} {p pos pos' spos:Pos}
noncomputable def t2OwnD0 (i:Nat):TS2:=fun E ρ δ=>E.nx (ρ.set i (.ownD [])) δ
theorem s2_ownD0 (i:Nat) (hN:X.N.Nodup) (hi:X.N[i]?=some x:=by rfl) (hx:Loc X.env.scope x:=by walk_at "v2")
    (hs:swapsWith (.Dict [] [] p) (some (.Name x pos')) pos.line X.env=pure false:=by rfl) (hf:X.fn x=true∨X.env.scope.names.lookup x=some .local:=by walk_at "v1") :
    PS2 X Y W (.Assign [.Name x pos'] (.Dict [] [] p) pos) (t2OwnD0 i):=ps2 (ps_set (i:=i) hN hi hx pe_dnewK hs hf) fun E1 σ H ⟨F,ρ,δ,E2,I,h,er⟩ =>
  fun q hq=>er.nx _ F _ _ δ (I.ownD hq RepK.nil) (Same.refl F) h
noncomputable def t2PutD (i:Nat) (tj te:TE2):TS2:=fun E ρ δ=>te E.xc ρ δ fun d ρ1 δ1=>hasV ρ1 i=true∧tj E.xc ρ1 δ1 fun dj ρ2 δ2=>match ρ2[i]?,dj with
  | some (.ownD kvs),.int k=>kvs.length < 1000∧E.nx (ρ2.set i (.ownD (putD kvs (.inl k) d))) δ2
  | _,_=>False
theorem s2_putd (i:Nat) (hu:X.A.units + 1 < cLine) (hj:PE2 X Y W j tj) (he:PE2 X Y W e te) (hN:X.N[i]?=some x:=by rfl) (hv:Vis X.env.scope x:=by walk_at "v3") (hd:(x == ("__debug__" : Str))=false:=by decide)
    (hcd:(x == ("__classdict__" : Str))=false:=by decide) (hs:swapsWith e (some (.Subscript (.Name x p) j spos)) pos.line X.env=pure false:=by rfl) :
    PS2 X Y W (.Assign [.Subscript (.Name x p) j spos] e pos) (t2PutD i tj te):=ps2 (ps_dput hu (pe_var hN hv hd hcd) hj.go he.go hs) fun E1 σ H ⟨F,ρ,δ,E2,I,h,er⟩=>by
  refine ⟨F,ρ,δ,E2.xc,_,I,h,fun d v F1 H1 ρ1 δ1 I1 s1 r1 h1=>?_,er.xc⟩
  obtain ⟨o,eo⟩:=has_v I1 h1.1
  refine ⟨o,eo,F1,ρ1,δ1,E2.xc,_,I1,h1.2,fun dj w F2 H2 ρ2 δ2 I2' s2 r2 h2=>?_,er.xc.mono s1⟩
  split at h2
  · rename_i kvs k em
    obtain ⟨a,us,ea,hh,z,up⟩:=I2'.mutD em
    rw [eo] at ea
    cases ea
    rw [rep_int.mp r2]
    exact ⟨a,_,rfl,DPut.k (k:=.inl k) hh (Nat.lt_of_lt_of_le (by rw [z.length]; exact h2.1) (by decide)),er.nx σ F2 _ _ δ2 (up _ _ (z.put (r1.mono s2))) (s1.trans s2) h2.2⟩
  · exact h2.elim
noncomputable def dicV (ρ:En) (i:Nat):Option (List (Key×D)):=match ρ[i]? with
  | some (.ownD kvs)=>some kvs
  | some (.val (.dwk kvs))=>some kvs
  | _=>none
theorem dic_v {K:Frag} {F H:Hp} {σ:St} {ρ:En} {δ:Dk} {kvs:List (Key×D)} (I:I2 K Y F H σ ρ δ) (h:dicV ρ i=some kvs):∃ a us,σ[i]?=some (some (.ref a))∧Rd H a (.dK us)∧RepK K F kvs us:=by
  unfold dicV at h
  split at h
  · rename_i es e
    cases h
    obtain ⟨a,us,q,hh,_,_,r⟩:=I.env i _ e
    exact ⟨a,us,join_some q,.inl hh,r⟩
  · rename_i es e
    cases h
    obtain ⟨v,q,r⟩:=I.env i _ e
    obtain ⟨a,o,us,rfl,e2,z⟩:=rep_dwk.mp r
    exact ⟨a,us,join_some q,.inr ⟨o,I.sub _ _ e2⟩,z⟩
  · cases h
theorem dget {H:Hp} {a:Addr} {kvs:List (Key×V)} {k:Key} (e:Rd H a (.dK kvs)):DGet H a (kV k) (valV kvs k):=.inl ⟨kvs,k,e,rfl,rfl⟩
noncomputable def t2GetD (i:Nat) (ty tx:TE2):TE2:=fun x ρ δ q=>(dicV ρ i).isSome=true∧ty x ρ δ fun dk ρ1 δ1=>tx x ρ1 δ1 fun dd ρ2 δ2=>match dicV ρ2 i,dk with
  | some kvs,.int k=>q ((valD kvs (.inl k)).getD dd) ρ2 δ2
  | _,_=>False
theorem e2_getd (i:Nat) {f:Expr} {apos cpos:Pos} (hu:X.A.units + 1 < cLine) (he:PE2 X Y W e te) (hf:PE2 X Y W f tx) (m:M2 X (.Name x p) "get" apos e f cpos) (hN:X.N[i]?=some x:=by rfl) (hv:Vis X.env.scope x:=by walk_at "v3") (hd:(x == ("__debug__" : Str))=false:=by decide)
    (hcd:(x == ("__classdict__" : Str))=false:=by decide):PE2 X Y W (.Call (.Attribute (.Name x p) "get" apos) [e,f] [] cpos) (t2GetD i te tx):=pe2 (pe_dget2 hu (pe_var hN hv hd hcd) he.go hf.go m) fun σ H Q ⟨F,ρ,δ,x,q,I,h,k,kx⟩=>by
  obtain ⟨h0,h⟩:=h
  obtain ⟨kvs,e⟩:=Option.isSome_iff_exists.mp h0
  obtain ⟨a,us,ea,hh,z⟩:=dic_v I e
  refine ⟨_,ea,a,rfl,.inl ⟨us,hh⟩,F,ρ,δ,x,_,I,h,fun dk v1 F1 H1 ρ1 δ1 I1 s1 r1 h1=>⟨F1,ρ1,δ1,x,_,I1,h1,fun dd v2 F2 H2 ρ2 δ2 I2' s2 r2 h2=>?_,kx.mono s1⟩,kx⟩
  split at h2
  · rename_i kvs' kk e'
    obtain ⟨a',us',ea',hh',z'⟩:=dic_v I2' e'
    rw [ea] at ea'
    cases ea'
    rw [rep_int.mp (r1.mono s2)]
    have hz:=z'.val (.inl kk)
    cases ev:valD kvs' (.inl kk) with
    | some d =>
      rw [ev] at hz h2
      obtain ⟨v,e3,r3⟩:=hz
      exact ⟨some v,by rw [← e3]; exact dget (k:=.inl kk) hh',k _ _ F2 H2 ρ2 δ2 I2' (s1.trans s2) r3 h2⟩
    | none =>
      rw [ev] at hz h2
      exact ⟨none,by rw [← hz]; exact dget (k:=.inl kk) hh',k _ _ F2 H2 ρ2 δ2 I2' (s1.trans s2) r2 h2⟩
  · exact h2.elim
noncomputable def t2IxD (i:Nat) (ty:TE2):TE2:=fun x ρ δ q=>(dicV ρ i).isSome=true∧ty x ρ δ fun dk ρ1 δ1=>match dicV ρ1 i,dk with
  | some kvs,.int k=>(match valD kvs (.inl k) with | some d=>q d ρ1 δ1 | none=>False)
  | _,_=>False
end
end DL
set_option Elab.async false
set_option linter.all false
set_option maxRecDepth 100000
set_option maxHeartbeats 4000000
namespace L2
open PySem PySem.Spec PyProof.Rows
section
variable {X:Cx} {pins:List (Addr×Obj)} {σ:St} {H:Hp} {s:Shared} {a:Addr} {kvs:List (Key×V)}
theorem d_frz (I:Inv X pins σ H s) (e:H a=some (.dK kvs)):∃ o,Inv X pins σ (upd H a (.frz o (.dK kvs))) s:=by
  have ok:=I.hok a _ e
  obtain ⟨z,hd,vs,rel,hm⟩:=(show kvs.length≤sizeLine∧(a == sysModules)=false∧∃ vs,KV kvs vs∧s.heap.DictOf (mixKind X.prog X.w) a vs from ok)
  obtain ⟨o,ho⟩:∃ o,s.heap.get? a=some o:=let ⟨o,_,_,ho,_⟩:=hm; ⟨o,ho⟩
  refine ⟨o,?_⟩
  have:=d_write (h':=s.heap) (t':=s.toks) (ob:=.frz o (.dK kvs)) I (by rw [e]; trivial) (Heap.SameBut.refl _ _) ⟨o,ho⟩ ⟨ho,z,hd,vs,rel,hm⟩
  exact this
theorem is_kV {P:Program} {w:World} {k:Key} {u:Value} (h:(mixKind P w).is k u=true):RelV (kV k) u:=by
  cases k with
  | inl i=>exact Value.isInt_shape h
  | inr x=>exact Value.isStrOf_shape h
theorem frz_at {o:Obj} {es:Array DictEntry} {ep:Nat} (I:Inv X pins σ H s) (e:H a=some (.frz o (.dK kvs))) (hd:o.data=.dict es ep):(a == sysModules)=false∧∃ vs,KV kvs vs∧s.heap.DictAt (mixKind X.prog X.w) a vs ep:=by
  obtain ⟨ho,z,hs,vs,rel,hm⟩:=(show s.heap.get? a=some o∧kvs.length≤sizeLine∧(a == sysModules)=false∧∃ vs,KV kvs vs∧s.heap.DictOf (mixKind X.prog X.w) a vs from I.hok a _ e)
  refine ⟨hs,vs,rel,?_⟩
  obtain ⟨ep',hm'⟩:=hm.dictAt
  obtain ⟨o',es',ho',h1,h2,h3⟩:=id hm'
  rw [ho] at ho'
  cases ho'
  rw [hd] at h2
  cases h2
  exact hm'
variable {tg:Expr}
noncomputable def tFrz (t:TE):TE:=fun σ H Q=>t σ H fun v H1=>∃ a kvs,v=.ref a∧H1 a=some (.dK kvs)∧∀ o,Q v (upd H1 a (.frz o (.dK kvs)))
theorem pe_frz {e:Expr} {t:TE} (h:PE X e t):PE X e (tFrz t):=fun pins s σ H Q I q =>
  thn (h pins s σ H _ I q) fun v s1 ⟨x,H1,I1,r1,a,kvs,e,hq,q1⟩=>by
    obtain ⟨o,I2⟩:=d_frz I1 hq
    exact ⟨x,_,I2,r1,q1 o⟩
end
end L2
namespace DL
open PySem PySem.Spec L2
section
variable {X:Cx} {Y:Y2} {W:XW} {tg e:Expr} {te:TE2} {x:Str} {i:Nat} {p pos:Pos} {K:Frag}
noncomputable def t2VD (i:Nat):TE2:=fun _ ρ δ q=>match ρ[i]? with | some (.ownD kvs)=>q (.dwk kvs) (ρ.set i (.val (.dwk kvs))) δ | _=>False
theorem e2_vD (i:Nat) (hN:X.N[i]?=some x:=by rfl) (hv:Vis X.env.scope x:=by walk_at "v3") (hd:(x == ("__debug__" : Str))=false:=by decide)
    (hcd:(x == ("__classdict__" : Str))=false:=by decide):PE2 X Y W (.Name x pos) (t2VD i):=pe2 (pe_frz (pe_var hN hv hd hcd)) fun σ H Q ⟨F,ρ,δ,x,q,I,h,k,kx⟩=>by
  unfold t2VD at h
  split at h
  · rename_i kvs e
    obtain ⟨a,us,ea,hh,hF,up⟩:=I.freezeD e
    exact ⟨_,ea,a,us,rfl,hh,fun o=>k _ _ _ _ _ δ (up o).1 (Same.new hF) (up o).2 h⟩
  · exact h.elim
noncomputable def t2DicV (i:Nat) (v:Int):TE2:=fun _ ρ δ q=>match ρ[i]? with | some (.val (.int k))=>q (.dwk [(.inl k,.int v)]) ρ δ | _=>False
theorem e2_dicV (i:Nat) {c:Nat} {vpos:Pos} {v:Int} (hN:X.N[i]?=some x:=by rfl) (hv:Vis X.env.scope x:=by walk_at "v3") (hd:(x == ("__debug__" : Str))=false:=by decide)
    (hcd:(x == ("__classdict__" : Str))=false:=by decide) (hall:([some (Expr.Name x p)]:List (Option Expr)).all (·.isSome)=true:=by rfl):PE2 X Y W (.Dict [some (.Name x p)] [.Constant (.int v) c vpos] pos) (t2DicV i v) :=
  pe2 (pe_frz (pe_disp (pps_cons (pe_var hN hv hd hcd) pe_int pps_nil) hall rfl (by simp) (by show 1≤15; decide))) fun σ H Q ⟨F,ρ,δ,x,q,I,h,k,kx⟩=>by
  unfold t2DicV at h
  split at h
  · rename_i n e
    obtain ⟨u,hq,r⟩:=I.env i _ e
    rw [rep_int.mp r] at hq
    intro p hp
    refine ⟨_,join_some hq,upd_same,[(.inl n,.int v)],rfl,by show 1≤15; decide,?_⟩
    rw [upd_upd]
    refine ⟨p,_,rfl,upd_same,fun o=>?_⟩
    rw [upd_upd]
    exact k _ _ _ _ ρ δ (I.alloc hp) (I.grow hp) (rep_dwk.mpr ⟨p,o,_,rfl,upd_same,RepK.cons (rep_int.mpr rfl) RepK.nil⟩) h
  · exact h.elim
noncomputable def keyD:Key→D
  | .inl n=>.int n
  | .inr s=>.str s
theorem rep_key {F:Hp} (k:Key):Rep K F (keyD k) (kV k):=by
  cases k with
  | inl n=>exact rep_int.mpr rfl
  | inr s=>exact rep_str.mpr rfl
noncomputable def t2Keys (te:TE2):TI2:=fun x ρ δ q=>te x ρ δ fun d ρ1 δ1=>match d with | .dwk kvs=>q (kvs.map fun kv=>keyD kv.1) ρ1 δ1 | _=>False
theorem RepK.get {F:Hp}:∀ {ds:List (Key×D)} {us:List (Key×V)},RepK K F ds us→∀ (i:Nat) (k:Key) (v:V),us[i]?=some (k,v)→∃ d,ds[i]?=some (k,d)∧Rep K F d v
  | [],us,h,i,k,v,e=>by unfold RepK at h; rw [h] at e; cases e
  | (y,d) :: ds,us,h,i,k,v,e=>by
    unfold RepK at h
    obtain ⟨w,l,rfl,q,z⟩:=h
    cases i with
    | zero=>cases e; exact ⟨d,rfl,q⟩
    | succ i=>exact RepK.get z i k v e
end
end DL
set_option Elab.async false
set_option linter.all false
set_option maxRecDepth 100000
set_option maxHeartbeats 4000000
namespace L2
open PySem PySem.Spec PyProof.Rows
structure RoomU (k:Nat) (A:Around):Prop where
  dp:A.depth + 3 * k + 5 < recursionLimit
  un:A.units + 16 * k + 200 < cLine
structure FnOkU (P:Program) (w:World) (K:PySem.W.Frag) (mg:Str→Option Value) (base:Heap) (CX:CXT) (k:Nat) (f:Addr) (fd:FuncData) (ps:List Str) (sp:Sp):Prop where
  len:∀ vs H Q E,sp vs H Q E→vs.length=ps.length
  run:∀ (A:Around) (outer:List Env) (s:Shared) (H:Hp) (args:Args) (us:List Value) (vs:List V) (Q:VK) (E:XK),RoomU k A→Env0 P w K mg base A outer s H→BindsTo s fd args (ps.zip us)→Vals vs us→sp vs H Q E →
    codeAny (model P w) A (.call (.ref f) args) (CR CX outer P w H s Q E) s
structure FnAtU (P:Program) (w:World) (K:PySem.W.Frag) (mg:Str→Option Value) (base:Heap) (CX:CXT) (x:Str) (k:Nat) (ps:List Str) (sp:Sp):Prop where
  ex:∃ f fd,FnOkU P w K mg base CX k f fd ps sp∧mg x=some (.ref f)∧PySem.W.keepIn K (.ref f)=true∧Binds K fd ps []
section
variable {X:Cx} {pins:List (Addr×Obj)} {σ:St} {H:Hp} {s:Shared}
end
end L2
namespace DL
open PySem PySem.Spec L2
open PySem.W (XC)
open PyProof.Rows (envOfC)
section
variable {X:Cx} {Y:Y2} {W:XW} {x:Str} {p pos:Pos} {e:Expr} {es:List Expr} {t:TA2} {k:Nat} {ps:List Str} {sp:Sp2}
end
section
variable {P:Program} {w:World} {K:Frag} {mg:Str→Option Value} {base:Heap}
end
end DL
set_option Elab.async false
set_option linter.all false
set_option maxRecDepth 100000
set_option maxHeartbeats 4000000
namespace L2
open PySem PySem.Spec PyProof.Rows PySem.Calls
section
variable {prog:Program} {w:World} {A:Around} {E:Value→Shared→Prop} {s:Shared} {I l:Addr} {its:Array Value}
end
end L2
set_option Elab.async false
set_option linter.all false
set_option maxRecDepth 100000
set_option maxHeartbeats 4000000
namespace L2
open PySem PySem.Spec PyProof.Rows PySem.Calls
section
variable {X:Cx}
end
end L2
namespace DL
open PySem PySem.Spec L2
section
variable {X:Cx} {Y:Y2} {W:XW} {a:Expr} {ta:TA2} {p p2 pos pos2 spos:Pos}
noncomputable def t2RetRev (ta:TA2):TS2:=fun E ρ δ=>ta E.xc ρ δ fun ds ρ1 δ1=>δ1=none∧match ds with | [d]=>(match d with | .lst xs=>∀ p,E.rt (.ref p) (some (p,xs.reverse)) | _=>False) | _=>False
end
end DL
set_option Elab.async false
set_option linter.all false
set_option maxRecDepth 100000
set_option maxHeartbeats 4000000
namespace L2
open PySem PySem.Spec PyProof.Rows PySem.Calls PySem.W
section
variable {X:Cx}
noncomputable def IsMin (ns:List Int) (m:Int):Prop:=m∈ns∧∀ n∈ns,m≤n
theorem KV.vals {kvs:List (Key×V)} {vs:List (Key×Value)} (r:KV kvs vs):Vals (kvs.map (·.2)) (vs.map (·.2)):=by
  unfold KV at r
  induction r with
  | nil=>exact .nil
  | cons h _ ih=>exact .cons h.2 ih
end
end L2
namespace DL
open PySem PySem.Spec L2
section
variable {K:Frag}
noncomputable def minLF:F1:=fun ds q=>match ds with | [d]=>(match seqD d with | some xs=>(match intsD xs with | some ns=>ns≠[]∧∀ m,IsMin ns m→q (.int m) | none=>False) | none=>False) | _=>False
end
section
variable {X:Cx} {Y:Y2} {W:XW} {x:Str} {p apos cpos p2 pos2:Pos}
noncomputable def t2LVals (i:Nat):TE2:=fun _ ρ δ q=>match dicV ρ i with | some kvs=>q (.lst (kvs.map (·.2))) ρ δ | none=>False
noncomputable def t2LenD (i:Nat):TE2:=fun _ ρ δ q=>match dicV ρ i with | some kvs=>q (.int (kvs.length:Nat)) ρ δ | none=>False
end
end DL
set_option Elab.async false
set_option linter.all false
set_option maxRecDepth 100000
set_option maxHeartbeats 4000000
namespace DL
open PySem PySem.Spec L2
theorem few_in:∀ (n:Nat) (l:List Int),l.Nodup→(∀ x∈l,0≤x∧x < (n:Int))→l.length≤n
  | 0,l,_,h=>by
    cases l with
    | nil=>exact Nat.le_refl _
    | cons a l=>have:=h a (List.mem_cons_self ..); omega
  | n + 1,l,nd,h=>by
    by_cases m:(n:Int)∈l
    · have ih:=few_in n (l.erase (n:Int)) (nd.erase _) fun x hx=>by
        have h1:=h x (List.mem_of_mem_erase hx)
        have h2:x≠(n:Int):=fun z=>by rw [z] at hx; exact nd.not_mem_erase hx
        omega
      rw [List.length_erase_of_mem m] at ih
      omega
    · have ih:=few_in n l nd fun x hx=>by
        have h1:=h x hx
        have h2:x≠(n:Int):=fun z=>m (z ▸ hx)
        omega
      omega
theorem valD_put (l:List (Key×D)) (k:Key) (v:D) (k':Key):valD (putD l k v) k'=if k'=k then some v else valD l k':=by
  unfold putD
  split
  · rename_i h
    induction l with
    | nil=>simp at h
    | cons a l ih =>
      rw [List.map_cons]
      by_cases ha:a.1=k
      · rw [if_pos ha]
        by_cases e:k'=k
        · rw [if_pos e]
          unfold valD
          rw [List.find?_cons,decide_eq_true (show a.1=k' by rw [ha,e])]
          rfl
        · rw [if_neg e]
          have ne:¬ a.1=k':=fun z=>e (z.symm.trans ha)
          have h1:∀ m:List (Key×D),valD (m.map fun kv=>if kv.1=k then (kv.1,v) else kv) k'=valD m k':=by
            intro m
            induction m with
            | nil=>rfl
            | cons b m ihm =>
              rw [List.map_cons]
              unfold valD at ihm ⊢
              rw [List.find?_cons,List.find?_cons]
              by_cases hb:b.1=k
              · rw [if_pos hb,decide_eq_false (show ¬ b.1=k' from fun z=>e (z.symm.trans hb))]; exact ihm
              · rw [if_neg hb]
                cases decide (b.1=k') with
                | true=>rfl
                | false=>exact ihm
          have:=h1 l
          unfold valD at this ⊢
          rw [List.find?_cons,List.find?_cons,decide_eq_false ne]
          exact this
      · rw [if_neg ha]
        rw [List.any_cons,decide_eq_false ha,Bool.false_or] at h
        have:=ih h
        unfold valD at this ⊢
        rw [List.find?_cons,List.find?_cons]
        by_cases e:a.1=k'
        · rw [decide_eq_true e]
          have:¬ k'=k:=fun z=>ha (e.trans z)
          rw [if_neg this]
        · rw [decide_eq_false e]; exact this
  · rename_i h
    unfold valD
    rw [List.find?_append]
    by_cases e:k'=k
    · subst e
      rw [if_pos rfl]
      have:l.find? (fun kv=>decide (kv.1=k'))=none:=by
        rw [List.find?_eq_none]
        intro x hx z
        exact h (List.any_eq_true.mpr ⟨x,hx,z⟩)
      rw [this]
      simp
    · rw [if_neg e]
      cases l.find? (fun kv=>decide (kv.1=k')) with
      | some x=>rfl
      | none=>simp [List.find?_cons,show ¬ k=k' from fun z=>e z.symm]
structure DI (l:List (Key×D)) (g:Int→Int→Prop):Prop where
  nd:(l.map (·.1)).Nodup
  all:∀ kv∈l,∃ k v:Int,kv=(.inl k,.int v)∧g k v
theorem DI.nil {g:Int→Int→Prop}:DI [] g:=⟨List.nodup_nil,fun kv h=>nomatch h⟩
theorem DI.one {g:Int→Int→Prop} {k v:Int} (h:g k v):DI [(.inl k,.int v)] g:=⟨by simp,fun kv h'=>by rw [List.mem_singleton.mp h']; exact ⟨k,v,rfl,h⟩⟩
theorem DI.put {l:List (Key×D)} {g:Int→Int→Prop} {k v:Int} (d:DI l g) (h:g k v):DI (putD l (.inl k) (.int v)) g:=by
  unfold putD
  split
  · refine ⟨?_,fun kv m=>?_⟩
    · have e:(l.map fun kv=>if kv.1=Sum.inl k then (kv.1,D.int v) else kv).map (·.1)=l.map (·.1):=by
        rw [List.map_map]
        apply List.map_congr_left
        intro a _
        show (if a.1=Sum.inl k then (a.1,D.int v) else a).1=a.1
        split <;> rfl
      rw [e]
      exact d.nd
    · obtain ⟨a,ha,rfl⟩:=List.mem_map.mp m
      split
      · rename_i e
        exact ⟨k,v,by rw [e],h⟩
      · exact d.all a ha
  · rename_i hn
    refine ⟨?_,fun kv m=>?_⟩
    · rw [List.map_append,List.nodup_append]
      refine ⟨d.nd,by simp,fun a ha b hb e=>?_⟩
      obtain ⟨c,hc,rfl⟩:=List.mem_map.mp ha
      have hb:b=Sum.inl k:=by simpa using hb
      exact hn (List.any_eq_true.mpr ⟨c,hc,decide_eq_true (e.trans hb)⟩)
    · rcases List.mem_append.mp m with m | m
      · exact d.all kv m
      · rw [List.mem_singleton.mp m]; exact ⟨k,v,rfl,h⟩
theorem val_mem {l:List (Key×D)} {k:Key} {d:D} (h:valD l k=some d):(k,d)∈l:=by
  unfold valD at h
  obtain ⟨a,h1,h2⟩:=Option.map_eq_some_iff.mp h
  have e:=List.find?_some h1
  have m:=List.mem_of_find?_eq_some h1
  rw [← h2,← of_decide_eq_true e]
  exact m
theorem DI.get {l:List (Key×D)} {g:Int→Int→Prop} {k:Int} {e:D} (d:DI l g) (h:valD l (.inl k)=some e):∃ v,e=.int v∧g k v:=by
  obtain ⟨k',v,q,r⟩:=d.all _ (val_mem h)
  cases q
  exact ⟨v,rfl,r⟩
end DL
set_option Elab.async false
set_option linter.all false
set_option maxRecDepth 100000
set_option maxHeartbeats 4000000
namespace L2
open PySem PySem.Spec PyProof.Rows PySem.Calls
section
variable {prog:Program} {w:World} {A:Around} {E:Value→Shared→Prop} {I:Addr} {fp wr:List Addr} {n:Nat} {P:Nat→Value→Prop} {St:Nat→Heap→Prop}
end
section
variable {prog:Program} {w:World} {A:Around} {E:Value→Shared→Prop} {s:Shared}
end
section
variable {X:Cx} {pos:Pos}
end
end L2
namespace DL
open PySem PySem.Spec L2
noncomputable def g2L (is:List Nat):G2:=fun d ρ=>match d with | .lst ds=>setAll is ds ρ | _=>none
end DL
set_option Elab.async false
set_option linter.all false
set_option maxRecDepth 100000
set_option maxHeartbeats 4000000
namespace L2
open PySem PySem.Spec PyProof.Rows
section
variable {X:Cx}
end
end L2
namespace DL
open PySem PySem.Spec L2
noncomputable def eqL:F2:=fun d1 d2 q=>match d1,d2 with | .lst xs,.lst ys=>(xs.all flatD && ys.all flatD)=true∧q (.bl (eqDs xs ys)) | _,_=>False
end DL
set_option Elab.async false
set_option linter.all false
set_option maxRecDepth 100000
set_option maxHeartbeats 4000000
namespace L2
open PySem PySem.Spec PyProof.Rows
section
variable {X:Cx} {pins:List (Addr×Obj)} {σ:St} {H:Hp} {s:Shared}
end
end L2
namespace DL
open PySem PySem.Spec L2
noncomputable def eqR:D→D→Option Bool
  | .tup xs,.tup ys=>if (xs.all flatD && ys.all flatD)=true then some (eqDs xs ys) else none
  | .lst xs,.lst ys=>if (xs.all flatD && ys.all flatD)=true then some (eqDs xs ys) else none
  | x,y=>if (flatD x && flatD y)=true then some (eqV (toV x) (toV y)) else none
noncomputable def eqRs:List D→List D→Option Bool
  | [],[]=>some true
  | x :: xs,y :: ys=>match eqR x y,eqRs xs ys with | some a,some b=>some (a && b) | _,_=>none
  | [],_ :: _=>some false
  | _ :: _,[]=>some false
noncomputable def eqRF (neg:Bool):F2:=fun d1 d2 q=>match d1,d2 with
  | .lst xs,.lst ys=>(match eqRs xs ys with | some r=>q (.bl (if neg=true then !r else r)) | none=>False)
  | .tup xs,.tup ys=>(match eqRs xs ys with | some r=>q (.bl (if neg=true then !r else r)) | none=>False)
  | _,_=>False
end DL
set_option Elab.async false
set_option linter.all false
set_option maxRecDepth 100000
set_option maxHeartbeats 4000000
namespace L2
open PySem PySem.Spec PyProof.Rows PySem.Calls
section
variable {X:Cx}
theorem entry_dii:entryFor table "dict_itemiterator.__iter__" = some Builtin.«dict_keyiterator.__iter__» :=
  entryFor_alias (id' := "dict_keyiterator.__iter__") (by kernel_rfl) (by first | decide +kernel | rfl) (by decide +kernel) (by kernel_rfl)
theorem iter_dii {it d:Addr} {i n ep:Nat} {ok ov:Value} {prog:Program} {w:World} {A:Around} {E:Value→Shared→Prop} {s:Shared} {Q:Value→Shared→Prop} (e:IsItemIter s.heap it d i n ep ok ov) (h:Q (.ref it) s):wpAny (model prog w) A (pyIter (.ref it)) Q E s:=by
  have t:s.TypeIs (.ref it) "dict_itemiterator" := ⟨_,e,rfl⟩
  refine wpAny_pyIter_slot t PySem.F.slot_dict_itemiterator_iter (wpAny_call_entry PySem.F.slot_dict_itemiterator_iter t entry_dii ?_ (PySem.F.args_dict_itemiterator_iter_1 _))
  show wpAny (model prog w) _ (ret (.ref it)) _ _ _
  exact wpAny_pure ⟨_,rfl,"dict_itemiterator",_,t,PySem.F.slot_dict_itemiterator_next.lookup,h⟩
noncomputable def Iti (a:Addr) (o:Obj) (kvs:List (Key×V)):It :=
  ⟨fun i H=>H a=some (.frz o (.dK kvs))∧i < kvs.length,fun i H v H'=>∃ p k x,H p=none∧v=.ref p∧H'=upd H p (.tup [kV k,x])∧kvs[i]?=some (k,x),fun i H=>H a=some (.frz o (.dK kvs))∧kvs.length=i⟩
theorem turn_items {P:Program} {w:World} {K:PySem.W.Frag} {elts:List Expr} {x1} {pos:Pos} (a it:Addr) (o:Obj) (kvs:List (Key×V)) (ep:Nat) (hd:∃ es,o.data=.dict es ep) :
    Turn P w K (.Tuple elts x1 pos) (Iti a o kvs) [it] it (fun i h=>∃ ok ov,IsItemIter h it a i kvs.length ep ok ov) where
  mem:=by simp
  obj:=fun i h st b hb=>by
    have e:b=it:=by simpa using hb
    subst e
    obtain ⟨ok,ov,e⟩:=st
    exact ⟨_,e,fun v z=>by simp at z⟩
  keep:=fun i h h' st k=>let ⟨ok,ov,e⟩:=st; ⟨ok,ov,k it (by simp) _ e⟩
  item:=by
    intro X hP hw hK hc i pins s σ H E I hf st hg
    subst hP hw hK
    obtain ⟨e,hi⟩:=hg
    obtain ⟨es,hd⟩:=hd
    obtain ⟨hs,vs,rel,hm⟩:=frz_at I e hd
    have hl:=rel.length
    obtain ⟨ok,ov,hit⟩:=st
    have hi2:i < vs.length:=by omega
    rw [hl] at hit
    obtain ⟨ek,rv⟩:kvs[i].1=vs[i].1∧RelV kvs[i].2 vs[i].2:=by
      have h1:=rel.keys
      have h2:(kvs.map (·.1))[i]?=(vs.map (·.1))[i]?:=by rw [h1]
      rw [List.getElem?_map,List.getElem?_map,List.getElem?_eq_getElem hi,List.getElem?_eq_getElem hi2] at h2
      have h3:=rel.vals
      obtain ⟨u,hu,ru⟩:=h3.get (show (kvs.map (·.2))[i]?=some kvs[i].2 by rw [List.getElem?_map,List.getElem?_eq_getElem hi]; rfl)
      rw [List.getElem?_map,List.getElem?_eq_getElem hi2] at hu
      cases hu
      exact ⟨Option.some.inj h2,ru⟩
    refine wpAny_pyNext_items_item hit hm (k:=vs[i].1) (v:=vs[i].2) (by rw [List.getElem?_eq_getElem hi2]) fun key h' hkey ho hT' hsz kk=>⟨_,rfl,?_⟩
    refine wpAny_letOwnedTupleGo_items (s:={ s with heap:=h' }) ho fun h₂ he₂ hs₂=>?_
    replace hs₂:Heap.SameBut it h' h₂:=hs₂
    have hfr:H s.heap.objs.size=none:=I.hok.fresh (Nat.le_refl _)
    have Il:Inv X pins σ (upd H s.heap.objs.size (.tup [kV kvs[i].1,kvs[i].2])) { s with heap:=s.heap.push { cls:=.type "tuple",data:=.seq #[key,vs[i].2] } }:=I.laid (t':=s.toks) (fun b u e=>Heap.get?_push_of_some _ e) (Nat.le_refl _)
      ⟨by show 2≤sizeLine; decide,[key,vs[i].2],.cons (is_kV (by rw [ek]; exact hkey)) (.cons rv .nil),⟨_,Heap.get?_push_size _ rfl,rfl,_,rfl⟩⟩
    have nT:∀ c∈[it],c≠s.heap.objs.size:=fun c hc=>by
      have hc':c=it:=by simpa using hc
      subst hc'
      exact Nat.ne_of_lt (Heap.lt_size hit)
    have hn2:∀ c∈[it],upd H s.heap.objs.size (.tup [kV kvs[i].1,kvs[i].2]) c=none:=fun c hc=>by rw [upd_ne (nT c hc)]; exact (hf c hc).1
    have If:Inv X pins σ (upd H s.heap.objs.size (.tup [kV kvs[i].1,kvs[i].2])) { s with heap:=h₂ }:=Inv.turnedL (s:={ s with heap:=s.heap.push { cls:=.type "tuple",data:=.seq #[key,vs[i].2] } }) (ch:=[it]) (h':=h₂) (t':=s.toks) Il (fun c o hc q=>by
      have hc':c≠it:=by simpa using hc
      rcases Heap.get?_push_cases q with ⟨rfl,rfl⟩ | q
      · exact hs₂.extBut _ _ hc' hT'
      · exact hs₂.extBut _ _ hc' (kk c o hc' q)) fun c hc=>⟨hn2 c hc,(hf c hc).2⟩
    exact ⟨.ref s.heap.objs.size,_,If,rfl,⟨s.heap.objs.size,kvs[i].1,kvs[i].2,hfr,rfl,rfl,by rw [List.getElem?_eq_getElem hi]⟩,⟨_,_,by rw [hl]; exact he₂⟩,hn2⟩
  done:=by
    intro X hP hw hK hc i pins s σ H E I hf st hg
    subst hP hw hK
    obtain ⟨e,hi⟩:=hg
    obtain ⟨es,hd⟩:=hd
    obtain ⟨hs,vs,rel,hm⟩:=frz_at I e hd
    have hl:=rel.length
    obtain ⟨ok,ov,hit⟩:=st
    obtain ⟨f0,f1,f2,f3,f4,f5⟩:=hf it (by simp)
    rw [hl] at hit
    exact wpAny_pyNext_items_end (I.ok.hd hc) hit hm (by rw [List.getElem?_eq_none]; omega) fun h' eb=>⟨rfl,I.turned (t':=s.toks) (fun b o hb e=>eb b o hb e) f0 f1 f3 f4 f5⟩
  self:=fun _ _ _ _ _ st h=>let ⟨_,_,e⟩:=st; iter_dii e h
noncomputable def iItems (tl:TE):TI:=fun σ H R=>tl σ H fun x H1=>∃ a o kvs,x=.ref a∧H1 a=some (.frz o (.dK kvs))∧R (Iti a o kvs) H1
theorem pi_items {o:Expr} {tl:TE} {elts:List Expr} {x1} {pos apos cpos:Pos} (ho:PE X o tl) (hbase:attributeBase o "items" X.env (eval o X.env)=eval o X.env:=by rfl) (hline:(apos.endLine == cpos.line)=true:=by rfl) :
    PI X (.Tuple elts x1 pos) (.Call (.Attribute o "items" apos) [] [] cpos) (iItems tl):=by
  intro pins s σ H R I h
  refine wpAny_Call_method0_late hbase hline (thn (ho pins s σ H _ I h) fun v s1 ⟨x,H1,I1,r1,a,ob,kvs,e,hq,q⟩=>?_)
  subst e
  cases (show v=Value.ref a from r1)
  have rd:Rd H1 a (.dK kvs):=.inr ⟨ob,hq⟩
  obtain ⟨t1,t2,hsm⟩:=isD_at I1 (.inl ⟨kvs,rd⟩)
  obtain ⟨hz,_,vs,rel,dd⟩:=dk_rd I1.hok rd
  refine ⟨"dict","dict.items",PySem.F.plainAttrs_dict,PySem.F.slot_dict_items,PySem.F.type_dict_items,t1,t2,Calls.callWith_builtin rfl (PySem.evalArgs_none ?_)⟩
  refine call_meetsIn PySem.F.slot_dict_items dd.typeIs PySem.F.entry_dict_items (PySem.F.args_dict_items_1 _) (meets_dict_items (mixKind X.prog X.w) a hsm) ⟨⟨vs,dd⟩,?_⟩
  obtain ⟨ho2,_,_,vs0,_,hm0⟩:=(show s1.heap.get? a=some ob∧kvs.length≤sizeLine∧(a == sysModules)=false∧∃ vs,KV kvs vs∧s1.heap.DictOf (mixKind X.prog X.w) a vs from I1.hok a _ hq)
  obtain ⟨ep,o',es,ho',_,hd,_⟩:=hm0.dictAt
  rw [ho2] at ho'
  cases ho'
  obtain ⟨hs,vs2,rel2,hm⟩:=frz_at I1 hq hd
  refine wpAny_pyIter_items (knd:=mixKind X.prog X.w) ⟨_,Heap.get?_push_size _ rfl,rfl,rfl⟩ (hm.push _) ?_
  have I2:Inv X pins σ H1 { s1 with heap:=s1.heap.push { cls:=.type "dict_items",data:=.fields #[.ref a] } }:=I1.kept (t':=s1.toks) fun b o e=>Heap.get?_push_of_some _ e
  refine ⟨(s1.heap.push { cls:=.type "dict_items",data:=.fields #[.ref a] }).objs.size,[_],_,_,H1,rfl,I2.kept (t':=s1.toks) fun b o e=>Heap.get?_push_of_some _ e,turn_items a _ ob kvs ep ⟨es,hd⟩,⟨_,_,by rw [rel2.length]; exact Heap.get?_push_size _ rfl⟩,fun b hb=>?_,q⟩
  have e:b=(s1.heap.push { cls:=.type "dict_items",data:=.fields #[.ref a] }).objs.size:=by simpa using hb
  subst e
  exact I2.fpOk (Nat.le_refl _) (I2.hok.fresh (Nat.le_refl _))
end
end L2
namespace DL
open PySem PySem.Spec L2
section
variable {X:Cx} {Y:Y2} {W:XW} {te:TE2} {K:Frag}
noncomputable def pairK (kv:Key×D):D:=.tup [keyD kv.1,kv.2]
noncomputable def t2Items (te:TE2):TI2:=fun x ρ δ q=>te x ρ δ fun d ρ1 δ1=>match d with | .dwk kvs=>q (kvs.map pairK) ρ1 δ1 | _=>False
theorem i2_items {o:Expr} {elts:List Expr} {x1} {pos apos cpos:Pos} (hl:PE2 X Y W o te) (hbase:attributeBase o "items" X.env (eval o X.env)=eval o X.env:=by rfl) (hline:(apos.endLine == cpos.line)=true:=by rfl) :
    PI2 X Y W (.Tuple elts x1 pos) (.Call (.Attribute o "items" apos) [] [] cpos) (t2Items te):=pi2 (pi_items hl.go hbase hline) fun σ H R ⟨F,ρ,δ,x,q,I,h,k,kx⟩=>by
  refine ⟨F,ρ,δ,x,_,I,h,fun d v F' H' ρ' δ' I' s' r' h'=>?_,kx⟩
  split at h'
  · rename_i kvs
    obtain ⟨a,o,us,rfl,e2,z⟩:=rep_dwk.mp r'
    have hl:=RepK.length z
    refine ⟨a,o,us,rfl,I'.sub _ _ e2,k _ _ F' H' ρ' δ' I' s' ⟨fun i d F2 H2 e s1 s2=>⟨⟨s2 _ _ (s1 _ _ e2),?_⟩,fun u H3 y=>?_⟩,fun F2 H2 s1 s2=>⟨s2 _ _ (s1 _ _ e2),by rw [List.length_map]; exact hl⟩⟩ h'⟩
    · have:=(List.getElem?_eq_some_iff.mp e).1
      rw [List.length_map] at this
      omega
    · obtain ⟨p,kk,xx,hp,rfl,rfl,e3⟩:=y
      obtain ⟨dd,e4,r4⟩:=RepK.get z i kk xx e3
      rw [List.getElem?_map,e4] at e
      cases e
      exact .inr ⟨p,_,_,hp,rfl,rfl,rfl,Reps.cons (rep_key kk) (Reps.cons (r4.mono s1) Reps.nil)⟩
  · exact h'.elim
end
section
variable {K:Frag}
noncomputable def bigD (ns:List Int):Prop:=(∀ n∈ns,0≤n)∧ns.sum < 2 ^ 63
theorem take_le:∀ (ns:List Int) (j:Nat),(∀ n∈ns,0≤n)→0≤(ns.take j).sum∧(ns.take j).sum≤ns.sum
  | [],j,_=>by simp
  | n :: ns,0,h=>by
    have h2:=take_le ns ns.length fun z hz=>h z (List.mem_cons_of_mem _ hz)
    rw [List.take_length] at h2
    have:=h n (List.mem_cons_self ..)
    simp
    omega
  | n :: ns,j + 1,h=>by
    have h2:=take_le ns j fun z hz=>h z (List.mem_cons_of_mem _ hz)
    have:=h n (List.mem_cons_self ..)
    rw [List.take_succ_cons,List.sum_cons,List.sum_cons]
    omega
theorem mem_le_sum:∀ {ns:List Int} {n:Int},(∀ n∈ns,0≤n)→n∈ns→n≤ns.sum
  | a :: ns,n,h,m=>by
    have h1:=h a (List.mem_cons_self ..)
    have h2:=take_le ns ns.length fun z hz=>h z (List.mem_cons_of_mem _ hz)
    rw [List.take_length] at h2
    rw [List.sum_cons]
    rcases List.mem_cons.mp m with rfl | m
    · omega
    · have:=mem_le_sum (fun z hz=>h z (List.mem_cons_of_mem _ hz)) m
      omega
theorem big_fits {ns:List Int} (h:bigD ns):sumFits ns:=fun j hj=>by
  have e:ns.getD j 0∈ns:=by
    rw [List.getD_eq_getElem?_getD,List.getElem?_eq_getElem hj]
    exact List.getElem_mem hj
  have h1:=h.1 _ e
  have h2:=mem_le_sum h.1 e
  have h3:=take_le ns (j + 1) h.1
  have h4:=h.2
  rw [preSum_take]
  constructor
  · unfold InLong; omega
  · unfold InLong; omega
noncomputable def sumB:F1:=fun ds q=>match ds with | [d]=>(match seqD d with | some xs=>(match intsD xs with | some ns=>bigD ns∧q (.int ns.sum) | none=>False) | none=>False) | _=>False
theorem d_sumB:CallD K (rSum K) sumB:=by
  intro Y F H σ ρ δ vs ds Q1 q I r h' k
  unfold sumB at h'
  split at h'
  · split at h'
    · split at h'
      · rename_i xs e _ ns en
        obtain ⟨v,rfl,r1⟩:=reps1 r
        obtain ⟨a,us,b,rfl,sq,z⟩:=seqD_q e r1
        exact ⟨b,a,ns,rfl,by rw [← ints_v en z]; exact I.sub.sq sq,big_fits h'.1,k _ _ F H I (Same.refl F) (rep_int.mpr rfl) h'.2⟩
      · exact h'.elim
    · exact h'.elim
  · exact h'.elim
end
section
variable {X:Cx} {Y:Y2} {W:XW} {e:Expr} {te:TE2} {x:Str} {pos pos':Pos}
noncomputable def t2AugM (i:Nat) (te:TE2):TS2:=fun E ρ δ=>rdV ρ i fun d1 ρ0=>te E.xc ρ0 δ fun d2 ρ1 δ1=>match d1,d2 with | .int a,.int b=>CMul a b∧E.nx (ρ1.set i (.val (.int (a * b)))) δ1 | _,_=>False
theorem s2_augM (i:Nat) (hN:X.N.Nodup) (he:PE2 X Y W e te) (hi:X.N[i]?=some x:=by rfl) (hx:Loc X.env.scope x:=by walk_at "v2") (hf:X.fn x=true∨X.env.scope.names.lookup x=some .local:=by walk_at "v1") :
    PS2 X Y W (.AugAssign (.Name x pos') .Mult e pos) (t2AugM i te):=ps2 (ps_aug (i:=i) (ti:=rI CMul fun i j=>.int (i * j)) hN hi hx he.go iop_mul hf) fun E1 σ H ⟨F,ρ,δ,E2,I,h,er⟩=>by
  obtain ⟨d1,v1,F0,ρ0,e1,I0,s0,r1,h⟩:=rd_use I h
  refine ⟨v1,e1,F0,ρ0,δ,E2.xc,_,I0,h,fun d2 v2 F1 H1 ρ1 δ1 I1 s1 r2 h1=>?_,er.xc.mono s0⟩
  split at h1
  · exact ⟨_,_,rep_int.mp r1,rep_int.mp r2,h1.1,er.nx _ F1 H1 _ δ1 (I1.put (rep_int.mpr rfl)) (s0.trans s1) h1.2⟩
  · exact h1.elim
end
end DL
set_option Elab.async false
set_option linter.all false
set_option maxRecDepth 100000
namespace HD
open PySem PySem.W PyProof.Rows PySem.Calls
noncomputable abbrev N:Value:=.none
noncomputable abbrev r (a:Nat):Value:=.ref a
noncomputable abbrev s (x:String) (t:Nat):Value:=.str (Str.ofString x) t
noncomputable abbrev i (n:Int) (t:Nat):Value:=.int n t
noncomputable abbrev b (x:Bool):Value:=.bool x
noncomputable abbrev ty (x:String):Value:=.type x
noncomputable abbrev bi (x:String):Value:=.builtin x
noncomputable abbrev ob (c:Value) (d:Data):Obj:={ cls:=c,data:=d }
noncomputable abbrev tp (l:List Value):Obj:=ob (.type "tuple") (.seq ⟨l⟩)
noncomputable abbrev fl (c:Value) (l:List Value):Obj:=ob c (.fields ⟨l⟩)
noncomputable abbrev en (P:Params) (x:String) (t:Nat) (v:Value):DictEntry:=⟨PyData.keyHash P (Str.ofString x),.str (Str.ofString x) t,v⟩
noncomputable abbrev di (l:List DictEntry) (n:Nat):Obj:=ob (.type "dict") (.dict ⟨l⟩ n)
noncomputable abbrev fn (c:Value) (n q:String) (st:Stmt) (g:Nat) (m cd:Value):Obj :=
  ob c (.func { name:=Str.ofString n,qualname:=Str.ofString q,params:=L2.defArgs st,body:=.stmts (L2.defBody st),scope:=L2.defScope st,globals:=g,closure:=[],defaults:=.none,kwdefaults:=.none,pyModule:=m,code:=cd })
noncomputable abbrev co (n:String) (bs mro:List Value) (ns:Nat) (q:String) (hd hl:Bool) (subs:List Value) (sl:List (Option Value)):Obj:={ cls:=.type "type",data:=.cls { name:=Str.ofString n,bases:=bs,mro:=mro,ns:=ns,qualname:=Str.ofString q,hasDict:=hd,hasDel:=hl,subclasses:=subs },slots:=⟨sl⟩ }
noncomputable def x (g:Params→List Obj) (i:Nat) (P:Params):Obj:=(g P).getD i default
noncomputable def insT (t:BT):Nat→Obj→BT :=
  @BT.rec (fun _=>Nat→Obj→BT) (fun _ o=>.node o .nil .nil)
    (fun v l r ihl ihr i o=>@Bool.rec (fun _=>BT) (@Bool.rec (fun _=>BT) (.node v l (ihr (i / 2 - 1) o)) (.node v (ihl (i / 2) o) r) (Nat.beq (i % 2) 1)) (.node o l r) (Nat.beq i 0)) t
noncomputable def insL (l:List Obj):Nat→BT→BT :=
  @List.rec Obj (fun _=>Nat→BT→BT) (fun _ t=>t) (fun o _ ih n t=>ih (Nat.succ n) (insT t n o)) l
noncomputable def setL (l:List (Nat×Obj)):BT→BT :=
  @List.rec (Nat×Obj) (fun _=>BT→BT) (fun t=>t) (fun p _ ih t=>ih (insT t p.1 p.2)) l
section
variable {p:Program} {w:World} {n₀:Nat} {ann:Option Value} {bb n:Nat} {st:SharedT} {l:List Stmt} {env:Env} {c:Code} {q:Pos} {B:List Frame} {rr:Option (Flow×SharedT×Code×Pos)}
theorem turnSeg (h:PySem.W.Fast.tw10110043849684766642 PySem.W.Fast.tw14364793385576792824 p w n₀ ann bb n st ⟨(PySem.W.Fast.tw12563942051412417395 l env).wrap doneF deadEnd id id,c,q,B⟩=rr) :
    segRunT treeTable p w n₀ ann bb n st (piecesOf l env c q B)=rr:=by
  unfold piecesOf
  rw [PySem.W.Fast.te10110043849684766642,PySem.W.Fast.te14364793385576792824,PySem.W.Fast.te12563942051412417395]
  exact h
theorem turnGo {s:Shared} {t:Thread} {r:Option (Shared×Thread)} (h:PySem.W.Fast.tw15667345088766844465 PySem.W.Fast.tw14364793385576792824 p w n₀ ann n s t=r):topGo treeTable p w n₀ ann n s t=r:=by
  rw [PySem.W.Fast.te15667345088766844465,PySem.W.Fast.te14364793385576792824]
  exact h
theorem turnRun {s:Shared} {t:Thread} {r:Option Shared} (h:PySem.W.Fast.tw14082659384304107361 PySem.W.Fast.tw14364793385576792824 p w n₀ ann n s t=r):topRun treeTable p w n₀ ann n s t=r:=by
  rw [PySem.W.Fast.te14082659384304107361,PySem.W.Fast.te14364793385576792824]
  exact h
theorem turnBlock {s:Shared} {r:Option (Flow×Shared×Code×Pos)} (h:PySem.W.Fast.tw14374325043358763698 PySem.W.Fast.tw14364793385576792824 p w n₀ ann bb n s ⟨(PySem.W.Fast.tw1066825118222455980 l env).wrap (fun _=>doneF .next) deadEnd id id,c,q,B⟩=r) :
    segRun treeTable p w n₀ ann bb n s (blockOf l env c q B)=r:=by
  unfold blockOf
  rw [PySem.W.Fast.te14374325043358763698,PySem.W.Fast.te14364793385576792824,PySem.W.Fast.te1066825118222455980]
  exact h
theorem piece_block' {N:Nat} {s s' r:Shared} {b b':List Stmt} {pos p' q:Pos} (e:b=b') (h:segRun treeTable p w n₀ ann 1 n s (blockOf b env c pos [topFrame q])=some (.next,s',c,p'))
    (k:topRun treeTable p w n₀ ann N s' (restOf b' env c p' [topFrame q])=some r):topRun treeTable p w n₀ ann (n + N) s ⟨denote treeTable (.body b env),c,pos,[topFrame q]⟩=some r:=by
  subst e; exact piece_block h k
end
noncomputable def FnF (K:PySem.W.Frag) (x:Str) (st:Stmt):Prop:=∃ f fd,PySem.W.nsIn K mainGlobals x=some (some (.ref f))∧L2.Fun K x x st f fd
theorem FnF.at {K:PySem.W.Frag} {h:Heap} {mg:Str→Option Value} {x:Str} {st:Stmt} (F:FnF K x st) (X:K.In h) (G:h.Ns mainGlobals mg) {ps:List Str}
    (b:∀ (kV doc pm:Value) (an:Option Addr) (cdv ct:Value) (us:List Value),us.length=ps.length→bindArgs (PySem.W.fnOf x x (L2.defArgs st) (L2.defBody st) (L2.defScope st) .none kV doc pm an cdv ct) ⟨us,[]⟩=pure (ps.zip us)):∃ f fd,L2.DefAt K mg x st ps f fd:=by
  obtain ⟨f,fd,a,u⟩:=F
  exact ⟨f,fd,u,PySem.W.mg_of X G a,u.binds b⟩
noncomputable def XMkF (K:PySem.W.Frag) (C:Addr) (q:Str) (st:Stmt):Prop:=∃ f fd,L2.XMk K C f∧L2.Fun K "__init__" q st f fd
noncomputable def MkF (K:PySem.W.Frag) (C:Addr) (q:Str) (st:Stmt):Prop:=∃ f fd,L2.Mk K C f∧L2.Fun K "__init__" q st f fd
end HD
set_option Elab.async false
set_option linter.all false
set_option maxRecDepth 100000
set_option maxHeartbeats 8000000
namespace K28
open PySem L2 DL
open PySem.W (XC)
local macro_rules | `(tactic| walk_at "dl")=>do
  let ids:=("atI_lit ixN_lit Nat.reduceAdd Nat.reduceLT Nat.reduceLeDiff Nat.reduceSub Nat.zero_add t2Next t2Seq t2Break t2Cont t2Drop t2Ret t2RetN t2IfS t2Set t2Own t2OwnL t2IxV t2LenV t2SetV t2MV t2MV0 t2Aug t2Fld t2XFld t2Self t2Call t2Raise0 t2Raise1 t2Raise2 t2Exc1 t2Exc2 t2H0 t2H t2HAs t2Try noX asE t2For forL compL captC capt List.map_cons List.map_nil t2Is t2R1 t2R2 t2Comp t2OwnC t2RetDk t2Count t2C t2V t2Nil t2Cons t2Lst t2Tup t2Op t2B t2Not t2And t2Or t2AndV t2OrV t2NotV t2If t2Chain t2Bi t2Un rdV hasV seqV mutV ixQ seqD addF addG sumF eqG neG t2Sl slF t2ON t2OI lrQ insertM t2LR t2OwnLR t2TR t2Unp sortIF t2Zip t2Enu t2CompM t2OwnM compM_L t2True t2BNil t2BV t2BO t2CallB argB argsB tgD fI fI0 eqF neF eqD isNF notNF isNonD isBF notBF ixF inF notInF lenF absF minF maxF intF listF tupleF allF instF subF mulF fdivF modF powF ltF leF gtF geF repF g2N g2T setAll appendM popM List.getElem?_cons_zero List.getElem?_cons_succ List.set_cons_zero List.set_cons_succ List.length_cons List.length_nil List.lookup_cons if_true if_false Bool.false_eq_true Bool.not_true Bool.not_false decide_eq_true_eq if_pos ite_true ite_false true_and and_true List.cons_append List.nil_append repAF maxLF strF addS addH t2AugV t2OwnRep t2MaxV neL t2OwnD0 t2PutD t2GetD t2IxD dicV t2VD t2DicV t2Keys keyD minLF t2LVals t2LenD t2RetRev g2L eqL eqRF t2Items pairK sumB t2AugM".splitOn " ").toArray.map fun s=>Lean.mkIdent s.toName
  let args ← ids.mapM fun i=>`(Lean.Parser.Tactic.simpLemma| $i:ident)
  `(tactic| simp only [reduceIte,↓reduceIte,$args,*])
local macro_rules | `(tactic| walk_at "dn")=>do
  let ids:=("atI_lit ixN_lit Nat.reduceAdd Nat.reduceLT Nat.reduceLeDiff Nat.reduceSub Nat.zero_add t2Next t2Seq t2Break t2Cont t2Drop t2Ret t2RetN t2IfS t2Set t2Own t2OwnL t2IxV t2LenV t2SetV t2MV t2MV0 t2Aug t2Fld t2XFld t2Self t2Call t2Raise0 t2Raise1 t2Raise2 t2Exc1 t2Exc2 t2H0 t2H t2HAs t2Try noX asE t2For captC capt List.map_cons List.map_nil t2Is t2R1 t2R2 t2Comp t2OwnC t2RetDk t2Count t2C t2V t2Nil t2Cons t2Lst t2Tup t2Op t2B t2Not t2And t2Or t2AndV t2OrV t2NotV t2If t2Chain t2Bi t2Un rdV hasV seqV mutV ixQ seqD addF addG sumF eqG neG t2Sl slF t2ON t2OI lrQ insertM t2LR t2OwnLR t2TR t2Unp sortIF t2Zip t2Enu t2CompM t2OwnM compM_L t2True t2BNil t2BV t2BO t2CallB argB argsB tgD fI fI0 eqF neF eqD isNF notNF isNonD isBF notBF ixF inF notInF lenF absF minF maxF intF listF tupleF allF instF subF mulF fdivF modF powF ltF leF gtF geF repF g2N g2T setAll appendM popM List.getElem?_cons_zero List.getElem?_cons_succ List.set_cons_zero List.set_cons_succ List.length_cons List.length_nil List.lookup_cons if_true if_false Bool.false_eq_true Bool.not_true Bool.not_false decide_eq_true_eq if_pos ite_true ite_false true_and and_true List.cons_append List.nil_append repAF maxLF strF addS addH t2AugV t2OwnRep t2MaxV neL t2OwnD0 t2PutD t2GetD t2IxD dicV t2VD t2DicV t2Keys keyD minLF t2LVals t2LenD t2RetRev g2L eqL eqRF t2Items pairK sumB t2AugM".splitOn " ").toArray.map fun s=>Lean.mkIdent s.toName
  let args ← ids.mapM fun i=>`(Lean.Parser.Tactic.simpLemma| $i:ident)
  `(tactic| simp only [reduceIte,↓reduceIte,$args,*])
noncomputable def top (i:Nat):Stmt:=PySem.Challenge.pw_wearplan_k28_chances_of_fall.main.body.getD i (.Pass ⟨0,0,0,0⟩)
noncomputable abbrev s_is_number:Stmt:=top 7
noncomputable abbrev s_is_whole:Stmt:=top 8
noncomputable abbrev s_is_row:Stmt:=top 9
noncomputable abbrev s_is_whole_row:Stmt:=top 10
noncomputable abbrev s_is_rising_row:Stmt:=top 11
noncomputable abbrev s_is_stand:Stmt:=top 13
noncomputable abbrev s_check_stand:Stmt:=top 14
noncomputable abbrev s_total_of:Stmt:=top 18
noncomputable abbrev s_cases_of:Stmt:=top 19
noncomputable abbrev s_weights_of:Stmt:=top 20
noncomputable abbrev s_lose_once:Stmt:=top 21
noncomputable abbrev s_weights_behind:Stmt:=top 22
noncomputable abbrev s_chance_of_fall:Stmt:=top 23
noncomputable abbrev s_law_cell:Stmt:=top 25
noncomputable abbrev s_law_draw:Stmt:=top 26
noncomputable abbrev s_law_deck:Stmt:=top 27
noncomputable abbrev s_law_take:Stmt:=top 28
noncomputable abbrev s_law_number:Stmt:=top 29
noncomputable abbrev s_law_row:Stmt:=top 30
noncomputable abbrev s_law_spec:Stmt:=top 31
noncomputable abbrev s_law_due:Stmt:=top 32
noncomputable abbrev s_law_all:Stmt:=top 33
noncomputable abbrev s_law_refused:Stmt:=top 34
noncomputable abbrev s_law_refusals:Stmt:=top 35
noncomputable abbrev s_law:Stmt:=top 36
noncomputable abbrev s_NoPart_init:Stmt:=inClass (top 2) 0
noncomputable abbrev s_NoPlan_init:Stmt:=inClass (top 5) 0
noncomputable abbrev s_Shared_init:Stmt:=inClass (top 17) 0
structure Cs where
  W:Addr
  Shared:Addr
  NoPart:Addr
  NoStands:Addr
  NoRounds:Addr
  NoPlan:Addr
noncomputable def Cs.ds (c:Cs):List Addr:=[c.NoPart,c.NoStands,c.NoRounds,c.NoPlan]
structure Txt (K:PySem.W.Frag) (mg:Str→Option Value) (cs:Cs):Prop where
  n_ValueError:mg "ValueError" = none
  n_abs:mg "abs" = none
  n_all:mg "all" = none
  n_bool:mg "bool" = none
  n_enumerate:mg "enumerate" = none
  n_int:mg "int" = none
  n_isinstance:mg "isinstance" = none
  n_len:mg "len" = none
  n_list:mg "list" = none
  n_max:mg "max" = none
  n_range:mg "range" = none
  n_sorted:mg "sorted" = none
  n_str:mg "str" = none
  n_sum:mg "sum" = none
  n_tuple:mg "tuple" = none
  n_zip:mg "zip" = none
  g_MOST_ROUNDS_HERE:∃ t,mg "MOST_ROUNDS_HERE" = some (.int 12 t)
  c_WearError:mg "WearError" = some (.ref cs.W)
  h_WearError:XHd K cs.W
  c_Shared:mg "Shared" = some (.ref cs.Shared)
  cl_Shared:ClsI K cs.Shared
  kn_Shared:KNo K cs.Shared
  f_Shared_full:NoAttr K cs.Shared "full"
  f_Shared_mark:NoAttr K cs.Shared "mark"
  f_Shared_shares:NoAttr K cs.Shared "shares"
  err:∀ D∈cs.ds,ErrC K cs.W D
  ne:∀ D∈cs.ds,D≠cs.W
  nd:cs.ds.Nodup
  c_NoPart:mg "NoPart" = some (.ref cs.NoPart)
  h_NoPart:XHd K cs.NoPart
  x_NoPart:xcIn K cs.NoPart=true
  a_NoPart_at:NoAttr K cs.NoPart "at"
  c_NoStands:mg "NoStands" = some (.ref cs.NoStands)
  h_NoStands:XHd K cs.NoStands
  x_NoStands:xcIn K cs.NoStands=true
  k_NoStands:XMk0 K cs.NoStands
  c_NoRounds:mg "NoRounds" = some (.ref cs.NoRounds)
  h_NoRounds:XHd K cs.NoRounds
  x_NoRounds:xcIn K cs.NoRounds=true
  k_NoRounds:XMk0 K cs.NoRounds
  c_NoPlan:mg "NoPlan" = some (.ref cs.NoPlan)
  h_NoPlan:XHd K cs.NoPlan
  x_NoPlan:xcIn K cs.NoPlan=true
  a_NoPlan_at:NoAttr K cs.NoPlan "at"
noncomputable def DkAt (p:Addr) (ns:List Int) (n:Nat) (δ:Dk):Prop:=∃ c k:Int,δ=some (p,[.scr (ns.map D.int),.int c,.int k])∧0≤c∧0≤k∧k≤n
noncomputable def spCell:Sp2:=fun ds δ q _=>∃ (ns:List Int) (k:Int),ds=[.scr (ns.map D.int),.int k]∧0≤k∧∀ r:Int,0≤r→q (.int r) δ
noncomputable def spDraw:Sp2:=fun ds δ q _=>∃ (ns:List Int) (k m:Int),ds=[.scr (ns.map D.int),.int k,.int m]∧0≤k∧k < 2 ^ 40∧0 < m∧∀ r:Int,0≤r→r < m→q (.int r) δ
noncomputable def spDeck:Sp2:=fun ds δ q _=>∃ (ns:List Int),ds=[.scr (ns.map D.int)]∧δ=none∧∀ p δ',DkAt p ns 0 δ'→q (.ref p) δ'
noncomputable def spTake:Sp2:=fun ds δ q _=>∃ (p:Addr) (ns:List Int) (n:Nat) (m:Int),ds=[.ref p,.int m]∧DkAt p ns n δ∧n < 2 ^ 30∧0 < m∧m < 2 ^ 30∧∀ (d:Int) δ',0≤d→d < m→DkAt p ns (n + 1) δ'→q (.int d) δ'
noncomputable def isNumD (d:D):Bool:=match d with | .int _=>true | _=>false
noncomputable def spIsNum:Sp2:=fun ds δ q _=>match ds with | [d]=>plainD d=true∧q (.bl (isNumD d)) δ | _=>False
noncomputable def spWhole:Sp2:=fun ds δ q _=>match ds with | [d,.int lo,.int hi]=>plainD d=true∧q (.bl (wholeD d lo hi)) δ | _=>False
noncomputable def numD (d:D) (j:Int):Bool:=match d with | .int i=>decide (i=j) | _=>false
noncomputable def spNumber:Sp2:=fun ds δ q _=>match ds with | [d,.int j]=>plainD d=true∧q (.bl (numD d j)) δ | _=>False
noncomputable def rowD:D→Option (List D) | .lst xs=>some xs | .tup xs=>some xs | _=>none
noncomputable def isRowD (d:D):Bool:=(rowD d).isSome
noncomputable def thingD (d:D):Bool:=plainD d && (match rowD d with | some xs=>xs.all plainD | none=>true)
noncomputable def wrowD (d:D) (a b lo hi:Int):Bool:=match rowD d with | some xs=>decide (a≤(xs.length:Int)) && decide ((xs.length:Int)≤b) && xs.all (wholeD · lo hi) | none=>false
noncomputable def spRow:Sp2:=fun ds δ q _=>match ds with | [d]=>plainD d=true∧q (.bl (isRowD d)) δ | _=>False
noncomputable def spWRow:Sp2:=fun ds δ q _=>match ds with | [d,.int a,.int b,.int lo,.int hi]=>thingD d=true∧b≤900∧q (.bl (wrowD d a b lo hi)) δ | _=>False
theorem bls_map {α:Type} (f:α→Bool):∀ xs:List α,blsD (xs.map fun e=>D.bl (f e))=some (xs.map f)
  | []=>rfl
  | x :: xs=>by rw [List.map_cons,List.map_cons]; unfold blsD; rw [bls_map f xs]; rfl
theorem all_id (xs:List Bool):xs.all id=xs.all fun b=>b:=rfl
theorem q_full_full:(("full" : Str) == "full")=true:=by decide +kernel
theorem q_full_mark:(("full" : Str) == "mark")=false:=by decide +kernel
theorem p_full_mark:(("full" : Str) = "mark")=False:=eq_false (by decide +kernel)
theorem q_full_shares:(("full" : Str) == "shares")=false:=by decide +kernel
theorem p_full_shares:(("full" : Str) = "shares")=False:=eq_false (by decide +kernel)
theorem q_mark_full:(("mark" : Str) == "full")=false:=by decide +kernel
theorem p_mark_full:(("mark" : Str) = "full")=False:=eq_false (by decide +kernel)
theorem q_mark_mark:(("mark" : Str) == "mark")=true:=by decide +kernel
theorem q_mark_shares:(("mark" : Str) == "shares")=false:=by decide +kernel
theorem p_mark_shares:(("mark" : Str) = "shares")=False:=eq_false (by decide +kernel)
theorem q_shares_full:(("shares" : Str) == "full")=false:=by decide +kernel
theorem p_shares_full:(("shares" : Str) = "full")=False:=eq_false (by decide +kernel)
theorem q_shares_mark:(("shares" : Str) == "mark")=false:=by decide +kernel
theorem p_shares_mark:(("shares" : Str) = "mark")=False:=eq_false (by decide +kernel)
theorem q_shares_shares:(("shares" : Str) == "shares")=true:=by decide +kernel
local macro_rules | `(tactic| walk_at "fl")=>do
  let ids:=("T.cl_Shared.cl T.f_Shared_full T.f_Shared_mark T.f_Shared_shares q_full_full q_full_mark q_full_shares q_mark_full q_mark_mark q_mark_shares q_shares_full q_shares_mark q_shares_shares List.lookup_cons true_and".splitOn " ").toArray.map fun s=>Lean.mkIdent s.toName
  let args ← ids.mapM fun i=>`(Lean.Parser.Tactic.simpLemma| $i:ident)
  `(tactic| simp only [reduceIte,↓reduceIte,$args,*])
section
variable {P:Program} {w:World} {K:PySem.W.Frag} {mg:Str→Option Value} {base:Heap} {cs:Cs}
noncomputable abbrev p_is_number:List Str:=["thing"]
theorem sc_is_number:FnScope ["thing"] p_is_number (defScope s_is_number):=⟨rfl,rfl,rfl,by decide +kernel,rfl,by decide +kernel,by decide +kernel⟩
noncomputable abbrev F_is_number (P:Program) (w:World) (K:PySem.W.Frag) (mg:Str→Option Value) (base:Heap) (cs:Cs):Prop:=Fun2 P w K mg base "is_number" 1 p_is_number spIsNum
theorem ok_is_number {f:Addr} {fd:FuncData} (Df:DefAt K mg "is_number" s_is_number p_is_number f fd) (T:Txt K mg cs):F_is_number P w K mg base cs:=by
  have nd:=sc_is_number.nd
  refine def2 Df sc_is_number (fun ds δ q x h=>?_) (fun cdv A outer s H E Y hr=>⟨_,(ss_one (s2_ret (e2_and (e2_b call_inst (d_inst (K:=K)) T.n_isinstance bt_isinstance (a2_cons (e2_v 0) (a2_cons (e2_ty "int" T.n_int bt_int) a2_nil))) (e2_one (e2_not (e2_b call_inst (d_inst (K:=K)) T.n_isinstance bt_isinstance (a2_cons (e2_v 0) (a2_cons (e2_ty "bool" T.n_bool bt_bool) a2_nil)))))))),fun ds δ q x h=>?_⟩)
  · unfold spIsNum at h
    split at h
    · rfl
    · exact h.elim
  · unfold spIsNum at h
    split at h
    rotate_left
    · exact h.elim
    rename_i d
    obtain ⟨hd,hq⟩:=h
    rw [show start2 ["thing"] _=[.val _] from rfl]
    obtain ⟨t1,t2⟩:=plain_ty (K:=K) hd
    walk_at "dl"
    simp only [ko_bool K t1 t2,ko_int K t1 t2,t1,true_and]
    cases d <;> first | cases hd | skip
    all_goals (walk_at "dl"; exact hq)
noncomputable abbrev p_is_whole:List Str:=["thing","least","most"]
theorem sc_is_whole:FnScope ["thing","least","most"] p_is_whole (defScope s_is_whole):=⟨rfl,rfl,rfl,by decide +kernel,rfl,by decide +kernel,by decide +kernel⟩
noncomputable abbrev F_is_whole (P:Program) (w:World) (K:PySem.W.Frag) (mg:Str→Option Value) (base:Heap) (cs:Cs):Prop:=Fun2 P w K mg base "is_whole" 2 p_is_whole spWhole
theorem ok_is_whole {f:Addr} {fd:FuncData} (Df:DefAt K mg "is_whole" s_is_whole p_is_whole f fd) (T:Txt K mg cs) (G_is_number:F_is_number P w K mg base cs):F_is_whole P w K mg base cs:=by
  have nd:=sc_is_whole.nd
  refine def2 Df sc_is_whole (fun ds δ q x h=>?_) (fun cdv A outer s H E Y hr=>⟨_,(ss_one (s2_ret (e2_and (e2_call G_is_number (hr.mono (by decide)) flies_fn (a2_cons (e2_v 0) a2_nil)) (e2_one (e2_chain op_le op_le d_le d_le (e2_v 1) (e2_v 0) (e2_v 2)))))),fun ds δ q x h=>?_⟩)
  · unfold spWhole at h
    split at h
    · rfl
    · exact h.elim
  · unfold spWhole at h
    split at h
    rotate_left
    · exact h.elim
    rename_i d lo hi
    obtain ⟨hd,hq⟩:=h
    rw [show start2 ["thing","least","most"] _=[.val _,.val _,.val _] from rfl]
    walk_at "dl"
    simp only [spIsNum,hd,true_and]
    cases d <;> first | cases hd | skip
    all_goals first | (simp only [isNumD]; walk_at "dl"; exact hq) | (simp only [isNumD]; walk_at "dl")
    simp only [wholeD] at hq
    split
    · rename_i h1
      rw [decide_eq_true h1,Bool.true_and] at hq
      exact hq
    · rename_i h1
      rw [decide_eq_false h1,Bool.false_and] at hq
      exact hq
noncomputable abbrev p_law_number:List Str:=["_law_found","_law_due_here"]
theorem sc_law_number:FnScope ["_law_found","_law_due_here"] p_law_number (defScope s_law_number):=⟨rfl,rfl,rfl,by decide +kernel,rfl,by decide +kernel,by decide +kernel⟩
noncomputable abbrev F_law_number (P:Program) (w:World) (K:PySem.W.Frag) (mg:Str→Option Value) (base:Heap) (cs:Cs):Prop:=Fun2 P w K mg base "_law_number" 2 p_law_number spNumber
theorem ok_law_number {f:Addr} {fd:FuncData} (Df:DefAt K mg "_law_number" s_law_number p_law_number f fd) (T:Txt K mg cs):F_law_number P w K mg base cs:=by
  have nd:=sc_law_number.nd
  refine def2 Df sc_law_number (fun ds δ q x h=>?_) (fun cdv A outer s H E Y hr=>⟨_,(ss_one (s2_ret (e2_and (e2_b call_inst (d_inst (K:=K)) T.n_isinstance bt_isinstance (a2_cons (e2_v 0) (a2_cons (e2_ty "int" T.n_int bt_int) a2_nil))) (e2_and (e2_not (e2_b call_inst (d_inst (K:=K)) T.n_isinstance bt_isinstance (a2_cons (e2_v 0) (a2_cons (e2_ty "bool" T.n_bool bt_bool) a2_nil)))) (e2_one (e2_cmp (op_eqE hr.units0) d_eqE (e2_v 0) (e2_v 1) (nomark _))))))),fun ds δ q x h=>?_⟩)
  · unfold spNumber at h
    split at h
    · rfl
    · exact h.elim
  · unfold spNumber at h
    split at h
    rotate_left
    · exact h.elim
    rename_i d j
    obtain ⟨hd,hq⟩:=h
    rw [show start2 ["_law_found","_law_due_here"] _=[.val _,.val _] from rfl]
    obtain ⟨t1,t2⟩:=plain_ty (K:=K) hd
    walk_at "dl"
    simp only [ko_bool K t1 t2,ko_int K t1 t2,t1,true_and]
    cases d <;> first | cases hd | skip
    all_goals (walk_at "dl"; exact hq)
noncomputable abbrev p_law_cell:List Str:=["_law_script","_law_k"]
theorem sc_law_cell:FnScope ["_law_script","_law_k"] p_law_cell (defScope s_law_cell):=⟨rfl,rfl,rfl,by decide +kernel,rfl,by decide +kernel,by decide +kernel⟩
noncomputable abbrev F_law_cell (P:Program) (w:World) (K:PySem.W.Frag) (mg:Str→Option Value) (base:Heap) (cs:Cs):Prop:=Fun2 P w K mg base "_law_cell" 2 p_law_cell spCell
theorem ok_law_cell {f:Addr} {fd:FuncData} (Df:DefAt K mg "_law_cell" s_law_cell p_law_cell f fd) (T:Txt K mg cs):F_law_cell P w K mg base cs:=by
  have nd:=sc_law_cell.nd
  refine def2 Df sc_law_cell (fun ds δ q x h=>?_) (fun cdv A outer s H E Y hr=>⟨_,(ss_cons (s2_if (t2_cmp (op_eqE hr.units0) d_eqE (e2_lenv 0 T.n_len) e2_int (nomark _)) (ss_one (s2_ret (e2_op op_addE d_addE (e2_op op_mul d_mul e2_int (e2_v 1)) e2_int))) ss_nil)
      (ss_one (s2_ret (e2_b call_abs d_abs T.n_abs bt_abs (a2_cons (e2_ixv 0 (e2_op op_mod d_mod (e2_v 1) (e2_lenv 0 T.n_len))) a2_nil))))),fun ds δ q x h=>?_⟩)
  · unfold spCell at h
    obtain ⟨ns,k,rfl,hk,hq⟩:=h
    rfl
  · unfold spCell at h
    obtain ⟨ns,k,rfl,hk,hq⟩:=h
    rw [show start2 ["_law_script","_law_k"] _=[.val _,.val _] from rfl]
    walk_at "dl"
    simp only [List.length_map]
    split
    · rename_i h0
      exact ⟨.inl ⟨by decide,by decide⟩,hq _ (by omega)⟩
    · rename_i h0
      have hlen:0 < ns.length:=by omega
      refine ⟨by omega,?_⟩
      obtain ⟨v,hat,hv⟩:=atI_mod (xs:=ns.map D.int) (k:=k) (by rw [List.length_map]; exact hlen)
      rw [List.length_map] at hat
      obtain ⟨z,_,rfl⟩:=List.mem_map.mp hv
      rw [hat]
      dsimp only
      exact hq _ (by split <;> omega)
noncomputable abbrev p_law_draw:List Str:=["_law_script","_law_k","_law_many"]
theorem sc_law_draw:FnScope ["_law_script","_law_k","_law_many","_law_a"] p_law_draw (defScope s_law_draw):=⟨rfl,rfl,rfl,by decide +kernel,rfl,by decide +kernel,by decide +kernel⟩
noncomputable abbrev F_law_draw (P:Program) (w:World) (K:PySem.W.Frag) (mg:Str→Option Value) (base:Heap) (cs:Cs):Prop:=Fun2 P w K mg base "_law_draw" 3 p_law_draw spDraw
theorem ok_law_draw {f:Addr} {fd:FuncData} (Df:DefAt K mg "_law_draw" s_law_draw p_law_draw f fd) (T:Txt K mg cs) (G_law_cell:F_law_cell P w K mg base cs):F_law_draw P w K mg base cs:=by
  have nd:=sc_law_draw.nd
  refine def2 Df sc_law_draw (fun ds δ q x h=>?_) (fun cdv A outer s H E Y hr=>⟨_,(ss_cons (s2_set 3 nd (e2_op op_mod d_mod (e2_op op_addE d_addE (e2_op op_addE d_addE (e2_op op_mul d_mul (e2_op op_mod d_mod (e2_call G_law_cell (hr.mono (by decide)) flies_fn (a2_cons (e2_v 0) (a2_cons (e2_v 1) a2_nil))) e2_int) e2_int) (e2_op op_mul d_mul (e2_op op_mul d_mul (e2_v 1) (e2_v 1)) e2_int)) e2_int) e2_int))
      (ss_cons (s2_set 3 nd (e2_op op_mod d_mod (e2_op op_addE d_addE (e2_op op_addE d_addE (e2_op op_mul d_mul (e2_v 3) (e2_v 3)) (e2_op op_mul d_mul e2_int (e2_v 3))) (e2_op op_mul d_mul (e2_v 1) e2_int)) e2_int))
      (ss_one (s2_ret (e2_op op_mod d_mod (e2_op op_fdiv d_fdiv (e2_v 3) e2_int) (e2_v 2)))))),fun ds δ q x h=>?_⟩)
  · unfold spDraw at h
    obtain ⟨ns,k,m,rfl,hk,hk2,hm,hq⟩:=h
    rfl
  · unfold spDraw at h
    obtain ⟨ns,k,m,rfl,hk,hk2,hm,hq⟩:=h
    rw [show start2 ["_law_script","_law_k","_law_many","_law_a"] _=[.val _,.val _,.val _,.no] from rfl]
    walk_at "dl"
    refine ⟨ns,k,rfl,hk,fun c hc=>?_⟩
    have h1:=Int.emod_nonneg c (b:=1000003) (by decide)
    have h2:=Int.emod_lt_of_pos c (b:=1000003) (by decide)
    refine ⟨by decide,.inl ⟨by omega,by omega⟩,.inl ⟨by omega,by omega⟩,.inr ⟨by decide,by decide⟩,by decide,?_⟩
    generalize c % 1000003 * 48271 + k * k * 7919 + 101=z
    have h3:=Int.emod_nonneg z (b:=2147483647) (by decide)
    have h4:=Int.emod_lt_of_pos z (b:=2147483647) (by decide)
    refine ⟨.inl ⟨by omega,by omega⟩,.inl ⟨by decide,by decide⟩,.inl ⟨by omega,by omega⟩,by decide,⟨by decide,by decide⟩,hm,hq _ (Int.emod_nonneg _ (by omega)) (Int.emod_lt_of_pos _ hm)⟩
noncomputable abbrev p_law_deck:List Str:=["_law_script"]
theorem sc_law_deck:FnScope ["_law_script","_law_cell_here"] p_law_deck (defScope s_law_deck):=⟨rfl,rfl,rfl,by decide +kernel,rfl,by decide +kernel,by decide +kernel⟩
noncomputable abbrev F_law_deck (P:Program) (w:World) (K:PySem.W.Frag) (mg:Str→Option Value) (base:Heap) (cs:Cs):Prop:=Fun2 P w K mg base "_law_deck" 3 p_law_deck spDeck
theorem ok_law_deck {f:Addr} {fd:FuncData} (Df:DefAt K mg "_law_deck" s_law_deck p_law_deck f fd) (T:Txt K mg cs) (G_law_cell:F_law_cell P w K mg base cs):F_law_deck P w K mg base cs:=by
  have nd:=sc_law_deck.nd
  refine def2 Df sc_law_deck (fun ds δ q x h=>?_) (fun cdv A outer s H E Y hr=>⟨_,(ss_cons (s2_set 1 nd (e2_call G_law_cell (hr.mono (by decide)) flies_fn (a2_cons (e2_v 0) (a2_cons e2_int a2_nil))))
      (ss_one (s2_retDk (a2_cons (e2_v 0) (a2_cons (e2_op op_mul d_mul (e2_v 1) (e2_bt call_int1 d_int T.n_int bt_int (a2_cons (e2_cmp op_ge d_ge (e2_v 1) (e2_op op_pow d_pow e2_int e2_int) (nomark _)) a2_nil))) (a2_cons e2_int a2_nil)))))),fun ds δ q x h=>?_⟩)
  · unfold spDeck at h
    obtain ⟨ns,rfl,rfl,hq⟩:=h
    rfl
  · unfold spDeck at h
    obtain ⟨ns,rfl,rfl,hq⟩:=h
    rw [show start2 ["_law_script","_law_cell_here"] _=[.val _,.no] from rfl]
    walk_at "dl"
    refine ⟨ns,0,rfl,by decide,fun c hc=>?_⟩
    refine ⟨⟨by decide,by decide,by decide⟩,.inr ⟨by split <;> decide,by split <;> decide⟩,rfl,fun p=>hq p _ ⟨_,_,rfl,?_,by decide,by decide⟩⟩
    split <;> omega
noncomputable abbrev p_law_take:List Str:=["_law_deck_here","_law_many"]
theorem sc_law_take:FnScope ["_law_deck_here","_law_many","_law_digit"] p_law_take (defScope s_law_take):=⟨rfl,rfl,rfl,by decide +kernel,rfl,by decide +kernel,by decide +kernel⟩
noncomputable abbrev F_law_take (P:Program) (w:World) (K:PySem.W.Frag) (mg:Str→Option Value) (base:Heap) (cs:Cs):Prop:=Fun2 P w K mg base "_law_take" 4 p_law_take spTake
theorem ok_law_take {f:Addr} {fd:FuncData} (Df:DefAt K mg "_law_take" s_law_take p_law_take f fd) (T:Txt K mg cs) (G_law_draw:F_law_draw P w K mg base cs):F_law_take P w K mg base cs:=by
  have nd:=sc_law_take.nd
  refine def2 Df sc_law_take (fun ds δ q x h=>?_) (fun cdv A outer s H E Y hr=>⟨_,(ss_cons (s2_if (t2_cmp op_gt d_gt (e2_ixv 0 e2_int) e2_int (nomark _)) (ss_cons (s2_set 2 nd (e2_op op_mod d_mod (e2_ixv 0 e2_int) (e2_v 1)))
      (ss_cons (s2_setv 0 e2_int (e2_op op_fdiv d_fdiv (e2_ixv 0 e2_int) (e2_v 1)))
      (ss_one (s2_ret (e2_v 2))))) ss_nil)
      (ss_cons (s2_setv 0 e2_int (e2_op op_addE d_addE (e2_ixv 0 e2_int) e2_int))
      (ss_one (s2_ret (e2_call G_law_draw (hr.mono (by decide)) flies_fn (a2_cons (e2_ixv 0 e2_int) (a2_cons (e2_ixv 0 e2_int) (a2_cons (e2_v 1) a2_nil)))))))),fun ds δ q x h=>?_⟩)
  · unfold spTake at h
    obtain ⟨p,ns,n,m,rfl,hD,hn,hm,hm2,hq⟩:=h
    rfl
  · unfold spTake at h
    obtain ⟨p,ns,n,m,rfl,hD,hn,hm,hm2,hq⟩:=h
    rw [show start2 ["_law_deck_here","_law_many","_law_digit"] _=[.val _,.val _,.no] from rfl]
    obtain ⟨c,k,rfl,hc,hk,hkn⟩:=hD
    walk_at "dl"
    split
    · exact ⟨hm,⟨hm,by omega⟩,hq _ _ (Int.emod_nonneg _ (by omega)) (Int.emod_lt_of_pos _ hm) ⟨_,_,rfl,Int.ediv_nonneg hc (by omega),hk,by omega⟩⟩
    · exact ⟨ns,k + 1,m,rfl,by omega,by omega,hm,fun r h1 h2=>hq _ _ h1 h2 ⟨_,_,rfl,hc,by omega,by omega⟩⟩
theorem whole_t {i lo hi:Int} (h1:lo≤i) (h2:i≤hi):wholeD (.int i) lo hi=true:=by show (decide (lo≤i) && decide (i≤hi))=true; rw [decide_eq_true h1,decide_eq_true h2]; rfl
theorem whole_f {i lo hi:Int} (h:i < lo∨hi < i):wholeD (.int i) lo hi=false:=by
  show (decide (lo≤i) && decide (i≤hi))=false
  rw [Bool.and_eq_false_iff]
  rcases h with h | h
  · exact .inl (decide_eq_false (by omega))
  · exact .inr (decide_eq_false (by omega))
noncomputable abbrev p_is_row:List Str:=["thing"]
theorem sc_is_row:FnScope ["thing"] p_is_row (defScope s_is_row):=⟨rfl,rfl,rfl,by decide +kernel,rfl,by decide +kernel,by decide +kernel⟩
noncomputable abbrev F_is_row (P:Program) (w:World) (K:PySem.W.Frag) (mg:Str→Option Value) (base:Heap) (cs:Cs):Prop:=Fun2 P w K mg base "is_row" 2 p_is_row spRow
theorem ok_is_row {f:Addr} {fd:FuncData} (Df:DefAt K mg "is_row" s_is_row p_is_row f fd) (T:Txt K mg cs):F_is_row P w K mg base cs:=by
  have nd:=sc_is_row.nd
  refine def2 Df sc_is_row (fun ds δ q x h=>?_) (fun cdv A outer s H E Y hr=>⟨_,(ss_one (s2_ret (e2_b call_inst (d_inst (K:=K)) T.n_isinstance bt_isinstance (a2_cons (e2_v 0) (a2_cons (e2_tup (a2_cons (e2_ty "list" T.n_list bt_list) (a2_cons (e2_ty "tuple" T.n_tuple bt_tuple) a2_nil))) a2_nil))))),fun ds δ q x h=>?_⟩)
  · unfold spRow at h
    split at h
    · rfl
    · exact h.elim
  · unfold spRow at h
    split at h
    rotate_left
    · exact h.elim
    rename_i d
    obtain ⟨hd,hq⟩:=h
    rw [show start2 ["thing"] _=[.val _] from rfl]
    obtain ⟨t1,t2⟩:=plain_ty (K:=K) hd
    walk_at "dl"
    simp only [ko_row K t1 t2,t1,true_and]
    cases d
    all_goals first | exact hq | cases hd
noncomputable abbrev p_is_whole_row:List Str:=["thing","shortest","longest","least","most"]
theorem sc_is_whole_row:FnScope ["thing","shortest","longest","least","most"] p_is_whole_row (defScope s_is_whole_row):=⟨rfl,rfl,rfl,by decide +kernel,rfl,by decide +kernel,by decide +kernel⟩
noncomputable abbrev F_is_whole_row (P:Program) (w:World) (K:PySem.W.Frag) (mg:Str→Option Value) (base:Heap) (cs:Cs):Prop:=Fun2 P w K mg base "is_whole_row" 3 p_is_whole_row spWRow
theorem ok_is_whole_row {f:Addr} {fd:FuncData} (Df:DefAt K mg "is_whole_row" s_is_whole_row p_is_whole_row f fd) (T:Txt K mg cs) (G_is_row:F_is_row P w K mg base cs) (G_is_whole:F_is_whole P w K mg base cs):F_is_whole_row P w K mg base cs:=by
  have nd:=sc_is_whole_row.nd
  refine def2 Df sc_is_whole_row (fun ds δ q x h=>?_) (fun cdv A outer s H E Y hr=>⟨_,(ss_cons (s2_if (PW2.pt (w2_or (t2_not (t2_val (e2_call G_is_row (hr.mono (by decide)) flies_fn (a2_cons (e2_v 0) a2_nil)))) (w2_or1 (t2_not (t2_chain op_le op_le d_le d_le (e2_v 1) (e2_lenv 0 T.n_len) (e2_v 2)))))) (ss_one (s2_ret e2_bl)) ss_nil)
      (ss_one (s2_ret (e2_b (call_all rfl) d_all T.n_all bt_all (a2_cons (e2_compM rfl (CompOkM.of ["entry"] [3,4] rfl) (i2_seq (e2_v 0)) (fun nd _ _ _ _ _=>(pg_name (i:=0) nd rfl (by first | exact Or.inl rfl | exact Or.inr rfl))) tgm_name (fun _ _ _ _ _ _=>if2_nil) (fun _ _ _ _ _ _=>(e2_call G_is_whole (hr.mono (by decide)) flies0 (a2_cons (e2_v 0) (a2_cons (e2_v 1) (a2_cons (e2_v 2) a2_nil)))))) a2_nil))))),fun ds δ q x h=>?_⟩)
  · unfold spWRow at h
    split at h
    · rfl
    · exact h.elim
  · unfold spWRow at h
    split at h
    rotate_left
    · exact h.elim
    rename_i d a b lo hi
    obtain ⟨ht,hb,hq⟩:=h
    rw [show start2 ["thing","shortest","longest","least","most"] _=[.val _,.val _,.val _,.val _,.val _] from rfl]
    have hp:plainD d=true:=by unfold thingD at ht; rw [Bool.and_eq_true] at ht; exact ht.1
    walk_at "dl"
    simp only [spRow,hp,true_and]
    cases e:rowD d with
    | none =>
      have e1:isRowD d=false:=by unfold isRowD; rw [e]; rfl
      have e2:wrowD d a b lo hi=false:=by unfold wrowD; rw [e]
      rw [e2] at hq
      simp only [e1,Bool.not_false,if_true]
      exact hq
    | some xs =>
      have e1:isRowD d=true:=by unfold isRowD; rw [e]; rfl
      have e3:seqD d=some xs:=by cases d <;> first | (cases e; rfl) | cases e
      have hx:∀ x∈xs,plainD x=true:=by
        unfold thingD at ht
        rw [Bool.and_eq_true,e] at ht
        exact List.all_eq_true.mp ht.2
      unfold wrowD at hq
      rw [e] at hq
      dsimp only at hq
      simp only [e1,Bool.not_true,Bool.false_eq_true,if_false]
      have main:∀ ρ:En,ρ[3]?=some (.val (.int lo))→ρ[4]?=some (.val (.int hi))→(xs.length:Int)≤b→q (.bl (xs.all (wholeD · lo hi))) δ→compL (t2Call spWhole (t2Cons (t2V 0) (t2Cons (t2V 1) (t2Cons (t2V 2) t2Nil)))) [3,4] ρ
          (fun acc δ2=>match blsD acc with | some bs=>q (D.bl (bs.all id)) δ2 | none=>False) xs [] δ:=by
        intro ρ r3 r4 hlen hq
        refine compL_ix (fun i acc δ'=>acc=(xs.take i).map (fun z=>D.bl (wholeD z lo hi))∧δ'=δ) ⟨rfl,rfl⟩ ?_ ?_
        · rintro i z acc δ' rest hi ⟨rfl,rfl⟩ hrest
          have hl:=(List.getElem?_eq_some_iff.mp hi).1
          simp only [capt,captC,List.map_cons,List.map_nil,r3,r4]
          walk_at "dl"
          simp only [spWhole,hx z (List.mem_of_getElem? hi),true_and]
          refine ⟨by rw [List.length_map,List.length_take]; omega,hrest _ _ ⟨?_,rfl⟩⟩
          rw [List.take_succ,hi,List.map_append]; rfl
        · rintro acc δ' ⟨rfl,rfl⟩
          rw [List.take_length,bls_map]
          have:(xs.map fun z=>wholeD z lo hi).all id=xs.all (wholeD · lo hi):=by rw [List.all_map]; rfl
          dsimp only
          rw [this]
          exact hq
      cases d <;> first | (cases e; done) | skip
      all_goals
        cases e
        dsimp only
        split
        · rename_i h1
          split
          · rename_i h2
            rw [Bool.not_eq_true',decide_eq_false_iff_not] at h2
            rw [decide_eq_true h1,decide_eq_false h2] at hq
            exact hq
          · rename_i h2
            rw [Bool.not_eq_true',decide_eq_false_iff_not,Decidable.not_not] at h2
            rw [decide_eq_true h1,decide_eq_true h2] at hq
            exact main _ rfl rfl h2 hq
        · rename_i h1
          rw [decide_eq_false h1] at hq
          exact hq
theorem wholeD_int {d:D} {lo hi:Int} (h:wholeD d lo hi=true):∃ i,d=.int i∧lo≤i∧i≤hi:=by
  cases d with
  | int i=>unfold wholeD at h; rw [Bool.and_eq_true,decide_eq_true_eq,decide_eq_true_eq] at h; exact ⟨i,rfl,h.1,h.2⟩
  | _=>cases h
theorem wholes_ints {lo hi:Int}:∀ {xs:List D},xs.all (wholeD · lo hi)=true→∃ ns:List Int,xs=ns.map D.int∧∀ n∈ns,lo≤n∧n≤hi
  | [],_=>⟨[],rfl,fun n hn=>by cases hn⟩
  | d :: xs,h=>by
    rw [List.all_cons,Bool.and_eq_true] at h
    obtain ⟨i,rfl,h1,h2⟩:=wholeD_int h.1
    obtain ⟨ns,rfl,hn⟩:=wholes_ints h.2
    refine ⟨i :: ns,rfl,fun n m=>?_⟩
    rcases List.mem_cons.mp m with rfl | m
    · exact ⟨h1,h2⟩
    · exact hn n m
noncomputable def partD (cs:Cs) (full mark:Int) (ws:List Int):D:=.ins cs.Shared [("full",.int full),("mark",.int mark),("shares",.tup (ws.map D.int))]
noncomputable def shD (d:D):Bool:=wrowD d 1 4 0 9 && (match intsD ((rowD d).getD []) with | some ns=>!decide (ns.sum=0) | none=>true)
noncomputable def spPart (cs:Cs):Sp2:=fun ds δ q x=>match ds with
  | [a,m,w]=>(thingD a && thingD m && thingD w)=true∧(if wholeD a 1 6=true then (match a with
      | .int i=>if wholeD m 0 i=true then (if shD w=true then q (.ins cs.Shared [("full",a),("mark",m),("shares",.tup ((rowD w).getD []))]) δ else x cs.NoPart [("at",.int 2)] δ) else x cs.NoPart [("at",.int 1)] δ
      | _=>False) else x cs.NoPart [("at",.int 0)] δ)
  | _=>False
theorem sc_Shared_init:FnScope ["self","full","mark","shares"] ["self","full","mark","shares"] (defScope s_Shared_init):=⟨rfl,rfl,rfl,by decide +kernel,rfl,by decide +kernel,by decide +kernel⟩
theorem ok_Shared_init {f:Addr} {fd:FuncData} (Fn:Fun K "__init__" "Shared.__init__" s_Shared_init f fd) (M:Mk K cs.Shared f) (bd:Binds K fd ["self","full","mark","shares"] []) (T:Txt K mg cs) (G_is_whole:F_is_whole P w K mg base cs) (G_is_whole_row:F_is_whole_row P w K mg base cs) (M_NoPart:MkE P w K mg base "NoPart" cs.NoPart 1 ["self","at"] (spXI cs.NoPart "at")):Make2 P w K mg base "Shared" 4 (spPart cs):=by
  have nd:=sc_Shared_init.nd
  refine init2 Fn M T.c_Shared bd sc_Shared_init (fun ds δ q x h=>?_) (fun cdv A outer s H E Y hr=>⟨_,(ss_cons (s2_if (t2_not (t2_val (e2_call G_is_whole (hr.mono (by decide)) flies_fn (a2_cons (e2_v 1) (a2_cons e2_int (a2_cons e2_int a2_nil)))))) (ss_one (s2_raise1 rfl flies_fn M_NoPart (hr.mono (by decide)) (a2_cons e2_int a2_nil))) ss_nil)
      (ss_cons (s2_if (t2_not (t2_val (e2_call G_is_whole (hr.mono (by decide)) flies_fn (a2_cons (e2_v 2) (a2_cons e2_int (a2_cons (e2_v 1) a2_nil)))))) (ss_one (s2_raise1 rfl flies_fn M_NoPart (hr.mono (by decide)) (a2_cons e2_int a2_nil))) ss_nil)
      (ss_cons (s2_if (PW2.pt (w2_or (t2_not (t2_val (e2_call G_is_whole_row (hr.mono (by decide)) flies_fn (a2_cons (e2_v 3) (a2_cons e2_int (a2_cons e2_int (a2_cons e2_int (a2_cons e2_int a2_nil)))))))) (w2_or1 (t2_cmp (op_eqE hr.units0) d_eqE (e2_b (call_sum rfl) d_sum T.n_sum bt_sum (a2_cons (e2_v 3) a2_nil)) e2_int (nomark _))))) (ss_one (s2_raise1 rfl flies_fn M_NoPart (hr.mono (by decide)) (a2_cons e2_int a2_nil))) ss_nil)
      (ss_cons (s2_selfK K 0 (e2_v 1))
      (ss_cons (s2_selfK K 0 (e2_v 2))
      (ss_one (s2_selfK K 0 (e2_bt call_tuple_of d_tuple T.n_tuple bt_tuple (a2_cons (e2_v 3) a2_nil))))))))),fun ds δ q x h=>?_⟩)
  · unfold spPart at h
    split at h
    · rfl
    · exact h.elim
  · unfold spPart at h
    split at h
    rotate_left
    · exact h.elim
    rename_i a m v
    rw [show start2 ["full","mark","shares"] _=[.val _,.val _,.val _] from rfl]
    obtain ⟨ht,hq⟩:=h
    simp only [Bool.and_eq_true] at ht
    obtain ⟨⟨ta,tm⟩,tv⟩:=ht
    have pl:∀ {d:D},thingD d=true→plainD d=true:=fun {d} h=>by unfold thingD at h; rw [Bool.and_eq_true] at h; exact h.1
    walk_at "dl"
    simp only [spWhole,pl ta,true_and]
    cases ea:wholeD a 1 6 with
    | false =>
      rw [ea] at hq
      simp only [Bool.not_false,if_true]
      exact hq
    | true =>
      rw [ea] at hq
      obtain ⟨i,rfl,i1,i2⟩:=wholeD_int ea
      simp only [Bool.not_true,Bool.false_eq_true,if_false,pl tm,true_and,spWRow,tv,if_true] at hq ⊢
      cases em:wholeD m 0 i with
      | false =>
        rw [em] at hq
        simp only [Bool.not_false,if_true]
        exact hq
      | true =>
        rw [em] at hq
        simp only [Bool.not_true,Bool.false_eq_true,if_false,if_true] at hq ⊢
        refine ⟨by decide,?_⟩
        unfold shD at hq
        cases ev:wrowD v 1 4 0 9 with
        | false =>
          rw [ev] at hq
          simp only [Bool.not_false,if_true]
          exact hq
        | true =>
          rw [ev,Bool.true_and] at hq
          have hv:∃ ns:List Int,(v=.lst (ns.map D.int)∨v=.tup (ns.map D.int))∧fewD ns:=by
            unfold wrowD at ev
            cases er:rowD v with
            | none=>rw [er] at ev; cases ev
            | some xs =>
              rw [er] at ev
              simp only [Bool.and_eq_true,decide_eq_true_eq] at ev
              obtain ⟨ns,rfl,hn⟩:=wholes_ints ev.2
              refine ⟨ns,?_,?_,fun n m=>?_⟩
              · cases v <;> first | (cases er; exact .inl rfl) | (cases er; exact .inr rfl) | cases er
              · have:=ev.1.2
                rw [List.length_map] at this
                omega
              · have:=hn n m
                omega
          obtain ⟨ns,hv,hf⟩:=hv
          simp only [Bool.not_true,Bool.false_eq_true,if_false]
          rcases hv with rfl | rfl
          all_goals
            simp only [rowD,Option.getD_some,ints_map] at hq ⊢
            refine ⟨hf,?_⟩
            by_cases hs:ns.sum=0
            · rw [decide_eq_true hs] at hq
              simp only [hs,decide_true,if_true]
              exact hq
            · rw [decide_eq_false hs] at hq
              simp only [hs,decide_false,Bool.false_eq_true,if_false]
              simp only [Bool.not_false,if_true] at hq
              simp only [T.cl_Shared.cl,T.f_Shared_full,T.f_Shared_mark,T.f_Shared_shares,putFD,p_full_mark,p_full_shares,p_mark_shares,if_false,List.length_cons,List.length_nil,true_and]
              repeat (first | exact ⟨_,rfl,hq⟩ | (refine ⟨by decide,?_⟩))
noncomputable def spTotal (cs:Cs):Sp2:=fun ds δ q _=>∃ full mark ws,ds=[partD cs full mark ws]∧fewD ws∧q (.int ws.sum) δ
noncomputable abbrev p_total_of:List Str:=["part"]
theorem sc_total_of:FnScope ["part"] p_total_of (defScope s_total_of):=⟨rfl,rfl,rfl,by decide +kernel,rfl,by decide +kernel,by decide +kernel⟩
noncomputable abbrev F_total_of (P:Program) (w:World) (K:PySem.W.Frag) (mg:Str→Option Value) (base:Heap) (cs:Cs):Prop:=Fun2 P w K mg base "total_of" 2 p_total_of (spTotal cs)
theorem ok_total_of {f:Addr} {fd:FuncData} (Df:DefAt K mg "total_of" s_total_of p_total_of f fd) (T:Txt K mg cs):F_total_of P w K mg base cs:=by
  have nd:=sc_total_of.nd
  refine def2 Df sc_total_of (fun ds δ q x h=>?_) (fun cdv A outer s H E Y hr=>⟨_,(ss_one (s2_ret (e2_b (call_sum rfl) d_sum T.n_sum bt_sum (a2_cons (e2_fldK K (e2_v 0)) a2_nil)))),fun ds δ q x h=>?_⟩)
  · unfold spTotal at h
    obtain ⟨full,mark,ws,rfl,hf,hq⟩:=h
    rfl
  · unfold spTotal at h
    obtain ⟨full,mark,ws,rfl,hf,hq⟩:=h
    rw [show start2 ["part"] _=[.val _] from rfl]
    walk_at "dn"
    (try simp only [partD]; walk_at "fl")
    simp only [seqD,ints_map]
    exact ⟨hf,hq⟩
noncomputable def intD:D→Int | .int i=>i | _=>0
noncomputable def risI:List Int→Bool
  | a :: b :: r=>decide (a < b) && risI (b :: r)
  | _=>true
noncomputable def risD (d:D) (lo hi:Int):Bool:=wrowD d 0 (hi - lo + 1) lo hi && risI (((rowD d).getD []).map intD)
theorem whole_ints {lo hi:Int}:∀ {xs:List D},xs.all (wholeD · lo hi)=true→xs=(xs.map intD).map D.int
  | [],_=>rfl
  | d :: xs,h=>by
    rw [List.all_cons,Bool.and_eq_true] at h
    obtain ⟨i,rfl,_,_⟩:=wholeD_int h.1
    rw [List.map_cons,List.map_cons,← whole_ints h.2]; rfl
theorem map_intD (ns:List Int):(ns.map D.int).map intD=ns:=by
  rw [List.map_map]
  exact List.map_id _
theorem atZ {ns:List Int} {z:Int} (h0:0≤z) (h1:z < (ns.length:Int)):atI (ns.map D.int) z=some (.int (ns.getD z.toNat 0)):=by
  have hz:z=((z.toNat:Nat):Int):=by omega
  have hl:z.toNat < ns.length:=by omega
  rw [hz,atI_nat (v:=D.int (ns.getD z.toNat 0))]
  · rfl
  · rw [List.getElem?_map,List.getElem?_eq_getElem hl,List.getD_eq_getElem?_getD,List.getElem?_eq_getElem hl]
    rfl
theorem ris_all:∀ ns:List Int,((List.range (ns.length - 1)).map fun j=>decide (ns.getD j 0 < ns.getD (j + 1) 0)).all id=risI ns
  | []=>rfl
  | [a]=>rfl
  | a :: b :: r=>by
    have ih:=ris_all (b :: r)
    have e:(a :: b :: r).length - 1=(r.length) + 1:=by simp
    have e2:(b :: r).length - 1=r.length:=by simp
    rw [e2] at ih
    rw [e,List.range_succ_eq_map,List.map_cons,List.all_cons,List.map_map]
    unfold risI
    rw [← ih]
    rfl
noncomputable def spRising:Sp2:=fun ds δ q _=>match ds with | [d,.int lo,.int hi]=>thingD d=true∧hi - lo + 1≤900∧q (.bl (risD d lo hi)) δ | _=>False
noncomputable abbrev p_is_rising_row:List Str:=["thing","least","most"]
theorem sc_is_rising_row:FnScope ["thing","least","most"] p_is_rising_row (defScope s_is_rising_row):=⟨rfl,rfl,rfl,by decide +kernel,rfl,by decide +kernel,by decide +kernel⟩
noncomputable abbrev F_is_rising_row (P:Program) (w:World) (K:PySem.W.Frag) (mg:Str→Option Value) (base:Heap) (cs:Cs):Prop:=Fun2 P w K mg base "is_rising_row" 4 p_is_rising_row spRising
theorem ok_is_rising_row {f:Addr} {fd:FuncData} (Df:DefAt K mg "is_rising_row" s_is_rising_row p_is_rising_row f fd) (T:Txt K mg cs) (G_is_whole_row:F_is_whole_row P w K mg base cs):F_is_rising_row P w K mg base cs:=by
  have nd:=sc_is_rising_row.nd
  refine def2 Df sc_is_rising_row (fun ds δ q x h=>?_) (fun cdv A outer s H E Y hr=>⟨_,(ss_cons (s2_if (t2_not (t2_val (e2_call G_is_whole_row (hr.mono (by decide)) flies_fn (a2_cons (e2_v 0) (a2_cons e2_int (a2_cons (e2_op op_addE d_addE (e2_op op_sub d_sub (e2_v 2) (e2_v 1)) e2_int) (a2_cons (e2_v 1) (a2_cons (e2_v 2) a2_nil)))))))) (ss_one (s2_ret e2_bl)) ss_nil)
      (ss_one (s2_ret (e2_b (call_all rfl) d_all T.n_all bt_all (a2_cons (e2_compM rfl (CompOkM.of ["k"] [0] rfl) (i2_range2 T.n_range (a2_cons e2_int (a2_cons (e2_lenv 0 T.n_len) a2_nil))) (fun nd _ _ _ _ _=>(pg_name (i:=0) nd rfl (by first | exact Or.inl rfl | exact Or.inr rfl))) tgm_name (fun _ _ _ _ _ _=>if2_nil) (fun _ _ _ _ _ _=>(e2_cmp op_lt d_lt (e2_ixv 1 (e2_op op_sub d_sub (e2_v 0) e2_int)) (e2_ixv 1 (e2_v 0)) (nomark _)))) a2_nil))))),fun ds δ q x h=>?_⟩)
  · unfold spRising at h
    split at h
    · rfl
    · exact h.elim
  · unfold spRising at h
    split at h
    rotate_left
    · exact h.elim
    rename_i d lo hi
    obtain ⟨ht,hb,hq⟩:=h
    rw [show start2 ["thing","least","most"] _=[.val _,.val _,.val _] from rfl]
    walk_at "dl"
    simp only [spWRow,ht,true_and]
    refine ⟨hb,?_⟩
    cases e:wrowD d 0 (hi - lo + 1) lo hi with
    | false =>
      have er:risD d lo hi=false:=by unfold risD; rw [e]; rfl
      rw [er] at hq
      simp only [Bool.not_false,if_true]
      exact hq
    | true =>
      simp only [Bool.not_true,Bool.false_eq_true,if_false]
      have er:risD d lo hi=risI (((rowD d).getD []).map intD):=by unfold risD; rw [e]; rfl
      rw [er] at hq
      have main:∀ ns:List Int,(ns.length:Int)≤900→q (.bl (risI ns)) δ→∀ (c:D),seqV [.val c] none 0=some (ns.map D.int)→(∀ a,c≠.ref a)→compL (t2Op ltF (t2IxV 1 (t2Op subF (t2V 0) (t2C (.int 1)))) (t2IxV 1 (t2V 0))) [0] [.val c,.val (.int lo),.val (.int hi)]
          (fun acc δ2=>match blsD acc with | some bs=>q (D.bl (bs.all id)) δ2 | none=>False) (rngD 1 (((ns.length:Nat):Int) - 1).toNat) [] δ:=by
        intro ns hl hq c hc hr
        have hs:∀ (ρ:En) δ',seqV (ρ++[.val c]) δ' ρ.length=some (ns.map D.int):=fun ρ δ'=>by
          unfold seqV at hc ⊢
          rw [List.getElem?_append_right (Nat.le_refl _),Nat.sub_self]
          cases c <;> first | exact hc | exact absurd rfl (hr _)
        refine compL_ix (fun i acc δ'=>acc=(List.range i).map (fun j=>D.bl (decide (ns.getD j 0 < ns.getD (j + 1) 0)))∧δ'=δ) ⟨rfl,rfl⟩ ?_ ?_
        · rintro i z acc δ' rest hi ⟨rfl,rfl⟩ hrest
          obtain ⟨hi2,rfl⟩:=rngD_get hi
          have hs1:=hs [.val (.int (1 + (i:Int)))] δ'
          simp only [capt,captC,List.map_cons,List.map_nil,List.getElem?_cons_zero]
          simp only [t2Op,t2IxV,t2V,t2C,rdV,hasV,List.getElem?_cons_zero,List.getElem?_cons_succ,fI0,true_and]
          simp only [List.cons_append,List.nil_append,List.length_cons,List.length_nil,Nat.zero_add] at hs1
          simp only [hs1,ixQ,ltF,fI0]
          rw [atZ (by omega) (by omega),atZ (by omega) (by omega)]
          dsimp only
          refine ⟨by rw [List.length_map,List.length_range]; omega,hrest _ _ ⟨?_,rfl⟩⟩
          rw [List.range_succ,List.map_append]
          have e1:(1 + (i:Int) - 1).toNat=i:=by omega
          have e2:(1 + (i:Int)).toNat=i + 1:=by omega
          rw [e1,e2]; rfl
        · rintro acc δ' ⟨rfl,rfl⟩
          rw [rngD_len,bls_map]
          dsimp only
          have e1:(((ns.length:Nat):Int) - 1).toNat=ns.length - 1:=by omega
          rw [e1,ris_all]
          exact hq
      have key:∀ xs:List D,rowD d=some xs→((xs.map intD).map D.int)=xs∧(xs.length:Int)≤900:=fun xs hx=>by
        unfold wrowD at e
        rw [hx] at e
        dsimp only at e
        simp only [Bool.and_eq_true,decide_eq_true_eq] at e
        exact ⟨(whole_ints e.2).symm,by omega⟩
      have len:∀ xs:List D,((xs.map intD).length:Int)=(xs.length:Int):=fun xs=>by rw [List.length_map]
      have bnd:∀ xs:List D,rowD d=some xs→(-(2 ^ 62)≤(1:Int)∧(1:Int) < 2 ^ 62∧-(2 ^ 62)≤((xs.length:Nat):Int)∧((xs.length:Nat):Int) < 2 ^ 62):=fun xs hx=>by have:=(key xs hx).2; omega
      cases d <;> first | (cases e; done) | skip
      · rename_i xs
        obtain ⟨k1,k2⟩:=key xs rfl
        refine ⟨bnd xs rfl,?_⟩
        have:=main (xs.map intD) (by rw [len]; exact k2) hq (.lst xs) (by rw [k1]; rfl) (fun a z=>by cases z)
        rw [List.length_map] at this
        exact this
      · rename_i xs
        obtain ⟨k1,k2⟩:=key xs rfl
        refine ⟨bnd xs rfl,?_⟩
        have:=main (xs.map intD) (by rw [len]; exact k2) hq (.tup xs) (by rw [k1]; rfl) (fun a z=>by cases z)
        rw [List.length_map] at this
        exact this
noncomputable def spIsStand (cs:Cs):Sp2:=fun ds δ q _=>∃ full mark ws d,ds=[partD cs full mark ws,d]∧plainD d=true∧q (.bl (wholeD d mark full)) δ
noncomputable def spCheckStand (cs:Cs):Sp2:=fun ds δ q x=>∃ full mark ws d,ds=[partD cs full mark ws,d]∧plainD d=true∧(wholeD d mark full=true→q .non δ)∧(wholeD d mark full=false→x cs.NoStands [] δ)
noncomputable abbrev p_is_stand:List Str:=["part","thing"]
theorem sc_is_stand:FnScope ["part","thing"] p_is_stand (defScope s_is_stand):=⟨rfl,rfl,rfl,by decide +kernel,rfl,by decide +kernel,by decide +kernel⟩
noncomputable abbrev F_is_stand (P:Program) (w:World) (K:PySem.W.Frag) (mg:Str→Option Value) (base:Heap) (cs:Cs):Prop:=Fun2 P w K mg base "is_stand" 3 p_is_stand (spIsStand cs)
theorem ok_is_stand {f:Addr} {fd:FuncData} (Df:DefAt K mg "is_stand" s_is_stand p_is_stand f fd) (T:Txt K mg cs) (G_is_whole:F_is_whole P w K mg base cs):F_is_stand P w K mg base cs:=by
  have nd:=sc_is_stand.nd
  refine def2 Df sc_is_stand (fun ds δ q x h=>?_) (fun cdv A outer s H E Y hr=>⟨_,(ss_one (s2_ret (e2_call G_is_whole (hr.mono (by decide)) flies_fn (a2_cons (e2_v 1) (a2_cons (e2_fldK K (e2_v 0)) (a2_cons (e2_fldK K (e2_v 0)) a2_nil)))))),fun ds δ q x h=>?_⟩)
  · unfold spIsStand at h
    obtain ⟨full,mark,ws,d,rfl,hd,hq⟩:=h
    rfl
  · unfold spIsStand at h
    obtain ⟨full,mark,ws,d,rfl,hd,hq⟩:=h
    rw [show start2 ["part","thing"] _=[.val _,.val _] from rfl]
    walk_at "dl"
    (try simp only [partD]; walk_at "fl")
    exact ⟨hd,hq⟩
noncomputable abbrev p_check_stand:List Str:=["part","stand"]
theorem sc_check_stand:FnScope ["part","stand"] p_check_stand (defScope s_check_stand):=⟨rfl,rfl,rfl,by decide +kernel,rfl,by decide +kernel,by decide +kernel⟩
noncomputable abbrev F_check_stand (P:Program) (w:World) (K:PySem.W.Frag) (mg:Str→Option Value) (base:Heap) (cs:Cs):Prop:=Fun2 P w K mg base "check_stand" 4 p_check_stand (spCheckStand cs)
theorem ok_check_stand {f:Addr} {fd:FuncData} (Df:DefAt K mg "check_stand" s_check_stand p_check_stand f fd) (T:Txt K mg cs) (G_is_stand:F_is_stand P w K mg base cs):F_check_stand P w K mg base cs:=by
  have nd:=sc_check_stand.nd
  refine def2 Df sc_check_stand (fun ds δ q x h=>?_) (fun cdv A outer s H E Y hr=>⟨_,(ss_one (s2_if (t2_not (t2_val (e2_call G_is_stand (hr.mono (by decide)) flies_fn (a2_cons (e2_v 0) (a2_cons (e2_v 1) a2_nil))))) (ss_one (s2_raise0 rfl flies_fn T.k_NoStands T.x_NoStands T.c_NoStands)) ss_nil)),fun ds δ q x h=>?_⟩)
  · unfold spCheckStand at h
    obtain ⟨full,mark,ws,d,rfl,hd,hq,hx⟩:=h
    rfl
  · unfold spCheckStand at h
    obtain ⟨full,mark,ws,d,rfl,hd,hq,hx⟩:=h
    rw [show start2 ["part","stand"] _=[.val _,.val _] from rfl]
    walk_at "dl"
    refine ⟨full,mark,ws,d,rfl,hd,?_⟩
    cases e:wholeD d mark full with
    | true=>exact hq e
    | false=>exact hx e
noncomputable def w0 (full mark stand:Int):List Int:=(List.range (full - mark + 1).toNat).map fun (j:Nat)=>if mark + (j:Int)=stand then 1 else 0
noncomputable def spW0 (cs:Cs):Sp2:=fun ds δ q _=>∃ full mark ws stand,ds=[partD cs full mark ws,.int stand]∧0≤mark∧mark≤full∧full≤6∧q (.tup ((w0 full mark stand).map D.int)) δ
noncomputable abbrev p_weights_of:List Str:=["part","stand"]
theorem sc_weights_of:FnScope ["part","stand"] p_weights_of (defScope s_weights_of):=⟨rfl,rfl,rfl,by decide +kernel,rfl,by decide +kernel,by decide +kernel⟩
noncomputable abbrev F_weights_of (P:Program) (w:World) (K:PySem.W.Frag) (mg:Str→Option Value) (base:Heap) (cs:Cs):Prop:=Fun2 P w K mg base "weights_of" 2 p_weights_of (spW0 cs)
theorem ok_weights_of {f:Addr} {fd:FuncData} (Df:DefAt K mg "weights_of" s_weights_of p_weights_of f fd) (T:Txt K mg cs):F_weights_of P w K mg base cs:=by
  have nd:=sc_weights_of.nd
  refine def2 Df sc_weights_of (fun ds δ q x h=>?_) (fun cdv A outer s H E Y hr=>⟨_,(ss_one (s2_ret (e2_bt call_tuple_of d_tuple T.n_tuple bt_tuple (a2_cons (e2_compM rfl (CompOkM.of ["at"] [1] rfl) (i2_range2 T.n_range (a2_cons (e2_fldK K (e2_v 0)) (a2_cons (e2_op op_addE d_addE (e2_fldK K (e2_v 0)) e2_int) a2_nil))) (fun nd _ _ _ _ _=>(pg_name (i:=0) nd rfl (by first | exact Or.inl rfl | exact Or.inr rfl))) tgm_name (fun _ _ _ _ _ _=>if2_nil) (fun _ _ _ _ _ _=>(e2_if (t2_cmp (op_eqE hr.units0) d_eqE (e2_v 0) (e2_v 1) (nomark _)) e2_int e2_int))) a2_nil)))),fun ds δ q x h=>?_⟩)
  · unfold spW0 at h
    obtain ⟨full,mark,ws,stand,rfl,h0,h1,h2,hq⟩:=h
    rfl
  · unfold spW0 at h
    obtain ⟨full,mark,ws,stand,rfl,h0,h1,h2,hq⟩:=h
    rw [show start2 ["part","stand"] _=[.val _,.val _] from rfl]
    walk_at "dn"
    (try simp only [partD]; walk_at "fl")
    refine ⟨by omega,?_⟩
    refine compL_ix (fun i acc δ'=>acc=((List.range i).map fun (j:Nat)=>if mark + (j:Int)=stand then (1:Int) else 0).map D.int∧δ'=δ) ⟨rfl,rfl⟩ ?_ ?_
    · rintro i z acc δ' rest hi ⟨rfl,rfl⟩ hrest
      obtain ⟨hi2,rfl⟩:=rngD_get hi
      simp only [capt,captC,List.map_cons,List.map_nil,List.getElem?_cons_zero,List.getElem?_cons_succ]
      walk_at "dn"
      have step:∀ v:Int,v=(if mark + (i:Int)=stand then (1:Int) else 0)→((((List.range i).map fun (j:Nat)=>if mark + (j:Int)=stand then (1:Int) else 0).map D.int).length < 1000∧rest (((List.range i).map fun (j:Nat)=>if mark + (j:Int)=stand then (1:Int) else 0).map D.int++[.int v]) δ'):=by
        rintro v rfl
        refine ⟨by rw [List.length_map,List.length_map,List.length_range]; omega,hrest _ _ ⟨?_,rfl⟩⟩
        rw [List.range_succ,List.map_append,List.map_append]; rfl
      split
      · rename_i hh
        exact step 1 (by rw [if_pos hh])
      · rename_i hh
        exact step 0 (by rw [if_neg hh])
    · rintro acc δ' ⟨rfl,rfl⟩
      rw [rngD_len]
      have e:(full + 1 - mark).toNat=(full - mark + 1).toNat:=by omega
      rw [e]
      exact hq
noncomputable def stepN (j l:Nat):Option Nat:=if j < l then none else some (j - l)
noncomputable def GP (shs:List Int) (j:Nat) (x:Option Nat):Nat→Int
  | 0=>0
  | l + 1=>GP shs j x l + (if stepN j l=x then shs.getD l 0 else 0)
noncomputable def LP (shs ws:List Int) (x:Option Nat):Nat→Int
  | 0=>0
  | i + 1=>LP shs ws x i + ws.getD i 0 * GP shs i x shs.length
noncomputable def rowN (m:Nat) (f:Nat→Int):List Int:=(List.range m).map f
theorem rowN_len {m:Nat} {f:Nat→Int}:(rowN m f).length=m:=by unfold rowN; rw [List.length_map,List.length_range]
theorem rowN_at {m k:Nat} {f:Nat→Int} (h:k < m):(rowN m f)[k]?=some (f k):=by unfold rowN; rw [List.getElem?_map,List.getElem?_range h]; rfl
theorem rowN_set {m k:Nat} {f g:Nat→Int} {v:Int} (hk:k < m) (hv:g k=v) (ho:∀ i,i≠k→g i=f i):(rowN m f).set k v=rowN m g:=by
  apply List.ext_getElem?
  intro i
  rw [List.getElem?_set]
  by_cases e:k=i
  · subst e
    rw [if_pos rfl,rowN_len,if_pos hk,rowN_at hk,hv]
  · rw [if_neg e]
    by_cases hi:i < m
    · rw [rowN_at hi,rowN_at hi,ho i (Ne.symm e)]
    · rw [List.getElem?_eq_none (by rw [rowN_len]; omega),List.getElem?_eq_none (by rw [rowN_len]; omega)]
theorem rowN_ext {m:Nat} {f g:Nat→Int} (h:∀ i,i < m→f i=g i):rowN m f=rowN m g:=by
  unfold rowN
  exact List.map_congr_left fun i hi=>h i (List.mem_range.mp hi)
theorem rep0 {m:Nat}:(List.replicate m [D.int 0]).flatten=(rowN m fun _=>0).map D.int:=by
  rw [List.flatten_replicate_singleton]
  apply List.ext_getElem?
  intro i
  rw [List.getElem?_replicate,List.getElem?_map]
  by_cases h:i < m
  · rw [if_pos h,rowN_at h]; rfl
  · rw [if_neg h,List.getElem?_eq_none (by rw [rowN_len]; omega)]; rfl
theorem ixN_nat {n k:Nat} (h:k < n):ixN n (k:Int)=some k:=by
  unfold ixN
  rw [if_pos (by omega),if_pos (by omega),Int.toNat_natCast]
theorem GP_none {shs:List Int} {j l:Nat} {x:Option Nat} (h:stepN j l≠x):GP shs j x (l + 1)=GP shs j x l:=by
  show GP shs j x l + _=_
  rw [if_neg h]; omega
theorem GP_some {shs:List Int} {j l:Nat} {x:Option Nat} (h:stepN j l=x):GP shs j x (l + 1)=GP shs j x l + shs.getD l 0:=by
  show GP shs j x l + _=_
  rw [if_pos h]
noncomputable def loseB (shs ws:List Int):List Int:=rowN ws.length fun x=>LP shs ws (some x) ws.length
noncomputable def loseF (shs ws:List Int):Int:=LP shs ws none ws.length
noncomputable def spLose (cs:Cs):Sp2:=fun ds δ q _=>∃ full mark shs ws,ds=[partD cs full mark shs,.tup (ws.map D.int)]∧shs.length≤4∧(∀ z∈shs,0≤z∧z≤9)∧ws.length≤7∧q (.tup [.tup ((loseB shs ws).map D.int),.int (loseF shs ws)]) δ
noncomputable abbrev p_lose_once:List Str:=["part","weights"]
theorem sc_lose_once:FnScope ["part","weights","behind","fallen","at","weight","lost","share"] p_lose_once (defScope s_lose_once):=⟨rfl,rfl,rfl,by decide +kernel,rfl,by decide +kernel,by decide +kernel⟩
noncomputable abbrev F_lose_once (P:Program) (w:World) (K:PySem.W.Frag) (mg:Str→Option Value) (base:Heap) (cs:Cs):Prop:=Fun2 P w K mg base "lose_once" 2 p_lose_once (spLose cs)
theorem ok_lose_once {f:Addr} {fd:FuncData} (Df:DefAt K mg "lose_once" s_lose_once p_lose_once f fd) (T:Txt K mg cs):F_lose_once P w K mg base cs:=by
  have nd:=sc_lose_once.nd
  refine def2 Df sc_lose_once (fun ds δ q x h=>?_) (fun cdv A outer s H E Y hr=>⟨_,(ss_cons (s2_ownRep 2 nd (e2_lst (a2_cons e2_int a2_nil)) (e2_lenv 1 T.n_len))
      (ss_cons (s2_set 3 nd e2_int)
      (ss_cons (s2_for PassesOwn.leaving rfl (i2_enum T.n_enumerate (a2_cons (e2_v 1) a2_nil)) (pg_tup rfl (pgs_cons (pg_name (i:=4) nd rfl (by first | exact Or.inl rfl | exact Or.inr rfl)) (pgs_cons (pg_name (i:=5) nd rfl (by first | exact Or.inl rfl | exact Or.inr rfl)) pgs_nil))) (td_tup (is:=[4,5]) rfl) (ss_one (s2_for PassesOwn.leaving rfl (i2_enum T.n_enumerate (a2_cons (e2_fldK K (e2_v 0)) a2_nil)) (pg_tup rfl (pgs_cons (pg_name (i:=6) nd rfl (by first | exact Or.inl rfl | exact Or.inr rfl)) (pgs_cons (pg_name (i:=7) nd rfl (by first | exact Or.inl rfl | exact Or.inr rfl)) pgs_nil))) (td_tup (is:=[6,7]) rfl) (ss_one (s2_if (t2_cmp op_gt d_gt (e2_v 6) (e2_v 4) (nomark _)) (ss_one (s2_aug 3 nd ip_add (e2_op op_mul d_mul (e2_v 5) (e2_v 7)))) (ss_one (s2_augv 2 ip_add (e2_op op_sub d_sub (e2_v 4) (e2_v 6)) (e2_op op_mul d_mul (e2_v 5) (e2_v 7)))))))))
      (ss_one (s2_ret (e2_tup (a2_cons (e2_bt call_tuple_of d_tuple T.n_tuple bt_tuple (a2_cons (e2_v 2) a2_nil)) (a2_cons (e2_v 3) a2_nil)))))))),fun ds δ q x h=>?_⟩)
  · unfold spLose at h
    obtain ⟨full,mark,shs,ws,rfl,h4,h9,h7,hq⟩:=h
    rfl
  · unfold spLose at h
    obtain ⟨full,mark,shs,ws,rfl,h4,h9,h7,hq⟩:=h
    rw [show start2 ["part","weights","behind","fallen","at","weight","lost","share"] _=[.val _,.val _,.no,.no,.no,.no,.no,.no] from rfl]
    have e0:(List.replicate (((ws.map D.int).length:Nat):Int).toNat [D.int 0]).flatten=(rowN ws.length fun x=>LP shs ws (some x) 0).map D.int:=by
      rw [List.length_map,Int.toNat_natCast]
      exact rep0
    walk_at "dn"
    rw [e0]
    refine ⟨by rw [List.length_map]; omega,by omega,by rw [List.length_map]; omega,?_⟩
    refine forL_ix (fun i ρ δ'=>∃ c4 c5 c6 c7,ρ=[.val (partD cs full mark shs),.val (.tup (ws.map D.int)),.own ((rowN ws.length fun x=>LP shs ws (some x) i).map D.int),.val (.int (LP shs ws none i)),c4,c5,c6,c7]∧δ'=δ) ⟨_,_,_,_,rfl,rfl⟩ ?_ ?_
    · rintro i d ρ δ' rest hi ⟨c4,c5,c6,c7,rfl,rfl⟩ hrest
      obtain ⟨z,hz,rfl⟩:=enumD_get hi
      rw [List.getElem?_map,Option.map_eq_some_iff] at hz
      obtain ⟨wt,hw,rfl⟩:=hz
      have hil:=(List.getElem?_eq_some_iff.mp hw).1
      have ew:ws.getD i 0=wt:=by rw [List.getD_eq_getElem?_getD,hw]; rfl
      rw [Nat.zero_add]
      unfold stepG
      walk_at "dn"
      (try simp only [partD]; walk_at "fl")
      refine forL_ix (fun l ρ δ1=>∃ c6 c7,ρ=[.val (partD cs full mark shs),.val (.tup (ws.map D.int)),.own ((rowN ws.length fun x=>LP shs ws (some x) i + wt * GP shs i (some x) l).map D.int),.val (.int (LP shs ws none i + wt * GP shs i none l)),.val (.int (i:Int)),.val (.int wt),c6,c7]∧δ1=δ') ⟨c6,c7,by simp only [GP,Int.mul_zero,Int.add_zero]; rfl,rfl⟩ ?_ ?_
      · rintro l d ρ δ1 rest hl ⟨c6,c7,rfl,rfl⟩ hrest
        obtain ⟨z,hz,rfl⟩:=enumD_get hl
        rw [List.getElem?_map,Option.map_eq_some_iff] at hz
        obtain ⟨sh,hs,rfl⟩:=hz
        have hll:=(List.getElem?_eq_some_iff.mp hs).1
        have es:shs.getD l 0=sh:=by rw [List.getD_eq_getElem?_getD,hs]; rfl
        have s9:=h9 sh (List.mem_of_getElem? hs)
        have cm:CMul wt sh:=.inr ⟨by omega,by omega⟩
        rw [Nat.zero_add]
        unfold stepG
        walk_at "dn"
        split
        · rename_i hgt
          have hgt:i < l:=by omega
          have e1:stepN i l=none:=if_pos hgt
          have e2:(rowN ws.length fun x=>LP shs ws (some x) i + wt * GP shs i (some x) l)=rowN ws.length fun x=>LP shs ws (some x) i + wt * GP shs i (some x) (l + 1):=rowN_ext fun x _=>by rw [GP_none (by rw [e1]; exact fun h=>by cases h)]
          have e3:LP shs ws none i + wt * GP shs i none l + wt * sh=LP shs ws none i + wt * GP shs i none (l + 1):=by rw [GP_some e1,es,Int.mul_add,Int.add_assoc]
          rw [e2,e3]
          exact ⟨cm,hrest _ _ ⟨_,_,rfl,rfl⟩⟩
        · rename_i hgt
          have hgt:¬ i < l:=by omega
          have e1:stepN i l=some (i - l):=if_neg hgt
          have e4:(i:Int) - (l:Int)=((i - l:Nat):Int):=by omega
          have hk:i - l < ws.length:=by omega
          have e2:((rowN ws.length fun x=>LP shs ws (some x) i + wt * GP shs i (some x) l).map D.int).set (i - l) (.int (LP shs ws (some (i - l)) i + wt * GP shs i (some (i - l)) l + wt * sh))=(rowN ws.length fun x=>LP shs ws (some x) i + wt * GP shs i (some x) (l + 1)).map D.int:=by
            rw [show D.int (LP shs ws (some (i - l)) i + wt * GP shs i (some (i - l)) l + wt * sh)=D.int (LP shs ws (some (i - l)) i + wt * GP shs i (some (i - l)) l + wt * sh) from rfl,← List.map_set]
            congr 1
            refine rowN_set hk ?_ fun x hx=>?_
            · rw [GP_some e1,es,Int.mul_add,Int.add_assoc]
            · rw [GP_none (by rw [e1]; exact fun h=>hx (Option.some.inj h).symm)]
          have e3:LP shs ws none i + wt * GP shs i none l=LP shs ws none i + wt * GP shs i none (l + 1):=by rw [GP_none (by rw [e1]; exact fun h=>by cases h)]
          rw [e4,atI_nat (show ((rowN ws.length fun x=>LP shs ws (some x) i + wt * GP shs i (some x) l).map D.int)[i - l]?=some (.int (LP shs ws (some (i - l)) i + wt * GP shs i (some (i - l)) l)) by rw [List.getElem?_map,rowN_at hk]; rfl)]
          dsimp only
          refine ⟨rfl,?_⟩
          rw [ixN_nat (by rw [List.length_map,rowN_len]; exact hk)]
          dsimp only
          rw [e2,e3]
          exact ⟨cm,hrest _ _ ⟨_,_,rfl,rfl⟩⟩
      · rintro ρ δ1 ⟨c6,c7,rfl,rfl⟩
        rw [enumD_len,List.length_map]
        subst ew
        exact hrest _ _ ⟨_,_,_,_,rfl,rfl⟩
    · rintro ρ δ' ⟨c4,c5,c6,c7,rfl,rfl⟩
      rw [enumD_len,List.length_map]
      walk_at "dn"
      exact hq
noncomputable def sumTo:Nat→(Nat→Int)→Int
  | 0,_=>0
  | n + 1,f=>sumTo n f + f n
noncomputable def tot {α:Type} (R:List α) (g:α→Int):Int:=(R.map g).sum
theorem tot_nil {α:Type} {g:α→Int}:tot [] g=0:=rfl
theorem tot_cons {α:Type} {a:α} {R:List α} {g:α→Int}:tot (a :: R) g=g a + tot R g:=by unfold tot; rw [List.map_cons,List.sum_cons]
theorem tot_app {α:Type} {R S:List α} {g:α→Int}:tot (R++S) g=tot R g + tot S g:=by unfold tot; rw [List.map_append,List.sum_append]
theorem tot_flat {α β:Type} {f:α→List β} {g:β→Int}:∀ R:List α,tot (R.flatMap f) g=tot R fun r=>tot (f r) g
  | []=>rfl
  | a :: R=>by rw [List.flatMap_cons,tot_app,tot_cons,tot_flat R]
theorem tot_congr {α:Type} {g h:α→Int}:∀ {R:List α},(∀ r∈R,g r=h r)→tot R g=tot R h
  | [],_=>rfl
  | a :: R,e=>by rw [tot_cons,tot_cons,e a List.mem_cons_self,tot_congr fun r hr=>e r (List.mem_cons_of_mem _ hr)]
theorem tot_range {g:Nat→Int}:∀ n,tot (List.range n) g=sumTo n g
  | 0=>rfl
  | n + 1=>by rw [List.range_succ,tot_app,tot_range n,tot_cons,tot_nil]; show _=sumTo n g + g n; omega
theorem sumTo_congr {f g:Nat→Int}:∀ {n:Nat},(∀ i,i < n→f i=g i)→sumTo n f=sumTo n g
  | 0,_=>rfl
  | n + 1,e=>by
    show sumTo n f + f n=sumTo n g + g n
    rw [sumTo_congr fun i hi=>e i (Nat.lt_succ_of_lt hi),e n (Nat.lt_succ_self n)]
theorem sumTo_add {f g:Nat→Int}:∀ n,sumTo n (fun i=>f i + g i)=sumTo n f + sumTo n g
  | 0=>rfl
  | n + 1=>by
    show sumTo n (fun i=>f i + g i) + (f n + g n)=(sumTo n f + f n) + (sumTo n g + g n)
    rw [sumTo_add n]; omega
theorem sumTo_mul {f:Nat→Int} {c:Int}:∀ n,sumTo n (fun i=>c * f i)=c * sumTo n f
  | 0=>by simp [sumTo]
  | n + 1=>by
    show sumTo n (fun i=>c * f i) + c * f n=c * (sumTo n f + f n)
    rw [sumTo_mul n,Int.mul_add]
theorem sumTo_mulr {f:Nat→Int} {c:Int} (n:Nat):sumTo n (fun i=>f i * c)=sumTo n f * c:=by
  rw [Int.mul_comm,← sumTo_mul]
  exact sumTo_congr fun i _=>Int.mul_comm _ _
theorem sumTo_zero:∀ n,sumTo n (fun _=>0)=0
  | 0=>rfl
  | n + 1=>by show sumTo n (fun _=>0) + 0=0; rw [sumTo_zero n]; rfl
theorem sumTo_one {f:Nat→Int} {k:Nat}:∀ {n:Nat},k < n→sumTo n (fun i=>if i=k then f i else 0)=f k
  | n + 1,h=>by
    show sumTo n (fun i=>if i=k then f i else 0) + (if n=k then f n else 0)=f k
    by_cases e:n=k
    · subst e
      rw [if_pos rfl,sumTo_congr (g:=fun _=>0) fun i hi=>if_neg (by omega),sumTo_zero]; omega
    · rw [if_neg e,sumTo_one (by omega:k < n)]; omega
theorem sumTo_front {f:Nat→Int}:∀ n,sumTo (n + 1) f=f 0 + sumTo n fun i=>f (i + 1)
  | 0=>by show (0:Int) + f 0=f 0 + 0; omega
  | n + 1=>by
    show sumTo (n + 1) f + f (n + 1)=f 0 + (sumTo n (fun i=>f (i + 1)) + f (n + 1))
    rw [sumTo_front n]; omega
theorem sum_to:∀ xs:List Int,xs.sum=sumTo xs.length fun i=>xs.getD i 0
  | []=>rfl
  | a :: xs=>by
    rw [List.sum_cons,List.length_cons,sumTo_front,sum_to xs]; rfl
theorem rowN_get {m j:Nat} {f:Nat→Int} (h:j < m):(rowN m f).getD j 0=f j:=by rw [List.getD_eq_getElem?_getD,rowN_at h]; rfl
theorem rowN_sum {m:Nat} {f:Nat→Int}:(rowN m f).sum=sumTo m f:=by
  rw [sum_to,rowN_len]
  exact sumTo_congr fun i hi=>rowN_get hi
theorem LP_sum {shs ws:List Int} {x:Option Nat}:∀ n,LP shs ws x n=sumTo n fun j=>ws.getD j 0 * GP shs j x shs.length
  | 0=>rfl
  | n + 1=>by show LP shs ws x n + _=_; rw [LP_sum n]; rfl
theorem GP_sum {shs:List Int} {j:Nat} {x:Option Nat}:∀ n,GP shs j x n=sumTo n fun l=>if stepN j l=x then shs.getD l 0 else 0
  | 0=>rfl
  | n + 1=>by show GP shs j x n + _=_; rw [GP_sum n]; rfl
noncomputable def chgW (c:Bool) (ws:List Int):List Int:=if c=true then rowN ws.length (fun j=>if j=ws.length - 1 then ws.sum else 0) else ws
noncomputable def progW (shs w0 ch:List Int):Nat→List Int×Int
  | 0=>(w0,0)
  | k + 1=>let s:=progW shs w0 ch k; let w:=chgW (decide ((k:Int)∈ch)) s.1; (loseB shs w,s.2 * shs.sum + loseF shs w)
noncomputable def rowsK (n:Nat):Nat→List (List Nat)
  | 0=>[[]]
  | k + 1=>(rowsK n k).flatMap fun r=>(List.range n).map fun l=>r++[l]
noncomputable def prodR (shs:List Int) (r:List Nat):Int:=r.foldl (fun a l=>a * shs.getD l 0) 1
noncomputable def stepE (m:Nat) (c:Bool) (o:Option Nat) (l:Nat):Option Nat:=o.bind fun j=>stepN (if c=true then m - 1 else j) l
noncomputable def endR (m:Nat) (ch:List Int) (j0:Nat) (r:List Nat):Nat×Option Nat:=r.foldl (fun (s:Nat×Option Nat) l=>(s.1 + 1,stepE m (decide (((s.1:Nat):Int)∈ch)) s.2 l)) (0,some j0)
theorem endR_len {m:Nat} {ch:List Int} {j0:Nat} (r:List Nat):(endR m ch j0 r).1=r.length:=by
  have:∀ (r:List Nat) (s:Nat×Option Nat),(r.foldl (fun (s:Nat×Option Nat) l=>(s.1 + 1,stepE m (decide (((s.1:Nat):Int)∈ch)) s.2 l)) s).1=s.1 + r.length:=by
    intro r
    induction r with
    | nil=>intro s; rfl
    | cons a r ih=>intro s; rw [List.foldl_cons,ih,List.length_cons]; show s.1 + 1 + _=_; omega
  unfold endR
  rw [this]; omega
theorem endR_app {m:Nat} {ch:List Int} {j0:Nat} {r:List Nat} {l:Nat}:(endR m ch j0 (r++[l])).2=stepE m (decide ((r.length:Int)∈ch)) (endR m ch j0 r).2 l:=by
  rw [← endR_len (m:=m) (ch:=ch) (j0:=j0) r]
  unfold endR
  rw [List.foldl_append]; rfl
theorem prodR_app {shs:List Int} {r:List Nat} {l:Nat}:prodR shs (r++[l])=prodR shs r * shs.getD l 0:=by
  unfold prodR
  rw [List.foldl_append]; rfl
theorem rowsK_len {n:Nat}:∀ {k:Nat} {r:List Nat},r∈rowsK n k→r.length=k∧∀ l∈r,l < n
  | 0,r,h=>by
    have h:r∈[[]]:=h
    rw [List.mem_singleton.mp h]
    exact ⟨rfl,fun l hl=>by cases hl⟩
  | k + 1,r,h=>by
    obtain ⟨q,hq,h2⟩:=List.mem_flatMap.mp h
    obtain ⟨l,hl,rfl⟩:=List.mem_map.mp h2
    have ih:=rowsK_len hq
    refine ⟨by rw [List.length_append,ih.1]; rfl,fun z hz=>?_⟩
    rcases List.mem_append.mp hz with hz | hz
    · exact ih.2 z hz
    · rw [List.mem_singleton.mp hz]; exact List.mem_range.mp hl
noncomputable def cnt (shs:List Int) (m:Nat) (ch:List Int) (j0:Nat) (R:List (List Nat)) (x:Option Nat):Int:=tot R fun r=>if (endR m ch j0 r).2=x then prodR shs r else 0
noncomputable def GG (shs:List Int) (m:Nat) (c:Bool) (o x:Option Nat):Int:=sumTo shs.length fun l=>if stepE m c o l=x then shs.getD l 0 else 0
theorem GG_some {shs:List Int} {m j:Nat} {c:Bool} {x:Option Nat}:GG shs m c (some j) x=GP shs (if c=true then m - 1 else j) x shs.length:=by rw [GP_sum]; rfl
theorem GG_none {shs:List Int} {m:Nat} {c:Bool}:GG shs m c none none=shs.sum:=by rw [sum_to]; exact sumTo_congr fun l _=>if_pos rfl
theorem GG_no {shs:List Int} {m i:Nat} {c:Bool}:GG shs m c none (some i)=0:=by
  unfold GG
  rw [sumTo_congr (g:=fun _=>0) fun l _=>if_neg (by show ¬ (none:Option Nat)=some i; exact fun h=>by cases h),sumTo_zero]
theorem cnt_step {shs:List Int} {m:Nat} {ch:List Int} {j0 k:Nat} {x:Option Nat}:cnt shs m ch j0 (rowsK shs.length (k + 1)) x=tot (rowsK shs.length k) fun r=>prodR shs r * GG shs m (decide ((k:Int)∈ch)) (endR m ch j0 r).2 x:=by
  unfold cnt
  show tot ((rowsK shs.length k).flatMap fun r=>(List.range shs.length).map fun l=>r++[l]) _=_
  rw [tot_flat]
  refine tot_congr fun r hr=>?_
  have e:tot ((List.range shs.length).map fun l=>r++[l]) (fun r=>if (endR m ch j0 r).2=x then prodR shs r else 0)=tot (List.range shs.length) fun l=>if (endR m ch j0 (r++[l])).2=x then prodR shs (r++[l]) else 0:=by
    unfold tot
    rw [List.map_map]; rfl
  rw [e,tot_range]
  unfold GG
  rw [← sumTo_mul]
  refine sumTo_congr fun l _=>?_
  rw [endR_app,prodR_app,(rowsK_len hr).1]
  split
  · rfl
  · omega
theorem ends_in {n m:Nat} {ch:List Int} {j0:Nat} (h0:j0 < m):∀ {k:Nat} {r:List Nat},r∈rowsK n k→∀ j,(endR m ch j0 r).2=some j→j < m
  | 0,r,h,j,e=>by
    have h:r∈[[]]:=h
    rw [List.mem_singleton.mp h] at e
    cases e; exact h0
  | k + 1,r,h,j,e=>by
    obtain ⟨q,hq,h2⟩:=List.mem_flatMap.mp h
    obtain ⟨l,hl,rfl⟩:=List.mem_map.mp h2
    rw [endR_app] at e
    have ih:=ends_in (ch:=ch) h0 hq
    cases eo:(endR m ch j0 q).2 with
    | none=>rw [eo] at e; cases e
    | some j1 =>
      rw [eo] at e
      have h1:=ih j1 eo
      have e:stepN (if decide ((q.length:Int)∈ch)=true then m - 1 else j1) l=some j:=e
      have h2:(if decide ((q.length:Int)∈ch)=true then m - 1 else j1) < m:=by split <;> omega
      generalize (if decide ((q.length:Int)∈ch)=true then m - 1 else j1)=j2 at e h2
      unfold stepN at e
      split at e
      · cases e
      · have e:=Option.some.inj e
        omega
theorem cnt_cons {shs:List Int} {m:Nat} {ch:List Int} {j0:Nat} {r:List Nat} {R:List (List Nat)} {x:Option Nat}:cnt shs m ch j0 (r :: R) x=(if (endR m ch j0 r).2=x then prodR shs r else 0) + cnt shs m ch j0 R x:=tot_cons
theorem regroup {shs:List Int} {m:Nat} {ch:List Int} {j0:Nat} (h:Option Nat→Int):∀ {R:List (List Nat)},(∀ r∈R,∀ j,(endR m ch j0 r).2=some j→j < m) →
    tot R (fun r=>prodR shs r * h (endR m ch j0 r).2)=cnt shs m ch j0 R none * h none + sumTo m fun j=>cnt shs m ch j0 R (some j) * h (some j)
  | [],_=>by
    show (0:Int)=0 * h none + sumTo m fun j=>0 * h (some j)
    rw [sumTo_congr (g:=fun _=>0) fun j _=>Int.zero_mul _,sumTo_zero,Int.zero_mul]; rfl
  | r :: R,hin=>by
    have ih:=regroup (shs:=shs) h (R:=R) fun r hr=>hin r (List.mem_cons_of_mem _ hr)
    rw [tot_cons,ih]
    simp only [cnt_cons,Int.add_mul]
    rw [sumTo_add]
    cases e:(endR m ch j0 r).2 with
    | none =>
      rw [if_pos rfl,sumTo_congr (f:=fun i=>(if (none:Option Nat)=some i then prodR shs r else 0) * h (some i)) (g:=fun _=>0) fun i _=>by rw [if_neg (by exact fun h=>by cases h),Int.zero_mul],sumTo_zero]
      omega
    | some k =>
      have hk:=hin r List.mem_cons_self k e
      rw [if_neg (by exact fun h=>by cases h),sumTo_congr (f:=fun i=>(if some k=some i then prodR shs r else 0) * h (some i)) (g:=fun i=>if i=k then prodR shs r * h (some i) else 0) fun i _=>by
        by_cases e:i=k
        · rw [if_pos e,if_pos (by rw [e])]
        · rw [if_neg e,if_neg (fun h=>e (Option.some.inj h).symm),Int.zero_mul],sumTo_one (f:=fun i=>prodR shs r * h (some i)) hk]
      omega
theorem LP_chg {shs ws:List Int} {x:Option Nat} {c:Bool} (hm:0 < ws.length):LP shs (chgW c ws) x (chgW c ws).length=sumTo ws.length fun j=>ws.getD j 0 * GG shs ws.length c (some j) x:=by
  rw [LP_sum]
  cases c with
  | false=>exact sumTo_congr fun j _=>by rw [GG_some]; rfl
  | true =>
    have e1:chgW true ws=rowN ws.length (fun j=>if j=ws.length - 1 then ws.sum else 0):=rfl
    rw [e1,rowN_len,sumTo_congr (g:=fun j=>if j=ws.length - 1 then ws.sum * GP shs j x shs.length else 0) fun j hj=>by
      rw [rowN_get hj]
      split
      · rfl
      · omega,sumTo_one (f:=fun j=>ws.sum * GP shs j x shs.length) (by omega)]
    have e2:(sumTo ws.length fun j=>ws.getD j 0 * GG shs ws.length true (some j) x)=sumTo ws.length fun j=>ws.getD j 0 * GP shs (ws.length - 1) x shs.length:=sumTo_congr fun j _=>by rw [GG_some]; rfl
    rw [e2,sumTo_mulr,← sum_to]
theorem chgW_len {c:Bool} {ws:List Int}:(chgW c ws).length=ws.length:=by
  unfold chgW
  split
  · exact rowN_len
  · rfl
theorem main {shs:List Int} {m:Nat} {ch:List Int} {j0:Nat} (h0:j0 < m):∀ k,progW shs (rowN m fun j=>if j=j0 then 1 else 0) ch k=(rowN m (fun j=>cnt shs m ch j0 (rowsK shs.length k) (some j)),cnt shs m ch j0 (rowsK shs.length k) none)
  | 0=>by
    show (_,_)=(_,_)
    have e:∀ x,cnt shs m ch j0 (rowsK shs.length 0) x=if some j0=x then 1 else 0:=fun x=>by
      show cnt shs m ch j0 [[]] x=_
      rw [cnt_cons]
      show (if some j0=x then (1:Int) else 0) + 0=_
      omega
    rw [e none,if_neg (by exact fun h=>by cases h)]
    congr 1
    exact rowN_ext fun j _=>by
      rw [e]
      by_cases hj:j=j0
      · rw [if_pos hj,if_pos (by rw [hj])]
      · rw [if_neg hj,if_neg (fun h=>hj (Option.some.inj h).symm)]
  | k + 1=>by
    have ih:=main (shs:=shs) (ch:=ch) h0 k
    unfold progW
    rw [ih]
    dsimp only
    generalize hw:rowN m (fun j=>cnt shs m ch j0 (rowsK shs.length k) (some j))=ws
    have hl:ws.length=m:=by rw [← hw,rowN_len]
    have hg:∀ j,j < m→ws.getD j 0=cnt shs m ch j0 (rowsK shs.length k) (some j):=fun j hj=>by rw [← hw,rowN_get hj]
    have key:∀ x,LP shs (chgW (decide ((k:Int)∈ch)) ws) x (chgW (decide ((k:Int)∈ch)) ws).length=sumTo m fun j=>cnt shs m ch j0 (rowsK shs.length k) (some j) * GG shs m (decide ((k:Int)∈ch)) (some j) x:=fun x=>by
      rw [LP_chg (by omega),hl]
      exact sumTo_congr fun j hj=>by rw [hg j hj]
    have rg:∀ x,cnt shs m ch j0 (rowsK shs.length (k + 1)) x=_:=fun x=>(cnt_step (k:=k)).trans (regroup (fun o=>GG shs m (decide ((k:Int)∈ch)) o x) fun r hr=>ends_in h0 hr)
    congr 1
    · unfold loseB
      rw [chgW_len,hl]
      refine rowN_ext fun i _=>?_
      have:=key (some i)
      rw [chgW_len,hl] at this
      rw [this,rg,GG_no,Int.mul_zero,Int.zero_add]
    · unfold loseF
      rw [key,rg,GG_none]
theorem prod_nn {shs:List Int} (h:∀ z∈shs,0≤z∧z≤9) (r:List Nat):0≤prodR shs r:=by
  unfold prodR
  have:∀ (r:List Nat) (a:Int),0≤a→0≤r.foldl (fun a l=>a * shs.getD l 0) a:=by
    intro r
    induction r with
    | nil=>intro a ha; exact ha
    | cons l r ih =>
      intro a ha
      refine ih _ (Int.mul_nonneg ha ?_)
      rw [List.getD_eq_getElem?_getD]
      cases e:shs[l]? with
      | none=>exact Int.le_refl _
      | some z=>exact (h z (List.mem_of_getElem? e)).1
  exact this r 1 (by decide)
theorem tot_nn {α:Type} {g:α→Int}:∀ {R:List α},(∀ r∈R,0≤g r)→0≤tot R g
  | [],_=>Int.le_refl _
  | a :: R,e=>by
    rw [tot_cons]
    have:=e a List.mem_cons_self
    have:=tot_nn fun r hr=>e r (List.mem_cons_of_mem _ hr)
    omega
theorem tot_le {α:Type} {g h:α→Int}:∀ {R:List α},(∀ r∈R,g r≤h r)→tot R g≤tot R h
  | [],_=>Int.le_refl _
  | a :: R,e=>by
    rw [tot_cons,tot_cons]
    have:=e a List.mem_cons_self
    have:=tot_le fun r hr=>e r (List.mem_cons_of_mem _ hr)
    omega
theorem tot_mulr {α:Type} {g:α→Int} {c:Int}:∀ {R:List α},tot R (fun r=>g r * c)=tot R g * c
  | []=>by rw [tot_nil,tot_nil,Int.zero_mul]
  | a :: R=>by rw [tot_cons,tot_cons,tot_mulr,Int.add_mul]
theorem tot_pow {shs:List Int}:∀ k,tot (rowsK shs.length k) (prodR shs)=shs.sum ^ k
  | 0=>by rw [Int.pow_zero]; rfl
  | k + 1=>by
    show tot ((rowsK shs.length k).flatMap fun r=>(List.range shs.length).map fun l=>r++[l]) _=_
    rw [tot_flat,Int.pow_succ,← tot_pow k,← tot_mulr]
    refine tot_congr fun r _=>?_
    have e:tot ((List.range shs.length).map fun l=>r++[l]) (prodR shs)=tot (List.range shs.length) fun l=>prodR shs (r++[l]):=by
      unfold tot
      rw [List.map_map]; rfl
    rw [e,tot_range,sum_to shs,← sumTo_mul]
    exact sumTo_congr fun l _=>prodR_app
theorem sum_le {c:Int} (hc:0≤c):∀ {ns:List Int},(∀ z∈ns,0≤z∧z≤c)→0≤ns.sum∧ns.sum≤c * (ns.length:Int)
  | [],_=>⟨Int.le_refl _,by simp⟩
  | a :: ns,h=>by
    have ih:=sum_le hc fun z hz=>h z (List.mem_cons_of_mem _ hz)
    have:=h a List.mem_cons_self
    rw [List.sum_cons,List.length_cons,Int.natCast_add,Int.mul_add]
    show _∧_≤_ + c * 1
    omega
theorem pow36 {k:Nat} (hk:k≤12):(36:Int) ^ k≤4738381338321616896:=by
  have:k=0∨k=1∨k=2∨k=3∨k=4∨k=5∨k=6∨k=7∨k=8∨k=9∨k=10∨k=11∨k=12:=by omega
  rcases this with rfl | rfl | rfl | rfl | rfl | rfl | rfl | rfl | rfl | rfl | rfl | rfl | rfl <;> decide
theorem cnt_bd {shs:List Int} {m:Nat} {ch:List Int} {j0 k:Nat} {x:Option Nat} (h4:shs.length≤4) (h9:∀ z∈shs,0≤z∧z≤9) (hk:k≤12):0≤cnt shs m ch j0 (rowsK shs.length k) x∧cnt shs m ch j0 (rowsK shs.length k) x≤4738381338321616896:=by
  have s1:=sum_le (c:=9) (by decide) h9
  have s2:shs.sum≤36:=by omega
  constructor
  · refine tot_nn fun r _=>?_
    split
    · exact prod_nn h9 r
    · exact Int.le_refl _
  · refine Int.le_trans (tot_le (h:=prodR shs) fun r _=>?_) ?_
    · split
      · exact Int.le_refl _
      · exact prod_nn h9 r
    · rw [tot_pow]
      have p1:∀ n:Nat,shs.sum ^ n≤36 ^ n∧0≤shs.sum ^ n:=by
        intro n
        induction n with
        | zero=>rw [Int.pow_zero,Int.pow_zero]; exact ⟨Int.le_refl _,by decide⟩
        | succ n ih =>
          rw [Int.pow_succ,Int.pow_succ]
          exact ⟨Int.mul_le_mul ih.1 s2 s1.1 (Int.le_trans ih.2 ih.1),Int.mul_nonneg ih.2 s1.1⟩
      exact Int.le_trans (p1 k).1 (pow36 hk)
theorem pow_bd {s:Int} (s1:0≤s) (s2:s≤36) {k:Nat} (hk:k≤12):0≤s ^ k∧s ^ k≤4738381338321616896:=by
  have p1:∀ n:Nat,s ^ n≤36 ^ n∧0≤s ^ n:=by
    intro n
    induction n with
    | zero=>rw [Int.pow_zero,Int.pow_zero]; exact ⟨Int.le_refl _,by decide⟩
    | succ n ih =>
      rw [Int.pow_succ,Int.pow_succ]
      exact ⟨Int.mul_le_mul ih.1 s2 s1 (Int.le_trans ih.2 ih.1),Int.mul_nonneg ih.2 s1⟩
  exact ⟨(p1 k).2,Int.le_trans (p1 k).1 (pow36 hk)⟩
theorem cnt_all {shs:List Int} {m:Nat} {ch:List Int} {j0 k:Nat} (h0:j0 < m):cnt shs m ch j0 (rowsK shs.length k) none + sumTo m (fun j=>cnt shs m ch j0 (rowsK shs.length k) (some j))=shs.sum ^ k:=by
  have h:=regroup (shs:=shs) (m:=m) (ch:=ch) (j0:=j0) (fun _=>1) (R:=rowsK shs.length k) fun r hr j e=>ends_in h0 hr j e
  rw [← tot_pow,← tot_congr (g:=fun r=>prodR shs r * 1) fun r _=>Int.mul_one _,h,Int.mul_one]
  congr 1
  exact sumTo_congr fun j _=>(Int.mul_one _).symm
theorem sumTo_nn {f:Nat→Int}:∀ {n:Nat},(∀ i,i < n→0≤f i)→0≤sumTo n f
  | 0,_=>Int.le_refl _
  | n + 1,h=>by
    have:=sumTo_nn (n:=n) fun i hi=>h i (by omega)
    have:=h n (by omega)
    show 0≤sumTo n f + f n
    omega
structure ShOk (full mark:Int) (shs:List Int):Prop where
  f1:1≤full
  f2:full≤6
  m1:0≤mark
  m2:mark≤full
  l1:0 < shs.length
  l2:shs.length≤4
  s:∀ z∈shs,0≤z∧z≤9
noncomputable def RowZ (d:D) (c:List Int):Prop:=d=.tup (c.map D.int)∨d=.lst (c.map D.int)
noncomputable def wbD (full mark:Int) (shs:List Int) (st n:Int) (ch:List Int):D:=.tup (((progW shs (w0 full mark st) ch n.toNat).1++[(progW shs (w0 full mark st) ch n.toNat).2]).map D.int)
theorem ris_row {d:D} {lo hi:Int} (h:risD d lo hi=true):∃ ch,RowZ d ch∧∀ k∈ch,lo≤k∧k≤hi:=by
  unfold risD at h
  rw [Bool.and_eq_true] at h
  have h:=h.1
  unfold wrowD at h
  cases er:rowD d with
  | none=>rw [er] at h; cases h
  | some xs =>
    rw [er] at h
    simp only [Bool.and_eq_true,decide_eq_true_eq] at h
    obtain ⟨ns,rfl,hn⟩:=wholes_ints h.2
    refine ⟨ns,?_,hn⟩
    cases d <;> first | (cases er; exact .inr rfl) | (cases er; exact .inl rfl) | cases er
theorem chg_is {ws:List Int} (h:0 < ws.length):(List.replicate (((ws.length:Nat):Int) - 1).toNat [D.int 0]).flatten++[D.int ws.sum]=(chgW true ws).map D.int:=by
  rw [show ((ws.length:Int) - 1).toNat=ws.length - 1 by omega,rep0]
  show _=(rowN ws.length (fun j=>if j=ws.length - 1 then ws.sum else 0)).map D.int
  generalize hm:ws.length - 1=m
  rw [show ws.length=m + 1 by omega]
  unfold rowN
  rw [List.range_succ,List.map_append,List.map_append]
  congr 1
  · congr 1
    exact List.map_congr_left fun i hi=>by rw [if_neg (by have:=List.mem_range.mp hi; omega)]
  · show _=[D.int (if m=m then ws.sum else 0)]
    rw [if_pos rfl]
theorem w0_is {full mark st:Int} (h1:mark≤st):w0 full mark st=rowN (full - mark + 1).toNat fun j=>if j=(st - mark).toNat then 1 else 0:=by
  unfold w0 rowN
  refine List.map_congr_left fun j _=>?_
  by_cases e:j=(st - mark).toNat
  · rw [if_pos e,if_pos (by omega)]
  · rw [if_neg e,if_neg (by omega)]
theorem few_shs {full mark:Int} {shs:List Int} (h:ShOk full mark shs):fewD shs:=⟨by have:=h.l2; omega,fun z hz=>by have:=h.s z hz; omega⟩
theorem sum_shs {full mark:Int} {shs:List Int} (h:ShOk full mark shs):0≤shs.sum∧shs.sum≤36:=by
  have:=sum_le (c:=9) (by decide) h.s
  have:=h.l2
  omega
noncomputable def mOf (full mark:Int):Nat:=(full - mark + 1).toNat
theorem prog_bd {full mark:Int} {shs:List Int} (h:ShOk full mark shs) {st:Int} {ch:List Int} (s1:mark≤st) (s2:st≤full) {k:Nat} (hk:k≤12):(progW shs (w0 full mark st) ch k).1.length=mOf full mark∧0 < mOf full mark∧mOf full mark≤7∧bigD (progW shs (w0 full mark st) ch k).1:=by
  have f2:=h.f2
  have m1:=h.m1
  have m2:=h.m2
  have hm:0 < mOf full mark∧mOf full mark≤7:=by unfold mOf; omega
  have hj:(st - mark).toNat < mOf full mark:=by unfold mOf; omega
  rw [w0_is s1,show (full - mark + 1).toNat=mOf full mark from rfl,main hj]
  have nn:∀ x,0≤cnt shs (mOf full mark) ch (st - mark).toNat (rowsK shs.length k) x:=fun x=>(cnt_bd (m:=mOf full mark) (ch:=ch) (j0:=(st - mark).toNat) (x:=x) h.l2 h.s hk).1
  refine ⟨rowN_len,hm.1,hm.2,fun z hz=>?_,?_⟩
  · unfold rowN at hz
    obtain ⟨j,_,rfl⟩:=List.mem_map.mp hz
    exact nn _
  · have e:=cnt_all (shs:=shs) (ch:=ch) (k:=k) hj
    have b:=pow_bd (sum_shs h).1 (sum_shs h).2 hk
    have:=nn none
    rw [rowN_sum]
    omega
noncomputable def spWB (cs:Cs):Sp2:=fun ds δ q x=>∃ full mark shs sd rd cd,ds=[partD cs full mark shs,sd,rd,cd]∧ShOk full mark shs∧plainD sd=true∧plainD rd=true∧thingD cd=true ∧
  (wholeD sd mark full=false→x cs.NoStands [] δ)∧(wholeD sd mark full=true→wholeD rd 0 12=false→x cs.NoRounds [] δ) ∧
  (wholeD sd mark full=true→∀ n:Int,rd=.int n→0≤n→n≤12→(risD cd 0 (n - 1)=false→x cs.NoPlan [("at",.int (-1))] δ)∧(∀ st ch,sd=.int st→RowZ cd ch→risD cd 0 (n - 1)=true→q (wbD full mark shs st n ch) δ))
noncomputable abbrev p_weights_behind:List Str:=["part","stand","rounds","changes"]
theorem sc_weights_behind:FnScope ["part","stand","rounds","changes","weights","fallen","k","lost"] p_weights_behind (defScope s_weights_behind):=⟨rfl,rfl,rfl,by decide +kernel,rfl,by decide +kernel,by decide +kernel⟩
noncomputable abbrev F_weights_behind (P:Program) (w:World) (K:PySem.W.Frag) (mg:Str→Option Value) (base:Heap) (cs:Cs):Prop:=Fun2 P w K mg base "weights_behind" 6 p_weights_behind (spWB cs)
theorem ok_weights_behind {f:Addr} {fd:FuncData} (Df:DefAt K mg "weights_behind" s_weights_behind p_weights_behind f fd) (T:Txt K mg cs) (G_check_stand:F_check_stand P w K mg base cs) (G_is_whole:F_is_whole P w K mg base cs) (M_NoPlan:MkE P w K mg base "NoPlan" cs.NoPlan 1 ["self","at"] (spXI cs.NoPlan "at")) (G_is_rising_row:F_is_rising_row P w K mg base cs) (G_weights_of:F_weights_of P w K mg base cs) (G_lose_once:F_lose_once P w K mg base cs) (G_total_of:F_total_of P w K mg base cs):F_weights_behind P w K mg base cs:=by
  have nd:=sc_weights_behind.nd
  refine def2 Df sc_weights_behind (fun ds δ q x h=>?_) (fun cdv A outer s H E Y hr=>⟨_,(ss_cons (s2_expr (e2_call G_check_stand (hr.mono (by decide)) flies_fn (a2_cons (e2_v 0) (a2_cons (e2_v 1) a2_nil))))
      (ss_cons (s2_if (t2_not (t2_val (e2_call G_is_whole (hr.mono (by decide)) flies_fn (a2_cons (e2_v 2) (a2_cons e2_int (a2_cons (e2_gx T.g_MOST_ROUNDS_HERE) a2_nil)))))) (ss_one (s2_raise0 rfl flies_fn T.k_NoRounds T.x_NoRounds T.c_NoRounds)) ss_nil)
      (ss_cons (s2_if (t2_not (t2_val (e2_call G_is_rising_row (hr.mono (by decide)) flies_fn (a2_cons (e2_v 3) (a2_cons e2_int (a2_cons (e2_op op_sub d_sub (e2_v 2) e2_int) a2_nil)))))) (ss_one (s2_raise1 rfl flies_fn M_NoPlan (hr.mono (by decide)) (a2_cons (e2_neg e2_int) a2_nil))) ss_nil)
      (ss_cons (s2_set 4 nd (e2_call G_weights_of (hr.mono (by decide)) flies_fn (a2_cons (e2_v 0) (a2_cons (e2_v 1) a2_nil))))
      (ss_cons (s2_set 5 nd e2_int)
      (ss_cons (s2_for PassesOwn.leaving rfl (i2_range1 T.n_range (a2_cons (e2_v 2) a2_nil)) (pg_name (i:=6) nd rfl (by first | exact Or.inl rfl | exact Or.inr rfl)) (td_name (i:=6)) (ss_cons (s2_if (t2_cmp op_in_seq d_in (e2_v 6) (e2_v 3) rfl) (ss_one (s2_set 4 nd (e2_op op_addE d_addE (e2_op op_repA d_repA (e2_tup (a2_cons e2_int a2_nil)) (e2_op op_sub d_sub (e2_lenv 4 T.n_len) e2_int)) (e2_tup (a2_cons (e2_b (call_sum rfl) d_sumB T.n_sum bt_sum (a2_cons (e2_v 4) a2_nil)) a2_nil))))) ss_nil)
      (ss_cons (s2_unp (e2_call G_lose_once (hr.mono (by decide)) flies_fn (a2_cons (e2_v 0) (a2_cons (e2_v 4) a2_nil))) (pg_tup rfl (pgs_cons (pg_name (i:=4) nd rfl (by first | exact Or.inl rfl | exact Or.inr rfl)) (pgs_cons (pg_name (i:=7) nd rfl (by first | exact Or.inl rfl | exact Or.inr rfl)) pgs_nil))) (td_tup (is:=[4,7]) rfl))
      (ss_one (s2_set 5 nd (e2_op op_addE d_addE (e2_op op_mul d_mul (e2_v 5) (e2_call G_total_of (hr.mono (by decide)) flies_fn (a2_cons (e2_v 0) a2_nil))) (e2_v 7)))))))
      (ss_one (s2_ret (e2_op op_addE d_addE (e2_v 4) (e2_tup (a2_cons (e2_v 5) a2_nil))))))))))),fun ds δ q x h=>?_⟩)
  · unfold spWB at h
    obtain ⟨full,mark,shs,sd,rd,cd,rfl,h,hs,hr,hc,hx1,hx2,h3⟩:=h
    rfl
  · unfold spWB at h
    obtain ⟨full,mark,shs,sd,rd,cd,rfl,h,hs,hr,hc,hx1,hx2,h3⟩:=h
    rw [show start2 ["part","stand","rounds","changes","weights","fallen","k","lost"] _=[.val _,.val _,.val _,.val _,.no,.no,.no,.no] from rfl]
    walk_at "dn"
    refine ⟨full,mark,shs,sd,rfl,hs,fun e1=>?_,hx1⟩
    simp only [spWhole]
    refine ⟨hr,?_⟩
    cases e2:wholeD rd 0 12 with
    | false=>exact hx2 e1 e2
    | true =>
      obtain ⟨n,rfl,n1,n2⟩:=wholeD_int e2
      obtain ⟨hx3,hq⟩:=h3 e1 n rfl n1 n2
      simp only [Bool.not_true,Bool.false_eq_true,if_false,spRising]
      refine ⟨hc,by omega,?_⟩
      cases e3:risD cd 0 (n - 1) with
      | false=>exact hx3 e3
      | true =>
        obtain ⟨st,rfl,s1,s2⟩:=wholeD_int e1
        obtain ⟨ch,hch,_⟩:=ris_row e3
        have hq:=hq st ch rfl hch e3
        simp only [Bool.not_true,Bool.false_eq_true,if_false]
        refine ⟨full,mark,shs,st,rfl,h.m1,h.m2,h.f2,?_⟩
        dsimp only
        refine ⟨⟨by omega,by omega⟩,?_⟩
        refine forL_ix (fun k ρ δ'=>∃ c6 c7,ρ=[.val (partD cs full mark shs),.val (.int st),.val (.int n),.val cd,.val (.tup ((progW shs (w0 full mark st) ch k).1.map D.int)),.val (.int (progW shs (w0 full mark st) ch k).2),c6,c7]∧δ'=δ) ⟨_,_,rfl,rfl⟩ ?_ ?_
        · rintro k d ρ δ' rest hk ⟨c6,c7,rfl,rfl⟩ hrest
          obtain ⟨hk2,rfl⟩:=rngD_get hk
          obtain ⟨p1,p2,p3,p4⟩:=prog_bd h (ch:=ch) s1 s2 (k:=k) (by omega)
          have eP:progW shs (w0 full mark st) ch (k + 1)=(loseB shs (chgW (decide ((k:Int)∈ch)) (progW shs (w0 full mark st) ch k).1),(progW shs (w0 full mark st) ch k).2 * shs.sum + loseF shs (chgW (decide ((k:Int)∈ch)) (progW shs (w0 full mark st) ch k).1)):=rfl
          rw [eP] at hrest
          generalize progW shs (w0 full mark st) ch k=S at p1 p4 hrest ⊢
          obtain ⟨W,f⟩:=S
          dsimp only at p1 p4 hrest ⊢
          have sm:=sum_shs h
          have hin:∃ xs,seqD cd=some xs∧xs=ch.map D.int:=by rcases hch with rfl | rfl <;> exact ⟨_,rfl,rfl⟩
          obtain ⟨xs,ex,rfl⟩:=hin
          unfold seqD at ex
          unfold stepG
          walk_at "dn"
          rw [ex]
          simp only [flat_ints,in_ints,flatD,Bool.true_and,true_and,Int.zero_add,decide_eq_true_eq]
          by_cases hki:(k:Int)∈ch
          · rw [decide_eq_true hki] at hrest
            rw [if_pos hki]
            simp only [List.length_map,ints_map]
            refine ⟨by omega,by omega,by omega,by simp,p4,by rw [List.flatten_replicate_singleton,List.length_replicate]; omega,?_⟩
            rw [chg_is (by omega)]
            refine ⟨full,mark,shs,_,rfl,h.l2,h.s,by rw [chgW_len]; omega,?_⟩
            walk_at "dn"
            refine ⟨full,mark,shs,rfl,few_shs h,?_⟩
            exact ⟨.inr ⟨by omega,by omega⟩,hrest _ _ ⟨_,_,rfl,rfl⟩⟩
          · rw [decide_eq_false hki] at hrest
            rw [if_neg hki]
            refine ⟨full,mark,shs,_,rfl,h.l2,h.s,by omega,?_⟩
            walk_at "dn"
            refine ⟨full,mark,shs,rfl,few_shs h,?_⟩
            exact ⟨.inr ⟨by omega,by omega⟩,hrest _ _ ⟨_,_,rfl,rfl⟩⟩
        · rintro ρ δ' ⟨c6,c7,rfl,rfl⟩
          obtain ⟨p1,p2,p3,p4⟩:=prog_bd h (ch:=ch) s1 s2 (k:=n.toNat) (by omega)
          rw [rngD_len]
          walk_at "dn"
          refine ⟨by rw [List.length_map,p1]; omega,?_⟩
          unfold wbD at hq
          rw [List.map_append] at hq
          exact hq
noncomputable def spLRow:Sp2:=fun ds δ q _=>∃ (ns ms:List Int) (due:D),ds=[.tup (ns.map D.int),due]∧(due=.lst (ms.map D.int)∨due=.tup (ms.map D.int))∧q (.bl (decide (ns=ms))) δ
noncomputable abbrev p_law_row:List Str:=["_law_found","_law_due_here"]
theorem sc_law_row:FnScope ["_law_found","_law_due_here","_law_one","_law_other"] p_law_row (defScope s_law_row):=⟨rfl,rfl,rfl,by decide +kernel,rfl,by decide +kernel,by decide +kernel⟩
noncomputable abbrev F_law_row (P:Program) (w:World) (K:PySem.W.Frag) (mg:Str→Option Value) (base:Heap) (cs:Cs):Prop:=Fun2 P w K mg base "_law_row" 3 p_law_row spLRow
theorem ok_law_row {f:Addr} {fd:FuncData} (Df:DefAt K mg "_law_row" s_law_row p_law_row f fd) (T:Txt K mg cs) (G_law_number:F_law_number P w K mg base cs):F_law_row P w K mg base cs:=by
  have nd:=sc_law_row.nd
  refine def2 Df sc_law_row (fun ds δ q x h=>?_) (fun cdv A outer s H E Y hr=>⟨_,(ss_cons (s2_if (PW2.pt (w2_or (t2_not (t2_val (e2_b call_inst (d_inst (K:=K)) T.n_isinstance bt_isinstance (a2_cons (e2_v 0) (a2_cons (e2_ty "tuple" T.n_tuple bt_tuple) a2_nil))))) (w2_or1 (t2_cmp (op_neE hr.units0) d_neE (e2_lenv 0 T.n_len) (e2_lenv 1 T.n_len) (nomark _))))) (ss_one (s2_ret e2_bl)) ss_nil)
      (ss_cons (s2_for PassesOwn.leaving rfl (i2_zip T.n_zip (a2_cons (e2_v 0) (a2_cons (e2_v 1) a2_nil))) (pg_tup rfl (pgs_cons (pg_name (i:=2) nd rfl (by first | exact Or.inl rfl | exact Or.inr rfl)) (pgs_cons (pg_name (i:=3) nd rfl (by first | exact Or.inl rfl | exact Or.inr rfl)) pgs_nil))) (td_tup (is:=[2,3]) rfl) (ss_one (s2_if (t2_not (t2_val (e2_call G_law_number (hr.mono (by decide)) flies_fn (a2_cons (e2_v 2) (a2_cons (e2_v 3) a2_nil))))) (ss_one (s2_ret e2_bl)) ss_nil)))
      (ss_one (s2_ret e2_bl)))),fun ds δ q x h=>?_⟩)
  · unfold spLRow at h
    obtain ⟨ns,ms,due,rfl,hd,hq⟩:=h
    rfl
  · unfold spLRow at h
    obtain ⟨ns,ms,due,rfl,hd,hq⟩:=h
    rw [show start2 ["_law_found","_law_due_here","_law_one","_law_other"] _=[.val _,.val _,.no,.no] from rfl]
    have ty:instQ K (.tup (ns.map D.int)) (.ty "tuple")=some true:=by rw [ko_tuple K (d:=.tup (ns.map D.int)) trivial (fun C fs=>⟨(by intro z; cases z),(by intro z; cases z)⟩)]
    have t1:TyD K (.tup (ns.map D.int)):=trivial
    have main:∀ δ' (E:End2),E.rt=q→(ns.length=ms.length)→E.nx=(fun ρ δ1=>q (.bl true) δ1)→δ'=δ→forL (g2T [2,3]) (t2IfS (t2Not (t2B (t2Call spNumber (t2Cons (t2V 2) (t2Cons (t2V 3) t2Nil))))) (t2Ret (t2C (.bl false))) t2Next) E (zipD (ns.map D.int) (ms.map D.int)) [.val (.tup (ns.map D.int)),.val due,.no,.no] δ':=by
      intro δ' E hE hlen hN hδ
      subst hδ
      refine forL_ix (fun i ρ δ1=>∃ c2 c3,ρ=[.val (.tup (ns.map D.int)),.val due,c2,c3]∧δ1=δ'∧ns.take i=ms.take i) ⟨_,_,rfl,rfl,rfl⟩ ?_ ?_
      · rintro i d ρ δ1 rest hi ⟨c2,c3,rfl,rfl,hi2⟩ hrest
        obtain ⟨a,b,h1,h2,rfl⟩:=zipD_get hi
        rw [List.getElem?_map,Option.map_eq_some_iff] at h1 h2
        obtain ⟨x,hx,rfl⟩:=h1
        obtain ⟨y,hy,rfl⟩:=h2
        unfold stepG
        walk_at "dn"
        by_cases exy:x=y
        · have e1:numD (.int x) y=true:=decide_eq_true exy
          simp only [spNumber,plainD,true_and,e1,Bool.not_true,Bool.false_eq_true,if_false]
          exact hrest _ _ ⟨_,_,rfl,rfl,by rw [List.take_succ,List.take_succ,hi2,hx,hy,exy]⟩
        · have e1:numD (.int x) y=false:=decide_eq_false exy
          simp only [spNumber,plainD,true_and,e1,Bool.not_false,if_true]
          rw [hE]
          have:decide (ns=ms)=false:=decide_eq_false (fun z=>by subst z; rw [hx] at hy; cases hy; exact exy rfl)
          rw [this] at hq
          exact hq
      · rintro ρ δ1 ⟨c2,c3,rfl,rfl,hi2⟩
        rw [hN]
        rw [zipD_len,List.length_map,List.length_map,← hlen,Nat.min_self,List.take_length] at hi2
        rw [hlen,List.take_length] at hi2
        rw [decide_eq_true hi2] at hq
        exact hq
    rcases hd with rfl | rfl
    all_goals
      walk_at "dn"
      simp only [ty,t1,true_and,Bool.not_true,Bool.false_eq_true,if_false,List.length_map]
      split
      · rename_i hne
        rw [Bool.not_eq_true',decide_eq_false_iff_not] at hne
        rw [decide_eq_false (fun z=>hne (by rw [z]))] at hq
        exact hq
      · rename_i hne
        rw [Bool.not_eq_true',decide_eq_false_iff_not,Decidable.not_not] at hne
        exact main δ _ rfl (by omega) rfl rfl
theorem DkAt.mono {p:Addr} {ns:List Int} {n m:Nat} {δ:Dk} (h:DkAt p ns n δ) (l:n≤m):DkAt p ns m δ:=by
  obtain ⟨c,k,e,h1,h2,h3⟩:=h
  exact ⟨c,k,e,h1,h2,by omega⟩
noncomputable def specD (full mark:Int) (shs:List Int):D:=.tup [.int full,.int mark,.tup (shs.map D.int)]
theorem sum_pos {ns:List Int} (h:∀ z∈ns,0≤z∧z≤9) {a:Int} (ha:a∈ns) (h0:a≠0):ns.sum≠0:=by
  induction ns with
  | nil=>cases ha
  | cons b r ih =>
    have hb:=h b List.mem_cons_self
    have hr:=(sum_le (c:=9) (by decide) fun z hz=>h z (List.mem_cons_of_mem _ hz)).1
    rw [List.sum_cons]
    rcases List.mem_cons.mp ha with rfl | ha
    · omega
    · have:=ih (fun z hz=>h z (List.mem_cons_of_mem _ hz)) ha
      omega
theorem ixN_last {n:Nat} (h:0 < n):ixN n (-1)=some (n - 1):=by
  unfold ixN
  rw [if_neg (by decide),if_pos (by omega)]
  congr 1
  omega
noncomputable def spSpec:Sp2:=fun ds δ q _=>∃ p ns n,ds=[.ref p,.int 6]∧DkAt p ns n δ∧n < 2 ^ 20∧∀ full mark shs δ',ShOk full mark shs→shs.sum≠0→DkAt p ns (n + 20) δ'→q (specD full mark shs) δ'
noncomputable abbrev p_law_spec:List Str:=["_law_deck_here","_law_most"]
theorem sc_law_spec:FnScope ["_law_deck_here","_law_most","_law_full","_law_mark","_law_shares"] p_law_spec (defScope s_law_spec):=⟨rfl,rfl,rfl,by decide +kernel,rfl,by decide +kernel,by decide +kernel⟩
noncomputable abbrev F_law_spec (P:Program) (w:World) (K:PySem.W.Frag) (mg:Str→Option Value) (base:Heap) (cs:Cs):Prop:=Fun2 P w K mg base "_law_spec" 5 p_law_spec spSpec
theorem ok_law_spec {f:Addr} {fd:FuncData} (Df:DefAt K mg "_law_spec" s_law_spec p_law_spec f fd) (T:Txt K mg cs) (G_law_take:F_law_take P w K mg base cs):F_law_spec P w K mg base cs:=by
  have nd:=sc_law_spec.nd
  refine def2 Df sc_law_spec (fun ds δ q x h=>?_) (fun cdv A outer s H E Y hr=>⟨_,(ss_cons (s2_set 2 nd (e2_op op_addE d_addE e2_int (e2_call G_law_take (hr.mono (by decide)) flies_fn (a2_cons (e2_v 0) (a2_cons (e2_v 1) a2_nil)))))
      (ss_cons (s2_set 3 nd (e2_op op_mul d_mul (e2_call G_law_take (hr.mono (by decide)) flies_fn (a2_cons (e2_v 0) (a2_cons (e2_op op_addE d_addE (e2_v 2) e2_int) a2_nil))) (e2_call G_law_take (hr.mono (by decide)) flies_fn (a2_cons (e2_v 0) (a2_cons e2_int a2_nil)))))
      (ss_cons (s2_ownM (i:=4) rfl (CompOkM.of ["_law_k"] [0] rfl) (i2_range1 T.n_range (a2_cons (e2_op op_addE d_addE e2_int (e2_call G_law_take (hr.mono (by decide)) flies_fn (a2_cons (e2_v 0) (a2_cons e2_int a2_nil)))) a2_nil)) (fun nd _ _ _ _ _=>(pg_name (i:=0) nd rfl (by first | exact Or.inl rfl | exact Or.inr rfl))) tgm_name (fun _ _ _ _ _ _=>if2_nil) (fun _ _ _ _ _ _=>(e2_call G_law_take (hr.mono (by decide)) flies0 (a2_cons (e2_v 1) (a2_cons e2_int a2_nil)))) nd)
      (ss_cons (s2_if (t2_cmp (op_eqE hr.units0) d_eqE (e2_maxv 4 rfl T.n_max) e2_int (nomark _)) (ss_one (s2_setv 4 (e2_neg e2_int) (e2_op op_addE d_addE e2_int (e2_call G_law_take (hr.mono (by decide)) flies_fn (a2_cons (e2_v 0) (a2_cons e2_int a2_nil)))))) ss_nil)
      (ss_one (s2_ret (e2_tup (a2_cons (e2_v 2) (a2_cons (e2_v 3) (a2_cons (e2_bt call_tuple_of d_tuple T.n_tuple bt_tuple (a2_cons (e2_v 4) a2_nil)) a2_nil)))))))))),fun ds δ q x h=>?_⟩)
  · unfold spSpec at h
    obtain ⟨p,ns,n,rfl,hD,hn,hq⟩:=h
    rfl
  · unfold spSpec at h
    obtain ⟨p,ns,n,rfl,hD,hn,hq⟩:=h
    rw [show start2 ["_law_deck_here","_law_most","_law_full","_law_mark","_law_shares"] _=[.val _,.val _,.no,.no,.no] from rfl]
    walk_at "dn"
    refine ⟨p,ns,_,6,rfl,hD,by omega,by decide,by decide,fun a0 δ0 a1 a2 hD=>?_⟩
    refine ⟨p,ns,_,1 + a0 + 1,rfl,hD,by omega,by omega,by omega,fun b0 δ1 b1 b2 hD=>?_⟩
    refine ⟨p,ns,_,2,rfl,hD,by omega,by decide,by decide,fun c0 δ2 c1 c2 hD=>?_⟩
    refine ⟨.inl ⟨by omega,by omega⟩,?_⟩
    refine ⟨p,ns,_,4,rfl,hD,by omega,by decide,by decide,fun d0 δ3 d1 d2 hD=>?_⟩
    dsimp only
    have hc:c0=0∨c0=1:=by omega
    have hmark:0≤b0 * c0∧b0 * c0≤1 + a0:=by
      rcases hc with rfl | rfl
      · rw [Int.mul_zero]; omega
      · rw [Int.mul_one]; omega
    generalize b0 * c0=mk at hmark
    have hsz:(rngD 0 (1 + d0).toNat).length≤4:=by rw [rngD_len]; omega
    have hs0:0 < (rngD 0 (1 + d0).toNat).length:=by rw [rngD_len]; omega
    refine ⟨⟨by omega,by omega⟩,?_⟩
    refine compL_ix (fun i acc δ'=>∃ ws:List Int,acc=ws.map D.int∧ws.length=i∧(∀ x∈ws,0≤x∧x≤9)∧DkAt p ns (n + 4 + i) δ') ⟨[],rfl,rfl,fun x hx=>(by cases hx),hD⟩ ?_ ?_
    · rintro i d acc δ' rest hi ⟨ws,rfl,hwl,hw,hD⟩ hrest
      have hlt:=(List.getElem?_eq_some_iff.mp hi).1
      walk_at "dn"
      refine ⟨p,ns,_,10,rfl,hD,by omega,by decide,by decide,fun x0 δ5 x1 x2 hD=>?_⟩
      refine ⟨by rw [List.length_map]; omega,hrest _ _ ⟨ws++[x0],by rw [List.map_append]; rfl,by rw [List.length_append,hwl]; rfl,fun y hy=>?_,hD⟩⟩
      rcases List.mem_append.mp hy with hy | hy
      · exact hw y hy
      · rw [List.mem_singleton.mp hy]; omega
    · rintro acc δ' ⟨ws,rfl,hwl,hw,hD⟩
      have hne:ws≠[]:=by rintro rfl; simp only [List.length_nil] at hwl; omega
      have ok:∀ us:List Int,us.length=ws.length→(∀ x∈us,0≤x∧x≤9)→ShOk (1 + a0) mk us:=fun us h1 h2=>⟨by omega,by omega,hmark.1,hmark.2,by omega,by omega,h2⟩
      rw [ints_map]
      refine ⟨hne,fun a ha=>?_⟩
      split
      · refine ⟨p,ns,_,9,rfl,hD,by omega,by decide,by decide,fun y0 δ6 y1 y2 hD=>?_⟩
        dsimp only
        rw [ixN_last (by rw [List.length_map]; omega)]
        dsimp only
        rw [show (ws.map D.int).set ((ws.map D.int).length - 1) (.int (1 + y0))=(ws.set (ws.length - 1) (1 + y0)).map D.int by rw [List.length_map,List.map_set]]
        have hw2:∀ x∈ws.set (ws.length - 1) (1 + y0),0≤x∧x≤9:=fun x hx=>by
          rcases List.mem_or_eq_of_mem_set hx with h | h
          · exact hw x h
          · omega
        exact hq _ _ _ _ (ok _ List.length_set hw2) (sum_pos hw2 (a:=1 + y0) (List.mem_set (by omega) _) (by omega)) (hD.mono (by omega))
      · rename_i h0
        exact hq _ _ _ _ (ok _ rfl hw) (sum_pos hw ha h0) (hD.mono (by omega))
noncomputable def spCases (cs:Cs):Sp2:=fun ds δ q _=>∃ full mark shs n,ds=[partD cs full mark shs,.int n]∧ShOk full mark shs∧0≤n∧n≤12∧q (.int (shs.sum ^ n.toNat)) δ
noncomputable def spChance (cs:Cs):Sp2:=fun ds δ q x=>∃ full mark shs sd rd cd,ds=[partD cs full mark shs,sd,rd,cd]∧ShOk full mark shs∧plainD sd=true∧plainD rd=true∧thingD cd=true ∧
  (wholeD sd mark full=false→x cs.NoStands [] δ)∧(wholeD sd mark full=true→wholeD rd 0 12=false→x cs.NoRounds [] δ) ∧
  (wholeD sd mark full=true→∀ n:Int,rd=.int n→0≤n→n≤12→(risD cd 0 (n - 1)=false→x cs.NoPlan [("at",.int (-1))] δ)∧(∀ st ch,sd=.int st→RowZ cd ch→risD cd 0 (n - 1)=true→q (.tup [.int (progW shs (w0 full mark st) ch n.toNat).2,.int (shs.sum ^ n.toNat)]) δ))
noncomputable def spAll:Sp2:=fun ds δ q _=>∃ full mark shs n,ds=[specD full mark shs,.int n]∧ShOk full mark shs∧0≤n∧n≤12∧q (.int (shs.sum ^ n.toNat)) δ
theorem at_last {xs:List Int} {z:Int}:atI ((xs++[z]).map D.int) (-1)=some (.int z):=by
  unfold atI
  rw [ixN_last (by simp)]
  simp
noncomputable abbrev p_cases_of:List Str:=["part","rounds"]
theorem sc_cases_of:FnScope ["part","rounds","cases","k"] p_cases_of (defScope s_cases_of):=⟨rfl,rfl,rfl,by decide +kernel,rfl,by decide +kernel,by decide +kernel⟩
noncomputable abbrev F_cases_of (P:Program) (w:World) (K:PySem.W.Frag) (mg:Str→Option Value) (base:Heap) (cs:Cs):Prop:=Fun2 P w K mg base "cases_of" 3 p_cases_of (spCases cs)
theorem ok_cases_of {f:Addr} {fd:FuncData} (Df:DefAt K mg "cases_of" s_cases_of p_cases_of f fd) (T:Txt K mg cs) (G_total_of:F_total_of P w K mg base cs):F_cases_of P w K mg base cs:=by
  have nd:=sc_cases_of.nd
  refine def2 Df sc_cases_of (fun ds δ q x h=>?_) (fun cdv A outer s H E Y hr=>⟨_,(ss_cons (s2_set 2 nd e2_int)
      (ss_cons (s2_for PassesOwn.leaving rfl (i2_range1 T.n_range (a2_cons (e2_v 1) a2_nil)) (pg_name (i:=3) nd rfl (by first | exact Or.inl rfl | exact Or.inr rfl)) (td_name (i:=3)) (ss_one (s2_augM 2 nd (e2_call G_total_of (hr.mono (by decide)) flies_fn (a2_cons (e2_v 0) a2_nil)))))
      (ss_one (s2_ret (e2_v 2))))),fun ds δ q x h=>?_⟩)
  · unfold spCases at h
    obtain ⟨full,mark,shs,n,rfl,h,n1,n2,hq⟩:=h
    rfl
  · unfold spCases at h
    obtain ⟨full,mark,shs,n,rfl,h,n1,n2,hq⟩:=h
    rw [show start2 ["part","rounds","cases","k"] _=[.val _,.val _,.no,.no] from rfl]
    have sm:=sum_shs h
    walk_at "dn"
    refine ⟨⟨by omega,by omega⟩,?_⟩
    refine forL_ix (fun i ρ δ'=>∃ c3,ρ=[.val (partD cs full mark shs),.val (.int n),.val (.int (shs.sum ^ i)),c3]∧δ'=δ) ⟨_,by rw [Int.pow_zero],rfl⟩ ?_ ?_
    · rintro i d ρ δ' rest hi ⟨c3,rfl,rfl⟩ hrest
      unfold stepG
      walk_at "dn"
      refine ⟨full,mark,shs,rfl,few_shs h,?_⟩
      walk_at "dn"
      exact ⟨.inr ⟨by omega,by omega⟩,hrest _ _ ⟨_,by rw [Int.pow_succ],rfl⟩⟩
    · rintro ρ δ' ⟨c3,rfl,rfl⟩
      rw [rngD_len]
      exact hq
noncomputable abbrev p_chance_of_fall:List Str:=["part","stand","rounds","changes"]
theorem sc_chance_of_fall:FnScope ["part","stand","rounds","changes","weights"] p_chance_of_fall (defScope s_chance_of_fall):=⟨rfl,rfl,rfl,by decide +kernel,rfl,by decide +kernel,by decide +kernel⟩
noncomputable abbrev F_chance_of_fall (P:Program) (w:World) (K:PySem.W.Frag) (mg:Str→Option Value) (base:Heap) (cs:Cs):Prop:=Fun2 P w K mg base "chance_of_fall" 7 p_chance_of_fall (spChance cs)
theorem ok_chance_of_fall {f:Addr} {fd:FuncData} (Df:DefAt K mg "chance_of_fall" s_chance_of_fall p_chance_of_fall f fd) (T:Txt K mg cs) (G_weights_behind:F_weights_behind P w K mg base cs) (G_cases_of:F_cases_of P w K mg base cs):F_chance_of_fall P w K mg base cs:=by
  have nd:=sc_chance_of_fall.nd
  refine def2 Df sc_chance_of_fall (fun ds δ q x h=>?_) (fun cdv A outer s H E Y hr=>⟨_,(ss_cons (s2_set 4 nd (e2_call G_weights_behind (hr.mono (by decide)) flies_fn (a2_cons (e2_v 0) (a2_cons (e2_v 1) (a2_cons (e2_v 2) (a2_cons (e2_v 3) a2_nil))))))
      (ss_one (s2_ret (e2_tup (a2_cons (e2_ixv 4 (e2_neg e2_int)) (a2_cons (e2_call G_cases_of (hr.mono (by decide)) flies_fn (a2_cons (e2_v 0) (a2_cons (e2_v 2) a2_nil))) a2_nil)))))),fun ds δ q x h=>?_⟩)
  · unfold spChance at h
    obtain ⟨full,mark,shs,sd,rd,cd,rfl,h,hs,hr',hc,hx1,hx2,h3⟩:=h
    rfl
  · unfold spChance at h
    obtain ⟨full,mark,shs,sd,rd,cd,rfl,h,hs,hr',hc,hx1,hx2,h3⟩:=h
    rw [show start2 ["part","stand","rounds","changes","weights"] _=[.val _,.val _,.val _,.val _,.no] from rfl]
    walk_at "dn"
    refine ⟨_,_,_,_,_,_,rfl,h,hs,hr',hc,hx1,hx2,fun e1 n e2 n1 n2=>⟨(h3 e1 n e2 n1 n2).1,fun st ch e3 e4 e5=>?_⟩⟩
    have hq:=(h3 e1 n e2 n1 n2).2 st ch e3 e4 e5
    subst e2
    unfold wbD
    walk_at "dn"
    rw [at_last]
    walk_at "dn"
    exact ⟨_,_,_,_,rfl,h,n1,n2,hq⟩
noncomputable abbrev p_law_all:List Str:=["_law_spec_here","_law_rounds"]
theorem sc_law_all:FnScope ["_law_spec_here","_law_rounds","_law_cases","_law_turn"] p_law_all (defScope s_law_all):=⟨rfl,rfl,rfl,by decide +kernel,rfl,by decide +kernel,by decide +kernel⟩
noncomputable abbrev F_law_all (P:Program) (w:World) (K:PySem.W.Frag) (mg:Str→Option Value) (base:Heap) (cs:Cs):Prop:=Fun2 P w K mg base "_law_all" 2 p_law_all spAll
theorem ok_law_all {f:Addr} {fd:FuncData} (Df:DefAt K mg "_law_all" s_law_all p_law_all f fd) (T:Txt K mg cs):F_law_all P w K mg base cs:=by
  have nd:=sc_law_all.nd
  refine def2 Df sc_law_all (fun ds δ q x h=>?_) (fun cdv A outer s H E Y hr=>⟨_,(ss_cons (s2_set 2 nd e2_int)
      (ss_cons (s2_for PassesOwn.leaving rfl (i2_range1 T.n_range (a2_cons (e2_v 1) a2_nil)) (pg_name (i:=3) nd rfl (by first | exact Or.inl rfl | exact Or.inr rfl)) (td_name (i:=3)) (ss_one (s2_set 2 nd (e2_op op_mul d_mul (e2_v 2) (e2_b (call_sum rfl) d_sum T.n_sum bt_sum (a2_cons (e2_ixv 0 e2_int) a2_nil))))))
      (ss_one (s2_ret (e2_v 2))))),fun ds δ q x h=>?_⟩)
  · unfold spAll at h
    obtain ⟨full,mark,shs,n,rfl,h,n1,n2,hq⟩:=h
    rfl
  · unfold spAll at h
    obtain ⟨full,mark,shs,n,rfl,h,n1,n2,hq⟩:=h
    rw [show start2 ["_law_spec_here","_law_rounds","_law_cases","_law_turn"] _=[.val _,.val _,.no,.no] from rfl]
    have sm:=sum_shs h
    unfold specD
    walk_at "dn"
    refine ⟨⟨by omega,by omega⟩,?_⟩
    refine forL_ix (fun i ρ δ'=>∃ c3,ρ=[.val (.tup [.int full,.int mark,.tup (shs.map D.int)]),.val (.int n),.val (.int (shs.sum ^ i)),c3]∧δ'=δ) ⟨_,by rw [Int.pow_zero],rfl⟩ ?_ ?_
    · rintro i d ρ δ' rest hi ⟨c3,rfl,rfl⟩ hrest
      unfold stepG
      walk_at "dn"
      rw [ints_map]
      refine ⟨few_shs h,.inr ⟨by omega,by omega⟩,hrest _ _ ⟨_,by rw [Int.pow_succ],rfl⟩⟩
    · rintro ρ δ' ⟨c3,rfl,rfl⟩
      rw [rngD_len]
      exact hq
noncomputable def vget (l:List (Key×D)) (k:Int):Int:=match valD l (.inl k) with | some (.int v)=>v | _=>0
noncomputable def inK (full mark k:Int):Prop:=k=-1∨(mark≤k∧k≤full)
noncomputable def keyO (mark:Int):Option Nat→Int | some j=>mark + (j:Int) | none=>-1
noncomputable def okX (m:Nat):Option Nat→Prop | some j=>j < m | none=>True
noncomputable def oKey (mark k:Int):Option Nat:=if k=-1 then none else some (k - mark).toNat
theorem vget_getD {l:List (Key×D)} {g:Int→Int→Prop} {k:Int} (d:DI l g):(valD l (.inl k)).getD (.int 0)=.int (vget l k):=by
  unfold vget
  cases e:valD l (.inl k) with
  | none=>rfl
  | some z =>
    obtain ⟨v,rfl,_⟩:=d.get e
    rfl
theorem vget_put {l:List (Key×D)} {k v k':Int}:vget (putD l (.inl k) (.int v)) k'=if k'=k then v else vget l k':=by
  unfold vget
  rw [valD_put]
  by_cases e:k'=k
  · rw [if_pos e,if_pos (by rw [e])]
  · rw [if_neg e,if_neg (fun z=>e (Sum.inl.inj z))]
theorem few1 {l:List (Key×D)} {g:Int→Int→Prop} {n:Nat} (d:DI l g) (h:∀ k v,g k v→-1≤k∧k + 1 < (n:Int)):l.length≤n:=by
  let f:Key→Int:=fun k=>match k with | .inl i=>i + 1 | .inr _=>0
  have nd2:(l.map fun kv:Key×D=>f kv.1).Nodup:=by
    have nd:=d.nd
    have al:=d.all
    revert nd al
    induction l with
    | nil=>intro _ _; exact List.nodup_nil
    | cons a l ih =>
      intro nd al
      rw [List.map_cons,List.nodup_cons] at nd ⊢
      refine ⟨fun hm=>?_,ih ⟨nd.2,fun kv hk=>al kv (List.mem_cons_of_mem _ hk)⟩ nd.2 fun kv hk=>al kv (List.mem_cons_of_mem _ hk)⟩
      obtain ⟨b,hb,e⟩:=List.mem_map.mp hm
      obtain ⟨k1,v1,rfl,_⟩:=al a (List.mem_cons_self ..)
      obtain ⟨k2,v2,rfl,_⟩:=al b (List.mem_cons_of_mem _ hb)
      have e:k2 + 1=k1 + 1:=e
      have:k2=k1:=by omega
      subst this
      exact nd.1 (List.mem_map.mpr ⟨_,hb,rfl⟩)
  have:=few_in n (l.map fun kv:Key×D=>f kv.1) nd2 fun x hx=>by
    obtain ⟨a,ha,rfl⟩:=List.mem_map.mp hx
    obtain ⟨k,v,rfl,q⟩:=d.all a ha
    have:=h k v q
    show 0≤k + 1∧k + 1 < (n:Int)
    omega
  simpa using this
noncomputable def dsum (mark:Int) (G:Option Nat→Int) (l:List (Key×D)):Int:=tot l fun kv=>match kv with | (.inl k,.int v)=>v * G (oKey mark k) | _=>0
theorem vget_cons {k v k':Int} {l:List (Key×D)}:vget ((.inl k,.int v) :: l) k'=if k'=k then v else vget l k':=by
  unfold vget valD
  rw [List.find?_cons]
  by_cases e:k'=k
  · rw [if_pos e,decide_eq_true (by rw [e])]; rfl
  · rw [if_neg e,decide_eq_false (fun z=>e (Sum.inl.inj z).symm)]
theorem vget_no {l:List (Key×D)} {k:Int} (h:(Sum.inl k:Key) ∉ l.map (·.1)):vget l k=0:=by
  unfold vget
  cases e:valD l (.inl k) with
  | none=>rfl
  | some d=>exact absurd (List.mem_map.mpr ⟨_,val_mem e,rfl⟩) h
theorem dsum_is {full mark:Int} {m:Nat} {G:Option Nat→Int} (hm:(m:Int)=full - mark + 1) (h0:0≤mark):∀ {l:List (Key×D)},DI l (fun k _=>inK full mark k)→dsum mark G l=vget l (-1) * G none + sumTo m fun j=>vget l (mark + (j:Int)) * G (some j)
  | [],_=>by
    show (0:Int)=0 * G none + sumTo m fun j=>0 * G (some j)
    rw [sumTo_congr (g:=fun _=>0) fun j _=>Int.zero_mul _,sumTo_zero,Int.zero_mul]; rfl
  | a :: l,d=>by
    obtain ⟨k,v,rfl,hk⟩:=d.all a (List.mem_cons_self ..)
    have nd:=d.nd
    rw [List.map_cons,List.nodup_cons] at nd
    have d':DI l (fun k _=>inK full mark k):=⟨nd.2,fun kv h=>d.all kv (List.mem_cons_of_mem _ h)⟩
    have ih:=dsum_is (G:=G) hm h0 d'
    have no:=vget_no nd.1
    show tot ((.inl k,.int v) :: l) _=_
    rw [tot_cons]
    show v * G (oKey mark k) + dsum mark G l=_
    rw [ih]
    have e1:∀ k',vget ((.inl k,.int v) :: l) k'=vget l k' + (if k'=k then v else 0):=fun k'=>by
      rw [vget_cons]
      by_cases e:k'=k
      · rw [if_pos e,if_pos e,e,no,Int.zero_add]
      · rw [if_neg e,if_neg e,Int.add_zero]
    rcases hk with rfl | ⟨k1,k2⟩
    · rw [e1,if_pos rfl,Int.add_mul]
      have:sumTo m (fun j=>vget ((.inl (-1),.int v) :: l) (mark + (j:Int)) * G (some j))=sumTo m fun j=>vget l (mark + (j:Int)) * G (some j):=sumTo_congr fun j _=>by rw [e1,if_neg (by omega),Int.add_zero]
      rw [this]
      show v * G none + _=_
      omega
    · have ek:k=mark + ((k - mark).toNat:Int):=by omega
      rw [e1,if_neg (by omega),Int.add_zero]
      have:sumTo m (fun j=>vget ((.inl k,.int v) :: l) (mark + (j:Int)) * G (some j))=sumTo m (fun j=>vget l (mark + (j:Int)) * G (some j)) + v * G (some (k - mark).toNat):=by
        rw [← sumTo_one (f:=fun j=>v * G (some j)) (k:=(k - mark).toNat) (n:=m) (by omega),← sumTo_add]
        refine sumTo_congr fun j _=>?_
        rw [e1]
        by_cases e:j=(k - mark).toNat
        · rw [if_pos (by omega),if_pos e,Int.add_mul]
        · rw [if_neg (by omega),if_neg e,Int.add_zero,Int.add_zero]
      rw [this]
      have:oKey mark k=some (k - mark).toNat:=if_neg (by omega)
      rw [this]
      omega
structure Tells (full mark:Int) (m:Nat) (l:List (Key×D)) (f:Option Nat→Int):Prop where
  d:DI l (fun k _=>inK full mark k)
  v:∀ x,okX m x→vget l (keyO mark x)=f x
theorem keyO_inj {mark:Int} (h0:0≤mark) {x y:Option Nat} (h:keyO mark x=keyO mark y):x=y:=by
  cases x with
  | none=>cases y with
    | none=>rfl
    | some j=>have h:-1=mark + (j:Int):=h; omega
  | some i=>cases y with
    | none=>have h:mark + (i:Int)=-1:=h; omega
    | some j=>have h:mark + (i:Int)=mark + (j:Int):=h; congr 1; omega
theorem Tells.put {full mark:Int} {m:Nat} {l:List (Key×D)} {f:Option Nat→Int} {y:Option Nat} {c:Int} (t:Tells full mark m l f) (h0:0≤mark) (hm:(m:Int)=full - mark + 1) (hy:okX m y):Tells full mark m (putD l (.inl (keyO mark y)) (.int (vget l (keyO mark y) + c))) (fun x=>f x + if x=y then c else 0):=by
  refine ⟨t.d.put ?_,fun x hx=>?_⟩
  · cases y with
    | none=>exact .inl rfl
    | some j =>
      have hy:j < m:=hy
      exact .inr ⟨by show mark≤mark + (j:Int); omega,by show mark + (j:Int)≤full; omega⟩
  · rw [vget_put]
    by_cases e:x=y
    · subst e
      rw [if_pos rfl,if_pos rfl,t.v x hx]
    · rw [if_neg (fun z=>e (keyO_inj h0 z)),if_neg e,Int.add_zero,t.v x hx]
theorem cnt0 {shs:List Int} {m:Nat} {ch:List Int} {j0:Nat} {x:Option Nat}:cnt shs m ch j0 (rowsK shs.length 0) x=if some j0=x then 1 else 0:=by
  show tot [[]] _=_
  rw [tot_cons,tot_nil,Int.add_zero]
  rfl
noncomputable def dueZ (full mark:Int) (shs:List Int) (st n:Int) (ch:List Int):List Int:=(progW shs (w0 full mark st) ch n.toNat).1++[(progW shs (w0 full mark st) ch n.toNat).2]
noncomputable def spDueD:Sp2:=fun ds δ q _=>∃ full mark shs st n ch cd,ds=[specD full mark shs,.int st,.int n,cd]∧RowZ cd ch∧ShOk full mark shs∧(mark≤st∧st≤full)∧(0≤n∧n≤12)∧q (.lst ((dueZ full mark shs st n ch).map D.int)) δ
noncomputable abbrev p_law_due:List Str:=["_law_spec_here","_law_stand","_law_rounds","_law_changes"]
theorem sc_law_due:FnScope ["_law_spec_here","_law_stand","_law_rounds","_law_changes","_law_entries","_law_at","_law_following","_law_here","_law_cases","_law_begin","_law_less","_law_share","_law_end","_law_found"] p_law_due (defScope s_law_due):=⟨rfl,rfl,rfl,by decide +kernel,rfl,by decide +kernel,by decide +kernel⟩
noncomputable abbrev F_law_due (P:Program) (w:World) (K:PySem.W.Frag) (mg:Str→Option Value) (base:Heap) (cs:Cs):Prop:=Fun2 P w K mg base "_law_due" 2 p_law_due spDueD
theorem ok_law_due {f:Addr} {fd:FuncData} (Df:DefAt K mg "_law_due" s_law_due p_law_due f fd) (T:Txt K mg cs):F_law_due P w K mg base cs:=by
  have nd:=sc_law_due.nd
  refine def2 Df sc_law_due (fun ds δ q x h=>?_) (fun cdv A outer s H E Y hr=>⟨_,(ss_cons (s2_set 4 nd (e2_dicV 1))
      (ss_cons (s2_for PassesOwn.leaving rfl (i2_range1 T.n_range (a2_cons (e2_v 2) a2_nil)) (pg_name (i:=5) nd rfl (by first | exact Or.inl rfl | exact Or.inr rfl)) (td_name (i:=5)) (ss_cons (s2_ownD0 6 nd)
      (ss_cons (s2_for PassesOwn.leaving rfl (i2_items (e2_v 4)) (pg_tup rfl (pgs_cons (pg_name (i:=7) nd rfl (by first | exact Or.inl rfl | exact Or.inr rfl)) (pgs_cons (pg_name (i:=8) nd rfl (by first | exact Or.inl rfl | exact Or.inr rfl)) pgs_nil))) (td_tup (is:=[7,8]) rfl) (ss_cons (s2_set 9 nd (e2_v 7))
      (ss_cons (s2_if (PW2.pt (w2_and (t2_cmp op_in_seq d_in (e2_v 5) (e2_v 3) rfl) (w2_and1 (t2_cmp op_ge d_ge (e2_v 7) (e2_ixv 0 e2_int) (nomark _))))) (ss_one (s2_set 9 nd (e2_ixv 0 e2_int))) ss_nil)
      (ss_one (s2_for PassesOwn.leaving rfl (i2_enum T.n_enumerate (a2_cons (e2_ixv 0 e2_int) a2_nil)) (pg_tup rfl (pgs_cons (pg_name (i:=10) nd rfl (by first | exact Or.inl rfl | exact Or.inr rfl)) (pgs_cons (pg_name (i:=11) nd rfl (by first | exact Or.inl rfl | exact Or.inr rfl)) pgs_nil))) (td_tup (is:=[10,11]) rfl) (ss_cons (s2_set 12 nd (e2_op op_sub d_sub (e2_v 9) (e2_v 10)))
      (ss_cons (s2_if (PW2.pt (w2_or (t2_cmp op_lt d_lt (e2_v 7) (e2_ixv 0 e2_int) (nomark _)) (w2_or1 (t2_cmp op_lt d_lt (e2_v 12) (e2_ixv 0 e2_int) (nomark _))))) (ss_one (s2_set 12 nd (e2_neg e2_int))) ss_nil)
      (ss_one (s2_putd 6 hr.units1 (e2_v 12) (e2_op op_addE d_addE (e2_getd 6 hr.units1 (e2_v 12) e2_int ⟨rfl,rfl,rfl,rfl⟩) (e2_op op_mul d_mul (e2_v 8) (e2_v 11))))))))))))
      (ss_one (s2_set 4 nd (e2_vD 6))))))
      (ss_cons (s2_compM (i:=13) rfl (CompOkM.of ["_law_here"] [4] rfl) (i2_range2 T.n_range (a2_cons (e2_ixv 0 e2_int) (a2_cons (e2_op op_addE d_addE (e2_ixv 0 e2_int) e2_int) a2_nil))) (fun nd _ _ _ _ _=>(pg_name (i:=0) nd rfl (by first | exact Or.inl rfl | exact Or.inr rfl))) tgm_name (fun _ _ _ _ _ _=>if2_nil) (fun _ _ _ _ _ _=>(e2_getd 1 hr.units1 (e2_v 0) e2_int ⟨rfl,rfl,rfl,rfl⟩)) nd)
      (ss_one (s2_ret (e2_op op_addE d_addE (e2_v 13) (e2_lst (a2_cons (e2_getd 4 hr.units1 (e2_neg e2_int) e2_int ⟨rfl,rfl,rfl,rfl⟩) a2_nil)))))))),fun ds δ q x h=>?_⟩)
  · unfold spDueD at h
    obtain ⟨full,mark,shs,st,n,ch,cd,rfl,hcd,h,⟨s1,s2⟩,⟨n1,n2⟩,hq⟩:=h
    rfl
  · unfold spDueD at h
    obtain ⟨full,mark,shs,st,n,ch,cd,rfl,hcd,h,⟨s1,s2⟩,⟨n1,n2⟩,hq⟩:=h
    rw [show start2 ["_law_spec_here","_law_stand","_law_rounds","_law_changes","_law_entries","_law_at","_law_following","_law_here","_law_cases","_law_begin","_law_less","_law_share","_law_end","_law_found"] _=[.val _,.val _,.val _,.val _,.no,.no,.no,.no,.no,.no,.no,.no,.no,.no] from rfl]
    unfold specD
    walk_at "dn"
    have f2:=h.f2
    have m1:=h.m1
    have m2:=h.m2
    have hm:((mOf full mark:Nat):Int)=full - mark + 1:=by unfold mOf; omega
    have hj0:(st - mark).toNat < mOf full mark:=by unfold mOf; omega
    have hin:∃ xs,seqD cd=some xs∧xs=ch.map D.int:=by rcases hcd with rfl | rfl <;> exact ⟨_,rfl,rfl⟩
    obtain ⟨xs,ex,rfl⟩:=hin
    unfold seqD at ex
    refine ⟨⟨by omega,by omega⟩,?_⟩
    refine forL_ix (fun k ρ δ'=>∃ (l:List (Key×D)) (c5 c6 c7 c8 c9 c10 c11 c12 c13:Cell),ρ=[.val (.tup [.int full,.int mark,.tup (shs.map D.int)]),.val (.int st),.val (.int n),.val cd,.val (.dwk l),c5,c6,c7,c8,c9,c10,c11,c12,c13]∧δ'=δ∧Tells full mark (mOf full mark) l (cnt shs (mOf full mark) ch (st - mark).toNat (rowsK shs.length k)))
      ⟨_,_,_,_,_,_,_,_,_,_,rfl,rfl,DI.one (.inr ⟨s1,s2⟩),fun x hx=>?_⟩ ?_ ?_
    · rw [vget_cons,cnt0]
      have ek:st=keyO mark (some (st - mark).toNat):=by show st=mark + _; omega
      by_cases e:some (st - mark).toNat=x
      · rw [if_pos e,if_pos (by rw [← e]; exact ek.symm)]
      · rw [if_neg e,if_neg (fun z=>e (keyO_inj m1 (ek.symm.trans z.symm)))]
        rfl
    · rintro k d ρ δ' rest hk ⟨l,c5,c6,c7,c8,c9,c10,c11,c12,c13,rfl,rfl,ht⟩ hrest
      obtain ⟨hk2,rfl⟩:=rngD_get hk
      rw [Int.zero_add]
      unfold stepG
      walk_at "dn"
      generalize hc:decide ((k:Int)∈ch)=c
      refine forL_ix (fun i ρ δ2=>∃ (fl:List (Key×D)) (c7 c8 c9 c10 c11 c12 c13:Cell),ρ=[.val (.tup [.int full,.int mark,.tup (shs.map D.int)]),.val (.int st),.val (.int n),.val cd,.val (.dwk l),.val (.int (k:Int)),.ownD fl,c7,c8,c9,c10,c11,c12,c13]∧δ2=δ'∧Tells full mark (mOf full mark) fl (fun x=>dsum mark (fun o=>GG shs (mOf full mark) c o x) (l.take i)))
        ⟨[],_,_,_,_,_,_,_,rfl,rfl,DI.nil,fun x hx=>rfl⟩ ?_ ?_
      · rintro i d ρ δ2 rest2 hi ⟨fl,c7,c8,c9,c10,c11,c12,c13,rfl,rfl,hf⟩ hrest2
        rw [List.getElem?_map,Option.map_eq_some_iff] at hi
        obtain ⟨kv,hkv,rfl⟩:=hi
        obtain ⟨key,v,rfl,hkey⟩:=ht.d.all kv (List.mem_of_getElem? hkv)
        obtain ⟨J,hJ⟩:∃ J:Nat,J < mOf full mark∧(key≠-1→(if c=true then full else key)=mark + (J:Int)∧∀ l,stepE (mOf full mark) c (oKey mark key) l=stepN J l):=by
          by_cases e:key=-1
          · exact ⟨0,by omega,fun z=>absurd e z⟩
          · rcases hkey with z | ⟨z1,z2⟩
            · exact absurd z e
            · refine ⟨if c=true then mOf full mark - 1 else (key - mark).toNat,by split <;> omega,fun _=>⟨by split <;> omega,fun l=>?_⟩⟩
              unfold stepE oKey
              rw [if_neg e]
              rfl
        unfold stepG pairK
        walk_at "dn"
        rw [ex]
        simp only [flat_ints,in_ints,flatD,Bool.true_and,true_and,decide_eq_true_eq]
        have inner:∀ (E:End2) (be:Int),E.nx=rest2→(key≠-1→be=mark + (J:Int))→forL (g2T [10,11])
            (t2Seq (t2Set 12 (t2Op (fI0 fun i j=>D.int (i - j)) (t2V 9) (t2V 10))) (t2Seq (t2IfS (t2Or (t2B (t2Op (fI0 fun i j=>D.bl (decide (i < j))) (t2V 7) (t2IxV 0 (t2C (D.int 1))))) (t2B (t2Op (fI0 fun i j=>D.bl (decide (i < j))) (t2V 12) (t2IxV 0 (t2C (D.int 1)))))) (t2Set 12 (t2Un (fun d q=>match d with | D.int i=>q (D.int (-i)) | x=>False) (t2C (D.int 1)))) t2Next)
              (t2PutD 6 (t2V 12) (t2Op addG (t2GetD 6 (t2V 12) (t2C (D.int 0))) (t2Op (fI CMul fun i j=>D.int (i * j)) (t2V 8) (t2V 11))))))
            E (enumD 0 (shs.map D.int))
            [.val (.tup [.int full,.int mark,.tup (shs.map D.int)]),.val (.int st),.val (.int n),.val cd,.val (.dwk l),.val (.int (k:Int)),.ownD fl,.val (.int key),.val (.int v),.val (.int be),c10,c11,c12,c13] δ2:=by
          intro E be hE hbe
          refine forL_ix (fun j ρ δ3=>∃ (fl':List (Key×D)) (c10 c11 c12 c13:Cell),ρ=[.val (.tup [.int full,.int mark,.tup (shs.map D.int)]),.val (.int st),.val (.int n),.val cd,.val (.dwk l),.val (.int (k:Int)),.ownD fl',.val (.int key),.val (.int v),.val (.int be),c10,c11,c12,c13]∧δ3=δ2 ∧
            Tells full mark (mOf full mark) fl' (fun x=>dsum mark (fun o=>GG shs (mOf full mark) c o x) (l.take i) + v * sumTo j fun l'=>if stepE (mOf full mark) c (oKey mark key) l'=x then shs.getD l' 0 else 0))
            ⟨fl,_,_,_,_,rfl,rfl,hf.d,fun x hx=>by rw [hf.v x hx]; show _=_ + v * 0; omega⟩ ?_ ?_
          · rintro j d ρ δ3 rest3 hj ⟨fl',c10,c11,c12,c13,rfl,rfl,hf'⟩ hrest3
            obtain ⟨a,ha,rfl⟩:=enumD_get hj
            rw [List.getElem?_map,Option.map_eq_some_iff] at ha
            obtain ⟨z,hz,rfl⟩:=ha
            have hlt:=(List.getElem?_eq_some_iff.mp hz).1
            have hzb:=h.s z (List.mem_of_getElem? hz)
            have few:=few1 (n:=8) hf'.d fun kk _ q=>by rcases q with q | q <;> omega
            generalize hy:stepE (mOf full mark) c (oKey mark key) j=y
            have oky:okX (mOf full mark) y:=by
              rw [← hy]
              by_cases e:key=-1
              · unfold oKey; rw [if_pos e]; trivial
              · rw [(hJ.2 e).2]
                unfold stepN
                split
                · trivial
                · show J - j < _; omega
            have ekey:∀ e:Int,e=be - (j:Int)→(if key < mark then -1 else if e < mark then -1 else e)=keyO mark y:=fun e he=>by
              rw [← hy]
              by_cases e1:key=-1
              · rw [if_pos (by omega)]
                unfold oKey
                rw [if_pos e1]
                rfl
              · have hk1:¬ key < mark:=by rcases hkey with q | q <;> omega
                rw [if_neg hk1,(hJ.2 e1).2]
                have:=hbe e1
                unfold stepN
                by_cases e2:J < j
                · rw [if_pos (by omega),if_pos e2]; rfl
                · rw [if_neg (by omega),if_neg e2]
                  show e=mark + ((J - j:Nat):Int)
                  omega
            have put:=hf'.put (y:=y) (c:=v * z) m1 hm oky
            have put2:Tells full mark (mOf full mark) (putD fl' (.inl (keyO mark y)) (.int (vget fl' (keyO mark y) + v * z))) (fun x=>dsum mark (fun o=>GG shs (mOf full mark) c o x) (l.take i) + v * sumTo (j + 1) fun l'=>if stepE (mOf full mark) c (oKey mark key) l'=x then shs.getD l' 0 else 0):=by
              refine ⟨put.d,fun x hx=>?_⟩
              rw [put.v x hx]
              show _=_ + v * (sumTo j _ + (if stepE (mOf full mark) c (oKey mark key) j=x then shs.getD j 0 else 0))
              rw [hy,List.getD_eq_getElem?_getD,hz,Option.getD_some,Int.mul_add]
              by_cases e:x=y
              · rw [if_pos e,if_pos e.symm]; omega
              · rw [if_neg e,if_neg (fun q=>e q.symm),Int.mul_zero]; omega
            have hE:=ekey (be - (j:Int)) rfl
            unfold stepG
            rw [Nat.zero_add]
            walk_at "dn"
            have gone:∀ kk:Int,kk=keyO mark y→∀ c12,fl'.length < 1000∧rest3 [.val (.tup [.int full,.int mark,.tup (shs.map D.int)]),.val (.int st),.val (.int n),.val cd,.val (.dwk l),.val (.int (k:Int)),.ownD (putD fl' (.inl kk) (.int (vget fl' kk + v * z))),.val (.int key),.val (.int v),.val (.int be),.val (.int (j:Int)),.val (.int z),c12,c13] δ3:=fun kk e c12=>by
              rw [e]
              exact ⟨by omega,hrest3 _ _ ⟨_,_,_,_,_,rfl,rfl,put2⟩⟩
            split
            · rename_i hlt
              rw [if_pos hlt] at hE
              rw [vget_getD hf'.d]
              exact ⟨rfl,.inr ⟨by omega,by omega⟩,gone _ hE _⟩
            · rename_i hlt
              rw [if_neg hlt] at hE
              split
              · rename_i hl2
                rw [if_pos hl2] at hE
                rw [vget_getD hf'.d]
                exact ⟨rfl,.inr ⟨by omega,by omega⟩,gone _ hE _⟩
              · rename_i hl2
                rw [if_neg hl2] at hE
                rw [vget_getD hf'.d]
                exact ⟨rfl,.inr ⟨by omega,by omega⟩,gone _ hE _⟩
          · rintro ρ δ3 ⟨fl',c10,c11,c12,c13,rfl,rfl,hf'⟩
            rw [hE]
            refine hrest2 _ _ ⟨fl',_,_,_,_,_,_,_,rfl,rfl,hf'.d,fun x hx=>?_⟩
            rw [hf'.v x hx,enumD_len,List.length_map,List.take_succ,hkv]
            show _=dsum mark _ (l.take i++[_])
            unfold dsum
            rw [tot_app,tot_cons,tot_nil]
            show _=_ + (v * GG shs (mOf full mark) c (oKey mark key) x + 0)
            unfold GG
            omega
        by_cases hkc:(k:Int)∈ch
        · rw [if_pos hkc]
          rw [decide_eq_true hkc] at hc
          by_cases hkm:mark≤key
          · simp only [hkm,decide_true,if_true]
            exact inner _ full rfl fun e=>by have:=(hJ.2 e).1; rw [if_pos hc.symm] at this; exact this
          · simp only [hkm,decide_false,Bool.false_eq_true,if_false]
            exact inner _ key rfl fun e=>by rcases hkey with q | q <;> omega
        · rw [if_neg hkc]
          rw [decide_eq_false hkc] at hc
          exact inner _ key rfl fun e=>by have:=(hJ.2 e).1; rw [if_neg (by rw [← hc]; decide)] at this; exact this
      · rintro ρ δ2 ⟨fl,c7,c8,c9,c10,c11,c12,c13,rfl,rfl,hf⟩
        walk_at "dn"
        refine hrest _ _ ⟨fl,_,_,_,_,_,_,_,_,_,rfl,rfl,hf.d,fun x hx=>?_⟩
        rw [hf.v x hx,List.length_map,List.take_length,dsum_is hm m1 ht.d,show vget l (-1)=_ from ht.v none trivial,cnt_step,hc,regroup (m:=mOf full mark) (h:=fun o=>GG shs (mOf full mark) c o x) fun r hr j e=>ends_in hj0 hr j e]
        congr 1
        exact sumTo_congr fun j hj=>by rw [show vget l (mark + (j:Int))=_ from ht.v (some j) hj]
    · rintro ρ δ' ⟨l,c5,c6,c7,c8,c9,c10,c11,c12,c13,rfl,rfl,ht⟩
      rw [rngD_len] at ht
      walk_at "dn"
      refine ⟨⟨by omega,by omega,by omega,by omega⟩,?_⟩
      refine compL_map (fun d=>match d with | .int z=>.int (vget l z) | _=>.non) (by rw [rngD_len]; omega) (fun d hd Q hQ=>?_) ?_
      · obtain ⟨i,hi⟩:=List.getElem?_of_mem hd
        obtain ⟨hi2,rfl⟩:=rngD_get hi
        simp only [capt,captC,List.map_cons,List.map_nil,List.getElem?_cons_zero,List.getElem?_cons_succ]
        walk_at "dn"
        refine ⟨rfl,?_⟩
        rw [vget_getD ht.d]
        exact hQ
      · refine ⟨rfl,by rw [List.length_map,rngD_len]; omega,?_⟩
        rw [vget_getD ht.d]
        have e:(rngD mark (full + 1 - mark).toNat).map (fun d=>match d with | .int z=>.int (vget l z) | _=>.non)++[D.int (vget l (-1))]=(dueZ full mark shs st n ch).map D.int:=by
          unfold dueZ
          rw [w0_is s1,show (full - mark + 1).toNat=mOf full mark from rfl,main hj0,List.map_append,show vget l (-1)=_ from ht.v none trivial,show (full + 1 - mark).toNat=mOf full mark by unfold mOf; omega]
          congr 1
          unfold rngD rowN
          rw [List.map_map,List.map_map]
          refine List.map_congr_left fun j hj=>?_
          show D.int (vget l (mark + (j:Int)))=D.int _
          rw [show vget l (mark + (j:Int))=_ from ht.v (some j) (List.mem_range.mp hj)]
        rw [e]
        exact hq
theorem mro_own {K:PySem.W.Frag} {W C D:Addr} (c:ErrC K W C) (hw:D≠W):PySem.W.mroIn K C (.ref D)=some (decide (D=C)):=by
  rw [c.mroIn]
  by_cases h:D=C
  · subst h; simp [List.contains_cons]
  · have e:(Value.ref C :: .ref W :: PySem.W.veMro).contains (.ref D)=false:=by simp [List.contains_cons,h,hw]
    rw [e,decide_eq_false h]
theorem mro_W {K:PySem.W.Frag} {W C:Addr} (c:ErrC K W C):PySem.W.mroIn K C (.ref W)=some true:=by
  rw [c.mroIn]; simp [List.contains_cons]
theorem nd_ne {l:List Addr} (h:l.Nodup) (i j:Nat) {a b:Addr} (hi:l[i]?=some a) (hj:l[j]?=some b) (hij:i≠j):a≠b:=by
  intro e
  subst e
  obtain ⟨h1,e1⟩:=List.getElem?_eq_some_iff.mp hi
  obtain ⟨h2,e2⟩:=List.getElem?_eq_some_iff.mp hj
  have hp:=List.pairwise_iff_getElem.mp h
  rcases Nat.lt_or_gt_of_ne hij with z | z
  · exact hp i j h1 h2 z (e1.trans e2.symm)
  · exact hp j i h2 h1 z (e2.trans e1.symm)
theorem in_NoStands {cs:Cs}:cs.NoStands∈cs.ds:=List.mem_of_getElem? (show cs.ds[1]?=some cs.NoStands from rfl)
theorem in_NoRounds {cs:Cs}:cs.NoRounds∈cs.ds:=List.mem_of_getElem? (show cs.ds[2]?=some cs.NoRounds from rfl)
theorem in_NoPlan {cs:Cs}:cs.NoPlan∈cs.ds:=List.mem_of_getElem? (show cs.ds[3]?=some cs.NoPlan from rfl)
theorem mro_NoStands_NoStands (T:Txt K mg cs):PySem.W.mroIn K cs.NoStands (.ref cs.NoStands)=some true:=(mro_own (T.err _ in_NoStands) (T.ne _ in_NoStands)).trans (congrArg some (decide_eq_true rfl))
theorem mro_NoStands_NoRounds (T:Txt K mg cs):PySem.W.mroIn K cs.NoStands (.ref cs.NoRounds)=some false:=(mro_own (T.err _ in_NoStands) (T.ne _ in_NoRounds)).trans (congrArg some (decide_eq_false (nd_ne T.nd 2 1 rfl rfl (by decide))))
theorem mro_NoStands_NoPlan (T:Txt K mg cs):PySem.W.mroIn K cs.NoStands (.ref cs.NoPlan)=some false:=(mro_own (T.err _ in_NoStands) (T.ne _ in_NoPlan)).trans (congrArg some (decide_eq_false (nd_ne T.nd 3 1 rfl rfl (by decide))))
theorem mro_NoStands_W (T:Txt K mg cs):PySem.W.mroIn K cs.NoStands (.ref cs.W)=some true:=mro_W (T.err _ in_NoStands)
theorem mro_NoRounds_NoStands (T:Txt K mg cs):PySem.W.mroIn K cs.NoRounds (.ref cs.NoStands)=some false:=(mro_own (T.err _ in_NoRounds) (T.ne _ in_NoStands)).trans (congrArg some (decide_eq_false (nd_ne T.nd 1 2 rfl rfl (by decide))))
theorem mro_NoRounds_NoRounds (T:Txt K mg cs):PySem.W.mroIn K cs.NoRounds (.ref cs.NoRounds)=some true:=(mro_own (T.err _ in_NoRounds) (T.ne _ in_NoRounds)).trans (congrArg some (decide_eq_true rfl))
theorem mro_NoRounds_NoPlan (T:Txt K mg cs):PySem.W.mroIn K cs.NoRounds (.ref cs.NoPlan)=some false:=(mro_own (T.err _ in_NoRounds) (T.ne _ in_NoPlan)).trans (congrArg some (decide_eq_false (nd_ne T.nd 3 2 rfl rfl (by decide))))
theorem mro_NoRounds_W (T:Txt K mg cs):PySem.W.mroIn K cs.NoRounds (.ref cs.W)=some true:=mro_W (T.err _ in_NoRounds)
theorem mro_NoPlan_NoStands (T:Txt K mg cs):PySem.W.mroIn K cs.NoPlan (.ref cs.NoStands)=some false:=(mro_own (T.err _ in_NoPlan) (T.ne _ in_NoStands)).trans (congrArg some (decide_eq_false (nd_ne T.nd 1 3 rfl rfl (by decide))))
theorem mro_NoPlan_NoRounds (T:Txt K mg cs):PySem.W.mroIn K cs.NoPlan (.ref cs.NoRounds)=some false:=(mro_own (T.err _ in_NoPlan) (T.ne _ in_NoRounds)).trans (congrArg some (decide_eq_false (nd_ne T.nd 2 3 rfl rfl (by decide))))
theorem mro_NoPlan_NoPlan (T:Txt K mg cs):PySem.W.mroIn K cs.NoPlan (.ref cs.NoPlan)=some true:=(mro_own (T.err _ in_NoPlan) (T.ne _ in_NoPlan)).trans (congrArg some (decide_eq_true rfl))
theorem mro_NoPlan_W (T:Txt K mg cs):PySem.W.mroIn K cs.NoPlan (.ref cs.W)=some true:=mro_W (T.err _ in_NoPlan)
theorem b_at_at:(("at" : Str) == "at")=true:=by decide +kernel
noncomputable def spRefused (cs:Cs):Sp2:=fun ds δ q _=>∃ full mark shs sd rd cd,ds=[partD cs full mark shs,sd,rd,cd]∧ShOk full mark shs∧plainD sd=true∧plainD rd=true∧thingD cd=true ∧
  ((wholeD sd mark full=false∧q (.str "stands") δ)∨(wholeD sd mark full=true∧wholeD rd 0 12=false∧q (.str "rounds") δ)∨(wholeD sd mark full=true∧∃ n:Int,rd=.int n∧0≤n∧n≤12∧risD cd 0 (n - 1)=false∧q (.str "plan-1") δ))
noncomputable abbrev p_law_refused:List Str:=["_law_part","_law_stand","_law_rounds","_law_changes"]
theorem sc_law_refused:FnScope ["_law_part","_law_stand","_law_rounds","_law_changes","_law_found","e"] p_law_refused (defScope s_law_refused):=⟨rfl,rfl,rfl,by decide +kernel,rfl,by decide +kernel,by decide +kernel⟩
noncomputable abbrev F_law_refused (P:Program) (w:World) (K:PySem.W.Frag) (mg:Str→Option Value) (base:Heap) (cs:Cs):Prop:=Fun2 P w K mg base "_law_refused" 8 p_law_refused (spRefused cs)
theorem ok_law_refused {f:Addr} {fd:FuncData} (Df:DefAt K mg "_law_refused" s_law_refused p_law_refused f fd) (T:Txt K mg cs) (G_chance_of_fall:F_chance_of_fall P w K mg base cs):F_law_refused P w K mg base cs:=by
  have nd:=sc_law_refused.nd
  refine def2 Df sc_law_refused (fun ds δ q x h=>?_) (fun cdv A outer s H E Y hr=>⟨_,(ss_cons (s2_set 4 nd e2_str)
      (ss_cons (s2_try ⟨rfl,rfl⟩ (fun _ _=>(ss_one (s2_expr (e2_call G_chance_of_fall (hr.mono (by decide)) flies_tr (a2_cons (e2_v 0) (a2_cons (e2_v 1) (a2_cons (e2_v 2) (a2_cons (e2_v 3) a2_nil)))))))) (h2_consK K ⟨rfl,rfl⟩ T.h_NoStands T.c_NoStands (fun _=>(ss_one (s2_set 4 nd e2_str))) (h2_consK K ⟨rfl,rfl⟩ T.h_NoRounds T.c_NoRounds (fun _=>(ss_one (s2_set 4 nd e2_str))) (h2_asK K 5 ⟨rfl,rfl⟩ T.h_NoPlan T.c_NoPlan nd (fun _=>(ss_one (s2_set 4 nd (e2_op op_add_str d_addS e2_str (e2_bt call_str_int d_str T.n_str bt_str (a2_cons (e2_xfldK K (e2_v 5)) a2_nil)))))) (h2_consK K ⟨rfl,rfl⟩ T.h_WearError T.c_WearError (fun _=>(ss_one (s2_set 4 nd e2_str))) h2_nil)))))
      (ss_one (s2_ret (e2_v 4))))),fun ds δ q x h=>?_⟩)
  · unfold spRefused at h
    obtain ⟨full,mark,shs,sd,rd,cd,rfl,h,hs,hr,hc,hq⟩:=h
    rfl
  · unfold spRefused at h
    obtain ⟨full,mark,shs,sd,rd,cd,rfl,h,hs,hr,hc,hq⟩:=h
    rw [show start2 ["_law_part","_law_stand","_law_rounds","_law_changes","_law_found","e"] _=[.val _,.val _,.val _,.val _,.no,.no] from rfl]
    walk_at "dn"
    refine ⟨full,mark,shs,sd,rd,cd,rfl,h,hs,hr,hc,fun e1=>?_,fun e1 e2=>?_,fun e1 n en n1 n2=>⟨fun e3=>?_,fun st ch _ _ e3=>?_⟩⟩
    · rcases hq with ⟨_,hq⟩ | ⟨e,_⟩ | ⟨e,_⟩
      · simp only [mro_NoStands_NoStands T,mro_NoStands_NoRounds T,mro_NoStands_NoPlan T,mro_NoStands_W T]
        walk_at "dn"
        exact hq
      · rw [e1] at e; cases e
      · rw [e1] at e; cases e
    · rcases hq with ⟨e,_⟩ | ⟨_,_,hq⟩ | ⟨_,n,rfl,n1,n2,_⟩
      · rw [e1] at e; cases e
      · simp only [mro_NoRounds_NoStands T,mro_NoRounds_NoRounds T,mro_NoRounds_NoPlan T,mro_NoRounds_W T]
        walk_at "dn"
        exact hq
      · rw [whole_t n1 (by omega)] at e2; cases e2
    · rcases hq with ⟨e,_⟩ | ⟨_,e,_⟩ | ⟨_,n',en',_,n5,_,hq⟩
      · rw [e1] at e; cases e
      · rw [en,whole_t n1 n2] at e; cases e
      · simp only [mro_NoPlan_NoStands T,mro_NoPlan_NoRounds T,mro_NoPlan_NoPlan T,mro_NoPlan_W T]
        walk_at "dn"
        simp only [b_at_at,T.a_NoPlan_at,(T.err _ in_NoStands).xc,(T.err _ in_NoRounds).xc,(T.err _ in_NoPlan).xc,true_and]
        exact ⟨by decide,by decide,hq⟩
    · exfalso
      rcases hq with ⟨e,_⟩ | ⟨_,e,_⟩ | ⟨_,n',en',_,n5,e,_⟩
      · rw [e1] at e; cases e
      · rw [en,whole_t n1 n2] at e; cases e
      · rw [en] at en'; cases en'; rw [e3] at e; cases e
theorem str_eq (a:Str):eqD (.str a) (.str a)=some true:=by unfold eqD; simp
structure NoneOk (mark full:Int) (d:D):Prop where
  p:plainD d=true
  b:wholeD d mark full=false
structure TurnOk (d:D):Prop where
  p:plainD d=true
  b:wholeD d 0 12=false
structure RowNo (n:Int) (d:D):Prop where
  t:thingD d=true
  b:risD d 0 (n - 1)=false
theorem atL {xs:List D} {k:Int} (h0:0≤k) (h1:k < (xs.length:Int)):∃ z,atI xs k=some z∧z∈xs:=by
  have hz:k=((k.toNat:Nat):Int):=by omega
  have hl:k.toNat < xs.length:=by omega
  refine ⟨xs[k.toNat],?_,List.getElem_mem hl⟩
  have:=atI_nat (List.getElem?_eq_getElem hl)
  rw [← hz] at this
  exact this
theorem thing_lst {xs:List D} (h:∀ x∈xs,plainD x=true):thingD (.lst xs)=true:=by
  unfold thingD rowD
  dsimp only
  rw [List.all_eq_true.mpr h]; rfl
theorem plain_int {ch:List Int}:∀ x∈ch.map D.int,plainD x=true:=fun x hx=>by
  obtain ⟨z,_,rfl⟩:=List.mem_map.mp hx
  rfl
theorem bad_mem {xs:List D} {x:D} {lo hi:Int} (hx:x∈xs) (h:wholeD x lo hi=false):risD (.lst xs) lo hi=false:=by
  have:xs.all (wholeD · lo hi)=false:=by
    rw [Bool.eq_false_iff]
    intro h2
    rw [List.all_eq_true.mp h2 x hx] at h
    cases h
  unfold risD wrowD rowD
  dsimp only
  rw [this,Bool.and_false,Bool.false_and]
theorem bad_ris {xs:List D} {lo hi:Int} (h:risI (xs.map intD)=false):risD (.lst xs) lo hi=false:=by
  unfold risD rowD
  dsimp only
  rw [show (Option.getD (some xs) []).map intD=xs.map intD from rfl,h,Bool.and_false]
noncomputable def spRefusals (cs:Cs):Sp2:=fun ds δ q _=>∃ p ns n full mark shs,∃ (k:Nat),ds=[.ref p,specD full mark shs,partD cs full mark shs,.int (k:Int)]∧DkAt p ns n δ∧n < 2 ^ 20∧ShOk full mark shs∧k≤12∧∀ δ',DkAt p ns (n + 3) δ'→q (.bl true) δ'
theorem bad_tup {xs:List D} {x:D} {lo hi:Int} (hx:x∈xs) (h:wholeD x lo hi=false):risD (.tup xs) lo hi=false:=by
  have:xs.all (wholeD · lo hi)=false:=by
    rw [Bool.eq_false_iff]
    intro h2
    rw [List.all_eq_true.mp h2 x hx] at h
    cases h
  unfold risD wrowD rowD
  dsimp only
  rw [this,Bool.and_false,Bool.false_and]
noncomputable abbrev p_law_refusals:List Str:=["_law_deck_here","_law_spec_here","_law_part","_law_rounds"]
theorem sc_law_refusals:FnScope ["_law_deck_here","_law_spec_here","_law_part","_law_rounds","_law_none","_law_turns","_law_row_here"] p_law_refusals (defScope s_law_refusals):=⟨rfl,rfl,rfl,by decide +kernel,rfl,by decide +kernel,by decide +kernel⟩
noncomputable abbrev F_law_refusals (P:Program) (w:World) (K:PySem.W.Frag) (mg:Str→Option Value) (base:Heap) (cs:Cs):Prop:=Fun2 P w K mg base "_law_refusals" 9 p_law_refusals (spRefusals cs)
theorem ok_law_refusals {f:Addr} {fd:FuncData} (Df:DefAt K mg "_law_refusals" s_law_refusals p_law_refusals f fd) (T:Txt K mg cs) (G_law_take:F_law_take P w K mg base cs) (G_law_refused:F_law_refused P w K mg base cs):F_law_refusals P w K mg base cs:=by
  have nd:=sc_law_refusals.nd
  refine def2 Df sc_law_refusals (fun ds δ q x h=>?_) (fun cdv A outer s H E Y hr=>⟨_,(ss_cons (s2_set 4 nd (e2_ix ix_seq d_ix (e2_lst (a2_cons (e2_op op_sub d_sub (e2_ixv 1 e2_int) e2_int) (a2_cons (e2_op op_addE d_addE (e2_ixv 1 e2_int) e2_int) (a2_cons e2_non (a2_cons e2_bl (a2_cons e2_str (a2_cons (e2_tup a2_nil) a2_nil))))))) (e2_call G_law_take (hr.mono (by decide)) flies_fn (a2_cons (e2_v 0) (a2_cons e2_int a2_nil)))))
      (ss_cons (s2_set 5 nd (e2_ix ix_seq d_ix (e2_lst (a2_cons (e2_neg e2_int) (a2_cons e2_int (a2_cons e2_non (a2_cons e2_bl (a2_cons (e2_lst (a2_cons e2_int a2_nil)) (a2_cons e2_str a2_nil))))))) (e2_call G_law_take (hr.mono (by decide)) flies_fn (a2_cons (e2_v 0) (a2_cons e2_int a2_nil)))))
      (ss_cons (s2_set 6 nd (e2_ix ix_seq d_ix (e2_lst (a2_cons e2_non (a2_cons e2_int (a2_cons e2_str (a2_cons (e2_lst (a2_cons (e2_v 3) a2_nil)) (a2_cons (e2_tup (a2_cons (e2_neg e2_int) a2_nil)) (a2_cons (e2_lst (a2_cons e2_int (a2_cons e2_int a2_nil))) (a2_cons (e2_lst (a2_cons e2_bl a2_nil)) (a2_cons (e2_lst (a2_cons e2_non a2_nil)) a2_nil))))))))) (e2_call G_law_take (hr.mono (by decide)) flies_fn (a2_cons (e2_v 0) (a2_cons e2_int a2_nil)))))
      (ss_cons (s2_if (PW2.pt (w2_or (t2_cmp (op_neE hr.units0) d_neE (e2_call G_law_refused (hr.mono (by decide)) flies_fn (a2_cons (e2_v 2) (a2_cons (e2_v 4) (a2_cons (e2_v 5) (a2_cons (e2_v 6) a2_nil))))) e2_str (nomark _)) (w2_or1 (t2_cmp (op_neE hr.units0) d_neE (e2_call G_law_refused (hr.mono (by decide)) flies_fn (a2_cons (e2_v 2) (a2_cons (e2_ixv 1 e2_int) (a2_cons (e2_v 5) (a2_cons (e2_v 6) a2_nil))))) e2_str (nomark _))))) (ss_one (s2_ret e2_bl)) ss_nil)
      (ss_one (s2_ret (e2_cmp (op_eqE hr.units0) d_eqE (e2_call G_law_refused (hr.mono (by decide)) flies_fn (a2_cons (e2_v 2) (a2_cons (e2_ixv 1 e2_int) (a2_cons (e2_v 3) (a2_cons (e2_v 6) a2_nil))))) e2_str (nomark _)))))))),fun ds δ q x h=>?_⟩)
  · unfold spRefusals at h
    obtain ⟨p,ns,n,full,mark,shs,k,rfl,hD,hn,h,hk,hq⟩:=h
    rfl
  · unfold spRefusals at h
    obtain ⟨p,ns,n,full,mark,shs,k,rfl,hD,hn,h,hk,hq⟩:=h
    rw [show start2 ["_law_deck_here","_law_spec_here","_law_part","_law_rounds","_law_none","_law_turns","_law_row_here"] _=[.val _,.val _,.val _,.val _,.no,.no,.no] from rfl]
    rw [show specD full mark shs=.tup [.int full,.int mark,.tup (shs.map D.int)] from rfl]
    have m1:=h.m1
    walk_at "dn"
    refine ⟨p,ns,_,6,rfl,hD,by omega,by decide,by decide,fun a0 δ0 a1 a2 hD=>?_⟩
    obtain ⟨dn,ea,ha⟩:=atL (xs:=[.int (mark - 1),.int (full + 1),.non,.bl true,.str "1",.tup []]) a1 (by simpa using a2)
    have hdn:NoneOk mark full dn:=by
      simp only [List.mem_cons,List.not_mem_nil,or_false] at ha
      rcases ha with rfl | rfl | rfl | rfl | rfl | rfl
      all_goals first | exact ⟨rfl,rfl⟩ | exact ⟨rfl,whole_f (by omega)⟩
    dsimp only
    rw [ea]
    refine ⟨p,ns,_,6,rfl,hD,by omega,by decide,by decide,fun b0 δ1 b1 b2 hD=>?_⟩
    obtain ⟨dt,eb,hb⟩:=atL (xs:=[.int (-1),.int 13,.non,.bl true,.lst [.int 0],.str ""]) b1 (by simpa using b2)
    have hdt:TurnOk dt:=by
      simp only [List.mem_cons,List.not_mem_nil,or_false] at hb
      rcases hb with rfl | rfl | rfl | rfl | rfl | rfl
      all_goals first | exact ⟨rfl,rfl⟩ | exact ⟨rfl,whole_f (by omega)⟩
    dsimp only
    rw [eb]
    refine ⟨p,ns,_,8,rfl,hD,by omega,by decide,by decide,fun c0 δ2 c1 c2 hD=>?_⟩
    obtain ⟨dr,ec,hc⟩:=atL (xs:=[.non,.int 3,.str "",.lst [.int (k:Int)],.tup [.int (-1)],.lst [.int 0,.int 0],.lst [.bl false],.lst [.non]]) c1 (by simpa using c2)
    have hdr:RowNo (k:Int) dr:=by
      simp only [List.mem_cons,List.not_mem_nil,or_false] at hc
      rcases hc with rfl | rfl | rfl | rfl | rfl | rfl | rfl | rfl
      · exact ⟨rfl,rfl⟩
      · exact ⟨rfl,rfl⟩
      · exact ⟨rfl,rfl⟩
      · exact ⟨rfl,bad_mem List.mem_cons_self (whole_f (.inr (by omega)))⟩
      · exact ⟨rfl,bad_tup List.mem_cons_self (whole_f (.inl (by decide)))⟩
      · exact ⟨rfl,bad_ris rfl⟩
      · exact ⟨rfl,bad_mem List.mem_cons_self rfl⟩
      · exact ⟨rfl,bad_mem List.mem_cons_self rfl⟩
    dsimp only
    rw [ec]
    dsimp only
    refine ⟨full,mark,shs,_,_,_,rfl,h,hdn.p,hdt.p,hdr.t,.inl ⟨hdn.b,?_⟩⟩
    simp only [decide_true,Bool.not_true,Bool.false_eq_true,if_false]
    refine ⟨full,mark,shs,_,_,_,rfl,h,rfl,hdt.p,hdr.t,.inr (.inl ⟨whole_t h.m2 (Int.le_refl _),hdt.b,?_⟩)⟩
    simp only [decide_true,Bool.not_true,Bool.false_eq_true,if_false]
    refine ⟨full,mark,shs,_,_,_,rfl,h,rfl,rfl,hdr.t,.inr (.inr ⟨whole_t h.m2 (Int.le_refl _),_,rfl,by omega,by omega,hdr.b,?_⟩)⟩
    simp only [decide_true]
    exact hq _ hD
theorem eq_ints:∀ ns:List Int,eqDs (ns.map D.int) (ns.map D.int)=true
  | []=>rfl
  | a :: r=>by rw [List.map_cons]; unfold eqDs; rw [eq_ints r]; simp [eqV,toV]
theorem ris_ok {ch:List Int} {k:Nat} {d:D} (hd:RowZ d ch) (h1:∀ z∈ch,0≤z∧z < (k:Int)) (h2:risI ch=true) (h3:ch.length≤k):risD d 0 ((k:Int) - 1)=true:=by
  have e:rowD d=some (ch.map D.int):=by rcases hd with rfl | rfl <;> rfl
  unfold risD wrowD
  rw [e]
  dsimp only
  have e2:(ch.map D.int).all (wholeD · 0 ((k:Int) - 1))=true:=by
    rw [List.all_eq_true]
    intro x hx
    obtain ⟨z,hz,rfl⟩:=List.mem_map.mp hx
    have:=h1 z hz
    exact whole_t this.1 (by omega)
  have e3:(ch.map D.int).map intD=ch:=by rw [List.map_map]; exact List.map_id _
  rw [e2,show (Option.getD (some (ch.map D.int)) []).map intD=ch from e3,h2,List.length_map,decide_eq_true (show (0:Int)≤(ch.length:Int) by omega),decide_eq_true (show (ch.length:Int)≤(k:Int) - 1 - 0 + 1 by omega)]; rfl
theorem part_go {cs:Cs} {full mark:Int} {shs:List Int} (h:ShOk full mark shs) (hs:shs.sum≠0) {δ:Dk} {q:D→Dk→Prop} {x:Addr→List (Str×D)→Dk→Prop} (hq:q (partD cs full mark shs) δ):spPart cs [.int full,.int mark,.lst (shs.map D.int)] δ q x:=by
  have l1:=h.l1
  have l2:=h.l2
  have e1:shD (.lst (shs.map D.int))=true:=by
    unfold shD wrowD rowD
    dsimp only
    have e2:(shs.map D.int).all (wholeD · 0 9)=true:=by
      rw [List.all_eq_true]
      intro x hx
      obtain ⟨z,hz,rfl⟩:=List.mem_map.mp hx
      exact whole_t (h.s z hz).1 (h.s z hz).2
    rw [e2,List.length_map,decide_eq_true (show (1:Int)≤(shs.length:Int) by omega),decide_eq_true (show (shs.length:Int)≤4 by omega),show (Option.getD (some (shs.map D.int)) [])=shs.map D.int from rfl,ints_map]
    dsimp only
    rw [decide_eq_false hs]; rfl
  unfold spPart
  refine ⟨by rw [show thingD (.lst (shs.map D.int))=true from thing_lst plain_int]; rfl,?_⟩
  rw [if_pos (whole_t h.f1 h.f2)]
  dsimp only
  rw [if_pos (whole_t h.m1 h.m2),if_pos e1]
  exact hq
theorem ris_snoc:∀ {c:List Int} {m:Int},risI c=true→(∀ k∈c,k < m)→risI (c++[m])=true
  | [],m,_,_=>rfl
  | [a],m,_,h=>by show (decide (a < m) && true)=true; rw [decide_eq_true (h a List.mem_cons_self)]; rfl
  | a :: b :: r,m,h1,h2=>by
    have h1:(decide (a < b) && risI (b :: r))=true:=h1
    rw [Bool.and_eq_true] at h1
    show (decide (a < b) && risI (b :: (r++[m])))=true
    rw [h1.1,Bool.true_and]
    exact ris_snoc (c:=b :: r) h1.2 fun k hk=>h2 k (List.mem_cons_of_mem _ hk)
theorem part_goT {cs:Cs} {full mark:Int} {shs:List Int} (h:ShOk full mark shs) (hs:shs.sum≠0) {δ:Dk} {q:D→Dk→Prop} {x:Addr→List (Str×D)→Dk→Prop} (hq:q (partD cs full mark shs) δ):spPart cs [.int full,.int mark,.tup (shs.map D.int)] δ q x:=by
  have l1:=h.l1
  have l2:=h.l2
  have e1:shD (.tup (shs.map D.int))=true:=by
    unfold shD wrowD rowD
    dsimp only
    have e2:(shs.map D.int).all (wholeD · 0 9)=true:=by
      rw [List.all_eq_true]
      intro x hx
      obtain ⟨z,hz,rfl⟩:=List.mem_map.mp hx
      exact whole_t (h.s z hz).1 (h.s z hz).2
    rw [e2,List.length_map,decide_eq_true (show (1:Int)≤(shs.length:Int) by omega),decide_eq_true (show (shs.length:Int)≤4 by omega),show (Option.getD (some (shs.map D.int)) [])=shs.map D.int from rfl,ints_map]
    dsimp only
    rw [decide_eq_false hs]; rfl
  have e3:thingD (.tup (shs.map D.int))=true:=by
    unfold thingD rowD
    dsimp only
    rw [List.all_eq_true.mpr plain_int]; rfl
  unfold spPart
  refine ⟨by rw [e3]; rfl,?_⟩
  rw [if_pos (whole_t h.f1 h.f2)]
  dsimp only
  rw [if_pos (whole_t h.m1 h.m2),if_pos e1]
  exact hq
theorem thing_row {d:D} {ch:List Int} (hd:RowZ d ch):thingD d=true:=by
  unfold thingD
  rcases hd with rfl | rfl
  · rw [show rowD (.tup (ch.map D.int))=some (ch.map D.int) from rfl]; dsimp only; rw [List.all_eq_true.mpr plain_int]; rfl
  · rw [show rowD (.lst (ch.map D.int))=some (ch.map D.int) from rfl]; dsimp only; rw [List.all_eq_true.mpr plain_int]; rfl
theorem row_inj {d:D} {ch ch':List Int} (hd:RowZ d ch) (hd':RowZ d ch'):ch'=ch:=by
  have inj:∀ {a b:List Int},a.map D.int=b.map D.int→a=b:=fun {a b} h=>List.map_inj_right (fun x y h=>D.int.inj h) |>.mp h
  rcases hd with rfl | rfl <;> rcases hd' with h | h <;> first | exact (inj (D.tup.inj h)).symm | exact (inj (D.lst.inj h)).symm | cases h
structure ChOk (k:Nat) (ch:List Int):Prop where
  m:∀ z∈ch,0≤z∧z < (k:Int)
  r:risI ch=true
  l:ch.length≤k
theorem wb_go {cs:Cs} {full mark:Int} {shs:List Int} (h:ShOk full mark shs) {st:Int} (s1:mark≤st) (s2:st≤full) {k:Nat} (hk:k≤12) {ch:List Int} (hc:ChOk k ch) {d:D} (hd:RowZ d ch) {δ:Dk} {Q:D→Dk→Prop} {X:Addr→List (Str×D)→Dk→Prop}
    (hQ:Q (.tup ((dueZ full mark shs st (k:Int) ch).map D.int)) δ):spWB cs [partD cs full mark shs,.int st,.int (k:Int),d] δ Q X :=
  ⟨full,mark,shs,_,_,_,rfl,h,rfl,rfl,thing_row hd,fun e=>(by rw [whole_t s1 s2] at e; cases e),fun _ e=>(by rw [whole_t (by omega) (by omega)] at e; cases e),fun _ n en n1 n2=>⟨fun e=>(by cases en; rw [ris_ok hd hc.m hc.r hc.l] at e; cases e),fun st' ch' es hd' _=>(by
    cases en; cases es
    rw [row_inj hd hd']; exact hQ)⟩⟩
theorem ch_go {cs:Cs} {full mark:Int} {shs:List Int} (h:ShOk full mark shs) {st:Int} (s1:mark≤st) (s2:st≤full) {k:Nat} (hk:k≤12) {ch:List Int} (hc:ChOk k ch) {d:D} (hd:RowZ d ch) {δ:Dk} {Q:D→Dk→Prop} {X:Addr→List (Str×D)→Dk→Prop}
    (hQ:Q (.tup [.int (progW shs (w0 full mark st) ch k).2,.int (shs.sum ^ k)]) δ):spChance cs [partD cs full mark shs,.int st,.int (k:Int),d] δ Q X :=
  ⟨full,mark,shs,_,_,_,rfl,h,rfl,rfl,thing_row hd,fun e=>(by rw [whole_t s1 s2] at e; cases e),fun _ e=>(by rw [whole_t (by omega) (by omega)] at e; cases e),fun _ n en n1 n2=>⟨fun e=>(by cases en; rw [ris_ok hd hc.m hc.r hc.l] at e; cases e),fun st' ch' es hd' _=>(by
    cases en; cases es
    rw [row_inj hd hd']; exact hQ)⟩⟩
noncomputable def Dom (m:Nat) (o o':Option Nat):Prop:=o=none∨∃ j j',o=some j∧o'=some j'∧j≤j'∧j' < m
theorem dom_step {m:Nat} {o o':Option Nat} {c c':Bool} {l:Nat} (h:Dom m o o') (hc:c=true→c'=true):Dom m (stepE m c o l) (stepE m c' o' l):=by
  rcases h with rfl | ⟨j,j',rfl,rfl,h1,h2⟩
  · exact .inl rfl
  · show Dom m (stepN (if c=true then m - 1 else j) l) (stepN (if c'=true then m - 1 else j') l)
    have hJ:(if c=true then m - 1 else j)≤(if c'=true then m - 1 else j'):=by
      by_cases e:c=true
      · rw [if_pos e,if_pos (hc e)]; exact Nat.le_refl _
      · rw [if_neg e]; split <;> omega
    have hJ2:(if c'=true then m - 1 else j') < m:=by split <;> omega
    generalize (if c=true then m - 1 else j)=J at hJ
    generalize (if c'=true then m - 1 else j')=J' at hJ hJ2
    unfold stepN
    by_cases e:J < l
    · rw [if_pos e]; exact .inl rfl
    · rw [if_neg e,if_neg (by omega)]
      exact .inr ⟨_,_,rfl,rfl,by omega,by omega⟩
theorem dom_fold {m:Nat} {ch ch':List Int} (hs:∀ z∈ch,z∈ch'):∀ (r:List Nat) (i:Nat) (o o':Option Nat),Dom m o o' →
    Dom m (r.foldl (fun (s:Nat×Option Nat) l=>(s.1 + 1,stepE m (decide (((s.1:Nat):Int)∈ch)) s.2 l)) (i,o)).2 (r.foldl (fun (s:Nat×Option Nat) l=>(s.1 + 1,stepE m (decide (((s.1:Nat):Int)∈ch')) s.2 l)) (i,o')).2
  | [],_,_,_,h=>h
  | l :: r,i,o,o',h=>dom_fold hs r (i + 1) _ _ (dom_step h fun e=>decide_eq_true (hs _ (of_decide_eq_true e)))
theorem cnt_dom {shs:List Int} (h9:∀ z∈shs,0≤z∧z≤9) {m:Nat} {ch ch':List Int} (hs:∀ z∈ch,z∈ch') {j0:Nat} (h0:j0 < m) (R:List (List Nat)):cnt shs m ch' j0 R none≤cnt shs m ch j0 R none:=by
  refine tot_le fun r _=>?_
  have d:=dom_fold (m:=m) hs r 0 (some j0) (some j0) (.inr ⟨j0,j0,rfl,rfl,Nat.le_refl _,h0⟩)
  by_cases e:(endR m ch' j0 r).2=none
  · have e2:(endR m ch j0 r).2=none:=by
      rcases d with d | ⟨j,j',_,d2,_⟩
      · exact d
      · have:(endR m ch' j0 r).2=some j':=d2
        rw [e] at this; cases this
    rw [if_pos e,if_pos e2]
    exact Int.le_refl _
  · rw [if_neg e]
    split
    · exact prod_nn h9 r
    · exact Int.le_refl _
theorem due_facts {full mark:Int} {shs:List Int} (h:ShOk full mark shs) {st:Int} (s1:mark≤st) (s2:st≤full) {k:Nat} (hk:k≤12) (ch:List Int):bigD (dueZ full mark shs st (k:Int) ch)∧(dueZ full mark shs st (k:Int) ch).sum=shs.sum ^ k ∧
    (∀ ch',(∀ z∈ch,z∈ch')→(progW shs (w0 full mark st) ch' k).2≤(progW shs (w0 full mark st) ch k).2):=by
  have f2:=h.f2
  have m1:=h.m1
  have m2:=h.m2
  have hj:(st - mark).toNat < mOf full mark:=by unfold mOf; omega
  have e0:∀ ch,progW shs (w0 full mark st) ch k=_:=fun ch=>by rw [w0_is s1,show (full - mark + 1).toNat=mOf full mark from rfl,main (ch:=ch) hj]
  have nn:∀ x,0≤cnt shs (mOf full mark) ch (st - mark).toNat (rowsK shs.length k) x:=fun x=>(cnt_bd (m:=mOf full mark) (ch:=ch) (j0:=(st - mark).toNat) (x:=x) h.l2 h.s hk).1
  have es:(dueZ full mark shs st (k:Int) ch).sum=shs.sum ^ k:=by
    unfold dueZ
    rw [Int.toNat_natCast,e0,List.sum_append,rowN_sum,← cnt_all (shs:=shs) (ch:=ch) (k:=k) hj]
    simp
    omega
  refine ⟨⟨fun z hz=>?_,?_⟩,es,fun ch' hs=>?_⟩
  · unfold dueZ at hz
    rw [Int.toNat_natCast,e0] at hz
    rcases List.mem_append.mp hz with hz | hz
    · unfold rowN at hz
      obtain ⟨j,_,rfl⟩:=List.mem_map.mp hz
      exact nn _
    · rw [List.mem_singleton.mp hz]; exact nn _
  · have:=pow_bd (sum_shs h).1 (sum_shs h).2 hk
    rw [es]; omega
  · rw [e0,e0]
    exact cnt_dom h.s hs hj _
theorem ris_tail:∀ {a:Int} {r:List Int},risI (a :: r)=true→risI r=true∧∀ y∈r,a < y
  | a,[],_=>⟨rfl,fun y hy=>nomatch hy⟩
  | a,b :: r,h=>by
    have h:(decide (a < b) && risI (b :: r))=true:=h
    rw [Bool.and_eq_true,decide_eq_true_eq] at h
    refine ⟨h.2,fun y hy=>?_⟩
    rcases List.mem_cons.mp hy with rfl | hy
    · exact h.1
    · have:=(ris_tail h.2).2 y hy; omega
theorem ris_nd:∀ {c:List Int},risI c=true→c.Nodup
  | [],_=>List.nodup_nil
  | a :: r,h=>by
    have:=ris_tail h
    exact List.nodup_cons.mpr ⟨fun hm=>absurd (this.2 a hm) (by omega),ris_nd this.1⟩
theorem ris_of:∀ {c:List Int},c.Pairwise (·≤·)→c.Nodup→risI c=true
  | [],_,_=>rfl
  | [a],_,_=>rfl
  | a :: b :: r,h1,h2=>by
    rw [List.pairwise_cons] at h1
    rw [List.nodup_cons] at h2
    show (decide (a < b) && risI (b :: r))=true
    have hle:=h1.1 b (List.mem_cons_self ..)
    have hne:a≠b:=fun e=>h2.1 (e ▸ List.mem_cons_self ..)
    rw [decide_eq_true (by omega),Bool.true_and]
    exact ris_of h1.2 h2.2
theorem sort_ok {k:Nat} {ch:List Int} {z:Int} (hc:ChOk k ch) (z0:0≤z) (z1:z < (k:Int)) (hz:z ∉ ch) (hl:ch.length < k):ChOk k (sortZ (ch++[z]))∧∀ y∈ch,y∈sortZ (ch++[z]):=by
  have p:(sortZ (ch++[z])).Perm (ch++[z]):=List.mergeSort_perm _ _
  have mem:∀ y,y∈sortZ (ch++[z]) ↔ y∈ch∨y=z:=fun y=>by rw [p.mem_iff,List.mem_append,List.mem_singleton]
  have so:(sortZ (ch++[z])).Pairwise (·≤·):=by
    have:=List.pairwise_mergeSort (le:=fun a b:Int=>decide (a≤b)) (fun a b c h1 h2=>decide_eq_true (Int.le_trans (of_decide_eq_true h1) (of_decide_eq_true h2))) (fun a b=>by rcases Int.le_total a b with h | h <;> simp [h]) (ch++[z])
    exact this.imp fun h=>of_decide_eq_true h
  have nd:(ch++[z]).Nodup:=by
    rw [List.nodup_append]
    refine ⟨ris_nd hc.r,by simp,fun a ha b hb e=>?_⟩
    have hb:b=z:=by simpa using hb
    exact hz (hb ▸ e ▸ ha)
  have nd2:=p.nodup_iff.mpr nd
  refine ⟨⟨fun y hy=>?_,ris_of so nd2,?_⟩,fun y hy=>(mem y).mpr (.inl hy)⟩
  · rcases (mem y).mp hy with h | rfl
    · exact hc.m y h
    · exact ⟨z0,z1⟩
  · rw [p.length_eq,List.length_append,List.length_singleton]; omega
noncomputable def laT (cs:Cs):TS2:=fun E ρ δ=>∃ c0 p ns n full mark shs st,∃ (ch:List Int) (k:Nat),ρ=[c0,.val (.ref p),.val (specD full mark shs),.val (partD cs full mark shs),.val (.int st),.val (.int (k:Int)),.val (.lst (ch.map D.int)),.no,.no,.no,.no,.no]∧DkAt p ns n δ∧n < 2 ^ 19∧ShOk full mark shs∧mark≤st∧st≤full∧k≤12∧ChOk k ch∧∀ δ',E.rt (.bl true) δ'
noncomputable abbrev p_law:List Str:=["_law_script"]
theorem sc_law:FnScope ["_law_script","_law_deck_here","_law_spec_here","_law_part","_law_stand","_law_rounds","_law_changes","_law_due_here","_law_whole","_law_spare","_law_more","_law_found"] p_law (defScope s_law):=⟨rfl,rfl,rfl,by decide +kernel,rfl,by decide +kernel,by decide +kernel⟩
theorem ok_law {f:Addr} {fd:FuncData} (Df:DefAt K mg "law" s_law p_law f fd) (T:Txt K mg cs) (G_law_deck:F_law_deck P w K mg base cs) (G_law_spec:F_law_spec P w K mg base cs) (M_Shared:Make2 P w K mg base "Shared" 4 (spPart cs)) (G_law_take:F_law_take P w K mg base cs) (G_law_due:F_law_due P w K mg base cs) (G_law_all:F_law_all P w K mg base cs) (G_chance_of_fall:F_chance_of_fall P w K mg base cs) (G_weights_behind:F_weights_behind P w K mg base cs) (G_law_row:F_law_row P w K mg base cs) (G_law_refusals:F_law_refusals P w K mg base cs):FnOk P w K mg base (CX1 P w) 10 f fd p_law (upF K spLaw):=by
  have nd:=sc_law.nd
  refine def2F Df sc_law (fun ds δ q x h=>?_) (fun cdv A outer s H E Y hr=>⟨_,(ss_cons (s2_set 1 nd (e2_call G_law_deck (hr.mono (by decide)) flies_fn (a2_cons (e2_v 0) a2_nil)))
      (ss_cons (s2_set 2 nd (e2_call G_law_spec (hr.mono (by decide)) flies_fn (a2_cons (e2_v 1) (a2_cons e2_int a2_nil))))
      (ss_cons (s2_set 3 nd (e2_make M_Shared (hr.mono (by decide)) flies_fn (a2_cons (e2_ixv 2 e2_int) (a2_cons (e2_ixv 2 e2_int) (a2_cons (e2_ixv 2 e2_int) a2_nil)))))
      (ss_cons (s2_set 4 nd (e2_op op_addE d_addE (e2_ixv 2 e2_int) (e2_call G_law_take (hr.mono (by decide)) flies_fn (a2_cons (e2_v 1) (a2_cons (e2_op op_addE d_addE (e2_op op_sub d_sub (e2_ixv 2 e2_int) (e2_ixv 2 e2_int)) e2_int) a2_nil)))))
      (ss_cons (s2_set 5 nd (e2_ix ix_seq d_ix (e2_lst (a2_cons e2_int (a2_cons e2_int (a2_cons (e2_call G_law_take (hr.mono (by decide)) flies_fn (a2_cons (e2_v 1) (a2_cons e2_int a2_nil))) a2_nil)))) (e2_call G_law_take (hr.mono (by decide)) flies_fn (a2_cons (e2_v 1) (a2_cons e2_int a2_nil)))))
      (ss_cons (s2_set 6 nd (e2_compM rfl (CompOkM.of ["_law_at"] [1] rfl) (i2_range1 T.n_range (a2_cons (e2_v 5) a2_nil)) (fun nd _ _ _ _ _=>(pg_name (i:=0) nd rfl (by first | exact Or.inl rfl | exact Or.inr rfl))) tgm_name (fun _ _ _ _ _ _=>(if2_one (t2_cmp (op_eqE hr.units0) d_eqE (e2_call G_law_take (hr.mono (by decide)) flies0 (a2_cons (e2_v 1) (a2_cons e2_int a2_nil))) e2_int (nomark _)))) (fun _ _ _ _ _ _=>(e2_v 0))))
      (ss_weak (t':=laT cs) (ss_cons (s2_set 7 nd (e2_call G_law_due (hr.mono (by decide)) flies_fn (a2_cons (e2_v 2) (a2_cons (e2_v 4) (a2_cons (e2_v 5) (a2_cons (e2_v 6) a2_nil))))))
      (ss_cons (s2_set 8 nd (e2_call G_law_all (hr.mono (by decide)) flies_fn (a2_cons (e2_v 2) (a2_cons (e2_v 5) a2_nil))))
      (ss_cons (s2_if (t2_not (t2_val (e2_call G_law_row (hr.mono (by decide)) flies_fn (a2_cons (e2_call G_chance_of_fall (hr.mono (by decide)) flies_fn (a2_cons (e2_v 3) (a2_cons (e2_v 4) (a2_cons (e2_v 5) (a2_cons (e2_bt call_list_of d_list T.n_list bt_list (a2_cons (e2_v 6) a2_nil)) a2_nil))))) (a2_cons (e2_lst (a2_cons (e2_ixv 7 (e2_neg e2_int)) (a2_cons (e2_v 8) a2_nil))) a2_nil))))) (ss_one (s2_ret e2_bl)) ss_nil)
      (ss_cons (s2_if (PW2.pt (w2_or (t2_not (t2_val (e2_call G_law_row (hr.mono (by decide)) flies_fn (a2_cons (e2_call G_weights_behind (hr.mono (by decide)) flies_fn (a2_cons (e2_v 3) (a2_cons (e2_v 4) (a2_cons (e2_v 5) (a2_cons (e2_v 6) a2_nil))))) (a2_cons (e2_v 7) a2_nil))))) (w2_or1 (t2_cmp (op_neE hr.units0) d_neE (e2_b (call_sum rfl) d_sumB T.n_sum bt_sum (a2_cons (e2_v 7) a2_nil)) (e2_v 8) (nomark _))))) (ss_one (s2_ret e2_bl)) ss_nil)
      (ss_cons (s2_compM (i:=9) rfl (CompOkM.of ["_law_at"] [6] rfl) (i2_range1 T.n_range (a2_cons (e2_v 5) a2_nil)) (fun nd _ _ _ _ _=>(pg_name (i:=0) nd rfl (by first | exact Or.inl rfl | exact Or.inr rfl))) tgm_name (fun _ _ _ _ _ _=>(if2_one (t2_cmp op_notIn_seq d_notIn (e2_v 0) (e2_v 1) rfl))) (fun _ _ _ _ _ _=>(e2_v 0)) nd)
      (ss_cons (s2_if (t2_cmp op_gt d_gt (e2_lenv 9 T.n_len) e2_int (nomark _)) (ss_cons (s2_set 10 nd (e2_b call_sortedI d_sortI T.n_sorted bt_sorted (a2_cons (e2_op op_addE d_addE (e2_v 6) (e2_lst (a2_cons (e2_ixv 9 (e2_call G_law_take (hr.mono (by decide)) flies_fn (a2_cons (e2_v 1) (a2_cons (e2_lenv 9 T.n_len) a2_nil)))) a2_nil))) a2_nil)))
      (ss_cons (s2_set 11 nd (e2_call G_chance_of_fall (hr.mono (by decide)) flies_fn (a2_cons (e2_v 3) (a2_cons (e2_v 4) (a2_cons (e2_v 5) (a2_cons (e2_v 10) a2_nil))))))
      (ss_one (s2_if (PW2.pt (w2_or (t2_not (t2_val (e2_call G_law_row (hr.mono (by decide)) flies_fn (a2_cons (e2_v 11) (a2_cons (e2_lst (a2_cons (e2_ix ix_seq d_ix (e2_call G_law_due (hr.mono (by decide)) flies_fn (a2_cons (e2_v 2) (a2_cons (e2_v 4) (a2_cons (e2_v 5) (a2_cons (e2_v 10) a2_nil))))) (e2_neg e2_int)) (a2_cons (e2_v 8) a2_nil))) a2_nil))))) (w2_or1 (t2_cmp op_gt d_gt (e2_ixv 11 e2_int) (e2_ixv 7 (e2_neg e2_int)) (nomark _))))) (ss_one (s2_ret e2_bl)) ss_nil)))) ss_nil)
      (ss_cons (s2_if (t2_not (t2_val (e2_call G_law_refusals (hr.mono (by decide)) flies_fn (a2_cons (e2_v 1) (a2_cons (e2_v 2) (a2_cons (e2_v 3) (a2_cons (e2_v 5) a2_nil))))))) (ss_one (s2_ret e2_bl)) ss_nil)
      (ss_one (s2_ret (e2_call G_law_row (hr.mono (by decide)) flies_fn (a2_cons (e2_call G_chance_of_fall (hr.mono (by decide)) flies_fn (a2_cons (e2_v 3) (a2_cons (e2_v 4) (a2_cons (e2_v 5) (a2_cons (e2_bt call_tuple_of d_tuple T.n_tuple bt_tuple (a2_cons (e2_v 6) a2_nil)) a2_nil))))) (a2_cons (e2_lst (a2_cons (e2_ixv 7 (e2_neg e2_int)) (a2_cons (e2_v 8) a2_nil))) a2_nil)))))))))))) (by
          rintro E ρ δ ⟨c0,p,ns,n,full,mark,shs,st,ch,k,rfl,hD,hn,h,s1,s2,hk,hc,hq⟩
          obtain ⟨db,ds,dd⟩:=due_facts h s1 s2 hk ch
          walk_at "dn"
          refine ⟨full,mark,shs,st,_,ch,_,rfl,.inr rfl,h,⟨s1,s2⟩,⟨by omega,by omega⟩,?_⟩
          walk_at "dn"
          refine ⟨full,mark,shs,_,rfl,h,by omega,by omega,?_⟩
          refine ch_go h s1 s2 hk hc (.inr rfl) ?_
          have last:atI ((dueZ full mark shs st (k:Int) ch).map D.int) (-1)=some (.int (progW shs (w0 full mark st) ch k).2):=at_last
          rw [last]
          dsimp only
          rw [Int.toNat_natCast]
          refine ⟨[(progW shs (w0 full mark st) ch k).2,shs.sum ^ k],[(progW shs (w0 full mark st) ch k).2,shs.sum ^ k],_,rfl,.inl rfl,?_⟩
          rw [decide_eq_true rfl]
          simp only [Bool.not_true,Bool.false_eq_true,if_false]
          refine wb_go h s1 s2 hk hc (.inr rfl) ?_
          refine ⟨_,_,_,rfl,.inl rfl,?_⟩
          rw [decide_eq_true rfl]
          simp only [Bool.not_true,Bool.false_eq_true,if_false]
          rw [ints_map]
          refine ⟨db,?_⟩
          rw [ds]
          simp only [decide_true,Bool.not_true,Bool.false_eq_true,if_false]
          refine ⟨⟨by omega,by omega⟩,?_⟩
          refine compM_filter (fun d=>match d with | .int z=>!decide (z∈ch) | _=>false) id (by rw [rngD_len]; omega) (fun d hd Q k1 k2=>?_) ?_
          · obtain ⟨i,hi⟩:=List.getElem?_of_mem hd
            obtain ⟨hi2,rfl⟩:=rngD_get hi
            refine ⟨_,rfl,?_⟩
            simp only [capt,captC,List.map_cons,List.map_nil,List.getElem?_cons_zero,List.getElem?_cons_succ,List.cons_append,List.nil_append]
            walk_at "dn"
            simp only [flat_ints,in_ints,flatD,Bool.true_and,true_and]
            split
            · rename_i e; exact k1 e
            · rename_i e; exact k2 (by simpa using e)
          rw [List.map_id]
          have hf:∀ d∈(rngD 0 k).filter (fun d=>match d with | .int z=>!decide (z∈ch) | _=>false),∃ z:Int,d=.int z∧0≤z∧z < (k:Int)∧z ∉ ch:=fun d hd=>by
            obtain ⟨h1,h2⟩:=List.mem_filter.mp hd
            obtain ⟨i,hi⟩:=List.getElem?_of_mem h1
            obtain ⟨hi2,rfl⟩:=rngD_get hi
            exact ⟨_,rfl,by omega,by omega,by simpa using h2⟩
          have hfl:((rngD 0 k).filter (fun d=>match d with | .int z=>!decide (z∈ch) | _=>false)).length≤k:=Nat.le_trans (List.length_filter_le _ _) (by rw [rngD_len]; exact Nat.le_refl _)
          generalize (rngD 0 k).filter (fun d=>match d with | .int z=>!decide (z∈ch) | _=>false)=fl at hf hfl ⊢
          by_cases hp:0 < (fl.length:Int)
          · rw [if_pos hp]
            refine ⟨p,ns,n,_,rfl,hD,by omega,hp,by omega,fun t δ1 t1 t2 hD=>?_⟩
            obtain ⟨y,ey,hy⟩:=atL (xs:=fl) t1 t2
            obtain ⟨z,rfl,z0,z1,z2⟩:=hf y hy
            dsimp only
            rw [ey]
            dsimp only
            have hlt:ch.length < k:=by
              have nd:(ch++[z]).Nodup:=by
                rw [List.nodup_append]
                refine ⟨ris_nd hc.r,by simp,fun a ha b hb e=>?_⟩
                have hb:b=z:=by simpa using hb
                exact z2 (hb ▸ e ▸ ha)
              have:=few_in k (ch++[z]) nd fun x hx=>by
                rcases List.mem_append.mp hx with hx | hx
                · exact hc.m x hx
                · rw [List.mem_singleton.mp hx]; exact ⟨z0,z1⟩
              rw [List.length_append,List.length_singleton] at this
              omega
            obtain ⟨hm,hsub⟩:=sort_ok hc z0 z1 z2 hlt
            have e2:ch.map D.int++[.int z]=(ch++[z]).map D.int:=by rw [List.map_append]; rfl
            rw [e2,ints_map]
            dsimp only
            refine ⟨by rw [List.length_map]; omega,by rw [List.length_append,List.length_singleton]; omega,?_⟩
            refine ch_go h s1 s2 hk hm (.inr rfl) ?_
            refine ⟨full,mark,shs,st,_,_,_,rfl,.inr rfl,h,⟨s1,s2⟩,⟨by omega,by omega⟩,?_⟩
            have last2:atI ((dueZ full mark shs st (k:Int) (sortZ (ch++[z]))).map D.int) (-1)=some (.int (progW shs (w0 full mark st) (sortZ (ch++[z])) k).2):=at_last
            dsimp only
            rw [last2]
            dsimp only
            refine ⟨[(progW shs (w0 full mark st) (sortZ (ch++[z])) k).2,shs.sum ^ k],[(progW shs (w0 full mark st) (sortZ (ch++[z])) k).2,shs.sum ^ k],_,rfl,.inl rfl,?_⟩
            rw [decide_eq_true rfl]
            have dle:=dd _ hsub
            walk_at "dn"
            rw [if_neg (by omega)]
            refine ⟨p,ns,_,full,mark,shs,k,rfl,hD,by omega,h,hk,fun δ9 _=>?_⟩
            simp only [Bool.not_true,Bool.false_eq_true,if_false]
            refine ch_go h s1 s2 hk hc (.inl rfl) ?_
            refine ⟨[(progW shs (w0 full mark st) ch k).2,shs.sum ^ k],[(progW shs (w0 full mark st) ch k).2,shs.sum ^ k],_,rfl,.inl rfl,?_⟩
            rw [decide_eq_true rfl]
            exact hq _
          · rw [if_neg hp]
            refine ⟨p,ns,_,full,mark,shs,k,rfl,hD,by omega,h,hk,fun δ9 _=>?_⟩
            simp only [Bool.not_true,Bool.false_eq_true,if_false]
            refine ch_go h s1 s2 hk hc (.inl rfl) ?_
            refine ⟨[(progW shs (w0 full mark st) ch k).2,shs.sum ^ k],[(progW shs (w0 full mark st) ch k).2,shs.sum ^ k],_,rfl,.inl rfl,?_⟩
            rw [decide_eq_true rfl]
            exact hq _)))))))),fun ds δ q x h=>?_⟩)
  · unfold spLaw at h
    obtain ⟨ns,rfl,hl,rfl,hq⟩:=h
    rfl
  · unfold spLaw at h
    obtain ⟨ns,rfl,hl,rfl,hq⟩:=h
    rw [show start2 ["_law_script","_law_deck_here","_law_spec_here","_law_part","_law_stand","_law_rounds","_law_changes","_law_due_here","_law_whole","_law_spare","_law_more","_law_found"] _=[.val _,.no,.no,.no,.no,.no,.no,.no,.no,.no,.no,.no] from rfl]
    walk_at "dn"
    refine ⟨ns,rfl,rfl,fun p δ0 hD=>?_⟩
    refine ⟨p,ns,_,rfl,hD,by decide,fun full mark shs δ1 h hs0 hD=>?_⟩
    have f1:=h.f1
    have f2:=h.f2
    have m1:=h.m1
    have m2:=h.m2
    unfold specD
    walk_at "dn"
    refine part_goT h hs0 ?_
    refine ⟨p,ns,_,_,rfl,hD,by decide,by omega,by omega,fun a0 δ2 a1 a2 hD=>?_⟩
    refine ⟨p,ns,_,13,rfl,hD,by decide,by decide,by decide,fun b0 δ3 b1 b2 hD=>?_⟩
    refine ⟨p,ns,_,3,rfl,hD,by decide,by decide,by decide,fun c0 δ4 c1 c2 hD=>?_⟩
    obtain ⟨z,ez,hz⟩:=atL (xs:=[.int 12,.int 1,.int b0]) c1 (by simpa using c2)
    have hz2:∃ k:Nat,z=.int (k:Int)∧k≤12:=by
      simp only [List.mem_cons,List.not_mem_nil,or_false] at hz
      rcases hz with rfl | rfl | rfl
      · exact ⟨12,rfl,by decide⟩
      · exact ⟨1,rfl,by decide⟩
      · exact ⟨b0.toNat,by congr 1; omega,by omega⟩
    obtain ⟨k,rfl,hk⟩:=hz2
    dsimp only
    rw [ez]
    dsimp only
    refine ⟨⟨by omega,by omega⟩,?_⟩
    refine compM_ix (fun i acc δ'=>∃ ch:List Int,acc=ch.map D.int∧ch.length≤i∧(∀ z∈ch,0≤z∧z < (i:Int))∧risI ch=true∧DkAt p ns (0 + 20 + 1 + 1 + 1 + i) δ') ⟨[],rfl,Nat.le_refl _,fun z hz=>(by cases hz),rfl,hD⟩ ?_ ?_
    · rintro i d acc δ' rest hi ⟨ch,rfl,h1,h2,h3,hD⟩ hrest
      obtain ⟨hi2,rfl⟩:=rngD_get hi
      rw [Int.toNat_natCast] at hi2
      simp only [tgD,capt,captC,List.map_cons,List.map_nil,List.getElem?_cons_zero,List.getElem?_cons_succ,List.cons_append,List.nil_append]
      walk_at "dn"
      refine ⟨p,ns,_,4,rfl,hD,by omega,by decide,by decide,fun x0 δ5 x1 x2 hD=>?_⟩
      dsimp only
      split
      · refine ⟨by rw [List.length_map]; omega,hrest _ _ ⟨ch++[0 + (i:Int)],by rw [List.map_append]; rfl,by rw [List.length_append,List.length_singleton]; omega,fun z hz=>?_,ris_snoc h3 fun z hz=>?_,hD⟩⟩
        · rcases List.mem_append.mp hz with hz | hz
          · have:=h2 z hz; omega
          · rw [List.mem_singleton.mp hz]; omega
        · have:=h2 z hz; omega
      · exact hrest _ _ ⟨ch,rfl,by omega,fun z hz=>by have:=h2 z hz; omega,h3,hD⟩
    · rintro acc δ' ⟨ch,rfl,h1,h2,h3,hD⟩
      rw [rngD_len,Int.toNat_natCast] at h1 h2 hD
      exact ⟨_,p,ns,_,full,mark,shs,_,ch,k,rfl,hD,by omega,h,by omega,by omega,hk,⟨h2,h3,h1⟩,hq⟩
theorem sc_NoPart_init:FnScope ["self","at"] ["self","at"] (defScope s_NoPart_init):=⟨rfl,rfl,rfl,by decide +kernel,rfl,by decide +kernel,by decide +kernel⟩
theorem ok_NoPart_init {f C:Addr} {fd:FuncData} (F:Fun K "__init__" "NoPart.__init__" s_NoPart_init f fd) (xc:XC K C) (n0:NoAttr K C "at"):FnOk P w K mg base CX0 1 f fd ["self","at"] (spXI C "at"):=by
  refine F.ok sc_NoPart_init (fun vs H Q E h=>?_) (fun cdv A outer s H vs Q E hr h=>⟨_,pss_one (ps_x0 (pv 0) (pv 1) rfl),?_⟩)
  · obtain ⟨x,v,rfl,_⟩:=h; rfl
  · obtain ⟨x,v,rfl,hx,q⟩:=h
    exact ⟨_,rfl,_,rfl,x,C,rfl,hx,xc,n0,fun d hd hne=>q d hd hne⟩
theorem sc_NoPlan_init:FnScope ["self","at"] ["self","at"] (defScope s_NoPlan_init):=⟨rfl,rfl,rfl,by decide +kernel,rfl,by decide +kernel,by decide +kernel⟩
theorem ok_NoPlan_init {f C:Addr} {fd:FuncData} (F:Fun K "__init__" "NoPlan.__init__" s_NoPlan_init f fd) (xc:XC K C) (n0:NoAttr K C "at"):FnOk P w K mg base CX0 1 f fd ["self","at"] (spXI C "at"):=by
  refine F.ok sc_NoPlan_init (fun vs H Q E h=>?_) (fun cdv A outer s H vs Q E hr h=>⟨_,pss_one (ps_x0 (pv 0) (pv 1) rfl),?_⟩)
  · obtain ⟨x,v,rfl,_⟩:=h; rfl
  · obtain ⟨x,v,rfl,hx,q⟩:=h
    exact ⟨_,rfl,_,rfl,x,C,rfl,hx,xc,n0,fun d hd hne=>q d hd hne⟩
@[elab_as_elim] theorem el0 {α:Type} {motive:List α→Prop} (us:List α) (hl:us.length=0) (h:motive []):motive us:=match us,hl with
  | [],_=>h
@[elab_as_elim] theorem el1 {α:Type} {motive:List α→Prop} (us:List α) (hl:us.length=1) (h:∀ a,motive [a]):motive us:=match us,hl with
  | [a],_=>h a
@[elab_as_elim] theorem el2 {α:Type} {motive:List α→Prop} (us:List α) (hl:us.length=2) (h:∀ a b,motive [a,b]):motive us:=match us,hl with
  | [a,b],_=>h a b
@[elab_as_elim] theorem el3 {α:Type} {motive:List α→Prop} (us:List α) (hl:us.length=3) (h:∀ a b c,motive [a,b,c]):motive us:=match us,hl with
  | [a,b,c],_=>h a b c
@[elab_as_elim] theorem el4 {α:Type} {motive:List α→Prop} (us:List α) (hl:us.length=4) (h:∀ a b c d,motive [a,b,c,d]):motive us:=match us,hl with
  | [a,b,c,d],_=>h a b c d
@[elab_as_elim] theorem el5 {α:Type} {motive:List α→Prop} (us:List α) (hl:us.length=5) (h:∀ a b c d e,motive [a,b,c,d,e]):motive us:=match us,hl with
  | [a,b,c,d,e],_=>h a b c d e
@[elab_as_elim] theorem el6 {α:Type} {motive:List α→Prop} (us:List α) (hl:us.length=6) (h:∀ a b c d e f,motive [a,b,c,d,e,f]):motive us:=match us,hl with
  | [a,b,c,d,e,f],_=>h a b c d e f
@[elab_as_elim] theorem el7 {α:Type} {motive:List α→Prop} (us:List α) (hl:us.length=7) (h:∀ a b c d e f g,motive [a,b,c,d,e,f,g]):motive us:=match us,hl with
  | [a,b,c,d,e,f,g],_=>h a b c d e f g
@[elab_as_elim] theorem el8 {α:Type} {motive:List α→Prop} (us:List α) (hl:us.length=8) (h:∀ a b c d e f g i,motive [a,b,c,d,e,f,g,i]):motive us:=match us,hl with
  | [a,b,c,d,e,f,g,i],_=>h a b c d e f g i
theorem all_mk {l:PySem.W.OpenLaw} {w:World} {K:PySem.W.Frag} {h:Heap} {mg:Str→Option Value} {fa:Addr} {cs:Cs} (X:K.In h) (G:h.Ns mainGlobals mg) (hfa:mg "law" = some (.ref fa)) (T:Txt K mg cs) (h_is_number:HD.FnF K "is_number" s_is_number) (h_is_whole:HD.FnF K "is_whole" s_is_whole) (h_is_row:HD.FnF K "is_row" s_is_row) (h_is_whole_row:HD.FnF K "is_whole_row" s_is_whole_row) (h_is_rising_row:HD.FnF K "is_rising_row" s_is_rising_row) (h_is_stand:HD.FnF K "is_stand" s_is_stand) (h_check_stand:HD.FnF K "check_stand" s_check_stand) (h_total_of:HD.FnF K "total_of" s_total_of) (h_cases_of:HD.FnF K "cases_of" s_cases_of) (h_weights_of:HD.FnF K "weights_of" s_weights_of) (h_lose_once:HD.FnF K "lose_once" s_lose_once) (h_weights_behind:HD.FnF K "weights_behind" s_weights_behind) (h_chance_of_fall:HD.FnF K "chance_of_fall" s_chance_of_fall) (h_law_cell:HD.FnF K "_law_cell" s_law_cell) (h_law_draw:HD.FnF K "_law_draw" s_law_draw) (h_law_deck:HD.FnF K "_law_deck" s_law_deck) (h_law_take:HD.FnF K "_law_take" s_law_take) (h_law_number:HD.FnF K "_law_number" s_law_number) (h_law_row:HD.FnF K "_law_row" s_law_row) (h_law_spec:HD.FnF K "_law_spec" s_law_spec) (h_law_due:HD.FnF K "_law_due" s_law_due) (h_law_all:HD.FnF K "_law_all" s_law_all) (h_law_refused:HD.FnF K "_law_refused" s_law_refused) (h_law_refusals:HD.FnF K "_law_refusals" s_law_refusals) (h_law:HD.FnF K "law" s_law) (x_NoPart:HD.XMkF K cs.NoPart "NoPart.__init__" s_NoPart_init) (x_NoPlan:HD.XMkF K cs.NoPlan "NoPlan.__init__" s_NoPlan_init) (o_Shared:HD.MkF K cs.Shared "Shared.__init__" s_Shared_init) :
    ∃ fd:FuncData,(∀ (s:Shared) (v:Value),BindsTo s fd ⟨[v],[]⟩ [("_law_script",v)])∧∀ base:Heap,K.In base→base.Ns mainGlobals mg→FnOk l.prog w K mg base (CX1 l.prog w) 10 fa fd p_law (upF K spLaw):=by
  obtain ⟨f_is_number,d_is_number,D_is_number⟩:=h_is_number.at X G (ps:=p_is_number) fun _ _ _ _ _ _ us hl=>el1 us hl (fun _=>rfl)
  obtain ⟨f_is_whole,d_is_whole,D_is_whole⟩:=h_is_whole.at X G (ps:=p_is_whole) fun _ _ _ _ _ _ us hl=>el3 us hl (fun _ _ _=>rfl)
  obtain ⟨f_is_row,d_is_row,D_is_row⟩:=h_is_row.at X G (ps:=p_is_row) fun _ _ _ _ _ _ us hl=>el1 us hl (fun _=>rfl)
  obtain ⟨f_is_whole_row,d_is_whole_row,D_is_whole_row⟩:=h_is_whole_row.at X G (ps:=p_is_whole_row) fun _ _ _ _ _ _ us hl=>el5 us hl (fun _ _ _ _ _=>rfl)
  obtain ⟨f_is_rising_row,d_is_rising_row,D_is_rising_row⟩:=h_is_rising_row.at X G (ps:=p_is_rising_row) fun _ _ _ _ _ _ us hl=>el3 us hl (fun _ _ _=>rfl)
  obtain ⟨f_is_stand,d_is_stand,D_is_stand⟩:=h_is_stand.at X G (ps:=p_is_stand) fun _ _ _ _ _ _ us hl=>el2 us hl (fun _ _=>rfl)
  obtain ⟨f_check_stand,d_check_stand,D_check_stand⟩:=h_check_stand.at X G (ps:=p_check_stand) fun _ _ _ _ _ _ us hl=>el2 us hl (fun _ _=>rfl)
  obtain ⟨f_total_of,d_total_of,D_total_of⟩:=h_total_of.at X G (ps:=p_total_of) fun _ _ _ _ _ _ us hl=>el1 us hl (fun _=>rfl)
  obtain ⟨f_cases_of,d_cases_of,D_cases_of⟩:=h_cases_of.at X G (ps:=p_cases_of) fun _ _ _ _ _ _ us hl=>el2 us hl (fun _ _=>rfl)
  obtain ⟨f_weights_of,d_weights_of,D_weights_of⟩:=h_weights_of.at X G (ps:=p_weights_of) fun _ _ _ _ _ _ us hl=>el2 us hl (fun _ _=>rfl)
  obtain ⟨f_lose_once,d_lose_once,D_lose_once⟩:=h_lose_once.at X G (ps:=p_lose_once) fun _ _ _ _ _ _ us hl=>el2 us hl (fun _ _=>rfl)
  obtain ⟨f_weights_behind,d_weights_behind,D_weights_behind⟩:=h_weights_behind.at X G (ps:=p_weights_behind) fun _ _ _ _ _ _ us hl=>el4 us hl (fun _ _ _ _=>rfl)
  obtain ⟨f_chance_of_fall,d_chance_of_fall,D_chance_of_fall⟩:=h_chance_of_fall.at X G (ps:=p_chance_of_fall) fun _ _ _ _ _ _ us hl=>el4 us hl (fun _ _ _ _=>rfl)
  obtain ⟨f_law_cell,d_law_cell,D_law_cell⟩:=h_law_cell.at X G (ps:=p_law_cell) fun _ _ _ _ _ _ us hl=>el2 us hl (fun _ _=>rfl)
  obtain ⟨f_law_draw,d_law_draw,D_law_draw⟩:=h_law_draw.at X G (ps:=p_law_draw) fun _ _ _ _ _ _ us hl=>el3 us hl (fun _ _ _=>rfl)
  obtain ⟨f_law_deck,d_law_deck,D_law_deck⟩:=h_law_deck.at X G (ps:=p_law_deck) fun _ _ _ _ _ _ us hl=>el1 us hl (fun _=>rfl)
  obtain ⟨f_law_take,d_law_take,D_law_take⟩:=h_law_take.at X G (ps:=p_law_take) fun _ _ _ _ _ _ us hl=>el2 us hl (fun _ _=>rfl)
  obtain ⟨f_law_number,d_law_number,D_law_number⟩:=h_law_number.at X G (ps:=p_law_number) fun _ _ _ _ _ _ us hl=>el2 us hl (fun _ _=>rfl)
  obtain ⟨f_law_row,d_law_row,D_law_row⟩:=h_law_row.at X G (ps:=p_law_row) fun _ _ _ _ _ _ us hl=>el2 us hl (fun _ _=>rfl)
  obtain ⟨f_law_spec,d_law_spec,D_law_spec⟩:=h_law_spec.at X G (ps:=p_law_spec) fun _ _ _ _ _ _ us hl=>el2 us hl (fun _ _=>rfl)
  obtain ⟨f_law_due,d_law_due,D_law_due⟩:=h_law_due.at X G (ps:=p_law_due) fun _ _ _ _ _ _ us hl=>el4 us hl (fun _ _ _ _=>rfl)
  obtain ⟨f_law_all,d_law_all,D_law_all⟩:=h_law_all.at X G (ps:=p_law_all) fun _ _ _ _ _ _ us hl=>el2 us hl (fun _ _=>rfl)
  obtain ⟨f_law_refused,d_law_refused,D_law_refused⟩:=h_law_refused.at X G (ps:=p_law_refused) fun _ _ _ _ _ _ us hl=>el4 us hl (fun _ _ _ _=>rfl)
  obtain ⟨f_law_refusals,d_law_refusals,D_law_refusals⟩:=h_law_refusals.at X G (ps:=p_law_refusals) fun _ _ _ _ _ _ us hl=>el4 us hl (fun _ _ _ _=>rfl)
  obtain ⟨f_law,d_law,D_law⟩:=h_law.at X G (ps:=p_law) fun _ _ _ _ _ _ us hl=>el1 us hl (fun _=>rfl)
  obtain ⟨fi_NoPart,fd_NoPart,m_NoPart,F_NoPart⟩:=x_NoPart
  have M_NoPart:∀ base,MkE l.prog w K mg base "NoPart" cs.NoPart 1 ["self","at"] (spXI cs.NoPart "at"):=fun base=>⟨⟨fi_NoPart,_,m_NoPart,ok_NoPart_init F_NoPart (T.err _ (List.mem_of_getElem? (show cs.ds[0]?=some cs.NoPart from rfl))).xc T.a_NoPart_at,F_NoPart.binds (ps:=["self","at"]) fun _ _ _ _ _ _ us hl=>el2 us hl (fun _ _=>rfl)⟩,T.c_NoPart⟩
  obtain ⟨fi_NoPlan,fd_NoPlan,m_NoPlan,F_NoPlan⟩:=x_NoPlan
  have M_NoPlan:∀ base,MkE l.prog w K mg base "NoPlan" cs.NoPlan 1 ["self","at"] (spXI cs.NoPlan "at"):=fun base=>⟨⟨fi_NoPlan,_,m_NoPlan,ok_NoPlan_init F_NoPlan (T.err _ (List.mem_of_getElem? (show cs.ds[3]?=some cs.NoPlan from rfl))).xc T.a_NoPlan_at,F_NoPlan.binds (ps:=["self","at"]) fun _ _ _ _ _ _ us hl=>el2 us hl (fun _ _=>rfl)⟩,T.c_NoPlan⟩
  obtain ⟨fi_Shared,fd_Shared,m_Shared,F_Shared⟩:=o_Shared
  have G_law_cell:∀ base,F_law_cell l.prog w K mg base cs:=fun base=>ok_law_cell D_law_cell T
  have G_law_deck:∀ base,F_law_deck l.prog w K mg base cs:=fun base=>ok_law_deck D_law_deck T (G_law_cell base)
  have G_law_draw:∀ base,F_law_draw l.prog w K mg base cs:=fun base=>ok_law_draw D_law_draw T (G_law_cell base)
  have G_law_take:∀ base,F_law_take l.prog w K mg base cs:=fun base=>ok_law_take D_law_take T (G_law_draw base)
  have G_law_spec:∀ base,F_law_spec l.prog w K mg base cs:=fun base=>ok_law_spec D_law_spec T (G_law_take base)
  have G_is_number:∀ base,F_is_number l.prog w K mg base cs:=fun base=>ok_is_number D_is_number T
  have G_is_whole:∀ base,F_is_whole l.prog w K mg base cs:=fun base=>ok_is_whole D_is_whole T (G_is_number base)
  have G_is_row:∀ base,F_is_row l.prog w K mg base cs:=fun base=>ok_is_row D_is_row T
  have G_is_whole_row:∀ base,F_is_whole_row l.prog w K mg base cs:=fun base=>ok_is_whole_row D_is_whole_row T (G_is_row base) (G_is_whole base)
  have M_Shared:∀ base,Make2 l.prog w K mg base "Shared" 4 (spPart cs):=fun base=>ok_Shared_init F_Shared m_Shared (F_Shared.binds (ps:=["self","full","mark","shares"]) fun _ _ _ _ _ _ us hl=>el4 us hl (fun _ _ _ _=>rfl)) T (G_is_whole base) (G_is_whole_row base) (M_NoPart base)
  have G_law_due:∀ base,F_law_due l.prog w K mg base cs:=fun base=>ok_law_due D_law_due T
  have G_law_all:∀ base,F_law_all l.prog w K mg base cs:=fun base=>ok_law_all D_law_all T
  have G_is_stand:∀ base,F_is_stand l.prog w K mg base cs:=fun base=>ok_is_stand D_is_stand T (G_is_whole base)
  have G_check_stand:∀ base,F_check_stand l.prog w K mg base cs:=fun base=>ok_check_stand D_check_stand T (G_is_stand base)
  have G_is_rising_row:∀ base,F_is_rising_row l.prog w K mg base cs:=fun base=>ok_is_rising_row D_is_rising_row T (G_is_whole_row base)
  have G_weights_of:∀ base,F_weights_of l.prog w K mg base cs:=fun base=>ok_weights_of D_weights_of T
  have G_lose_once:∀ base,F_lose_once l.prog w K mg base cs:=fun base=>ok_lose_once D_lose_once T
  have G_total_of:∀ base,F_total_of l.prog w K mg base cs:=fun base=>ok_total_of D_total_of T
  have G_weights_behind:∀ base,F_weights_behind l.prog w K mg base cs:=fun base=>ok_weights_behind D_weights_behind T (G_check_stand base) (G_is_whole base) (M_NoPlan base) (G_is_rising_row base) (G_weights_of base) (G_lose_once base) (G_total_of base)
  have G_cases_of:∀ base,F_cases_of l.prog w K mg base cs:=fun base=>ok_cases_of D_cases_of T (G_total_of base)
  have G_chance_of_fall:∀ base,F_chance_of_fall l.prog w K mg base cs:=fun base=>ok_chance_of_fall D_chance_of_fall T (G_weights_behind base) (G_cases_of base)
  have G_law_number:∀ base,F_law_number l.prog w K mg base cs:=fun base=>ok_law_number D_law_number T
  have G_law_row:∀ base,F_law_row l.prog w K mg base cs:=fun base=>ok_law_row D_law_row T (G_law_number base)
  have G_law_refused:∀ base,F_law_refused l.prog w K mg base cs:=fun base=>ok_law_refused D_law_refused T (G_chance_of_fall base)
  have G_law_refusals:∀ base,F_law_refusals l.prog w K mg base cs:=fun base=>ok_law_refusals D_law_refusals T (G_law_take base) (G_law_refused base)
  obtain ⟨_,_,_,_,_,_,_,_,_,rfl,_,_⟩:=D_law.F.ex
  have e:=hfa.symm.trans D_law.m
  cases e
  exact ⟨_,fun s v=>.of_eq rfl,fun base _ _=>ok_law D_law T (G_law_deck base) (G_law_spec base) (M_Shared base) (G_law_take base) (G_law_due base) (G_law_all base) (G_chance_of_fall base) (G_weights_behind base) (G_law_row base) (G_law_refusals base)⟩
end
end K28
namespace HD28
open PySem PySem.W PyProof.Rows PySem.Calls HD
open K28 (top)
noncomputable abbrev PW:Program:=PySem.Challenge.pw_wearplan_k28_chances_of_fall
noncomputable def env:Env:=⟨PW.main.scope,mainNs,mainNs,[],Str.empty,none,(r 13),some 14,0⟩
noncomputable def cE:Code:=.body (behindTheImports PW) env
noncomputable abbrev fp:Pos:=⟨0,0,0,0⟩
noncomputable abbrev BB:List Frame:=[topFrame fp]
noncomputable def life:Life:={ }
noncomputable def drawn:Drawn:={ }
noncomputable def o11_0 (P:Params):Obj:=tp []
noncomputable def o12_0 (P:Params):Obj:=fl N []
noncomputable def o13_0 (P:Params):Obj:=fl (ty "code") [(s "<module>" 182),(s "<module>" 183),(s "/claim/cut.py" 184),(i 1 0),(i 0 0),(i 0 0),(i 0 0),(i 0 0),(r 11),(b false),(i 181 0),(r 12),N,N,N,N,(i 185 0),(i 1 0),(s "/claim/cut.py" 186)]
noncomputable def o14_0 (P:Params):Obj:={ cls:=(ty "frame"),slots:=⟨[some (r 13),some (r 3),some (r 3),none,some (s "__main__" 164),none,some (r 0)]⟩ }
noncomputable def t0 (P:Params):BT:=(.node (boot_o_0 P) (.node (boot_o_1 P) (.node (boot_o_3 P) (.node (boot_o_7 P) .nil .nil) (.node (o11_0 P) .nil .nil)) (.node (boot_o_5 P) (.node (boot_o_9 P) .nil .nil) (.node (o13_0 P) .nil .nil))) (.node (boot_o_2 P) (.node (boot_o_4 P) (.node (boot_o_8 P) .nil .nil) (.node (o12_0 P) .nil .nil)) (.node (boot_o_6 P) (.node (boot_o_10 P) .nil .nil) (.node (o14_0 P) .nil .nil))))
theorem pre (w:World) (os:OsState):topGo treeTable PW w 11 (some (r 6)) 12 ⟨boot_heap w.params,⟨[]⟩,boot_drawn,boot_toks,os⟩ (topStub PW)=some ((SharedT.abs ⟨t0 w.params,15,life,⟨[]⟩,drawn,187,os⟩),⟨denote treeTable cE,cE,⟨0,0,0,0⟩,BB⟩):=turnGo (by rw [PySem.W.Fast.te11892475500146522536,PySem.W.Fast.te14364793385576792824]; kernel_rfl)
theorem blk (w:World) (os:OsState):segRun treeTable PW w 11 (some (r 6)) 1 1 (SharedT.abs ⟨t0 w.params,15,life,⟨[]⟩,drawn,187,os⟩) (blockOf (behindTheImports PW) env cE ⟨0,0,0,0⟩ BB)=some (.next,(SharedT.abs ⟨t0 w.params,15,life,⟨[]⟩,drawn,187,os⟩),cE,⟨0,0,0,0⟩):=turnBlock (by kernel_rfl)
noncomputable def sts1:List Stmt:=[top 0,top 1]
noncomputable def e3_0 (P:Params):List DictEntry:=[en P "__name__" 165 (s "wearplan.errors" 187),en P "__doc__" 166 N,en P "__package__" 167 N,en P "__loader__" 168 (bi "__main__.__loader__#opaque"),en P "__spec__" 169 N,en P "__annotations__" 170 (r 6),en P "__builtins__" 171 (r 4),en P "__file__" 173 (s "/claim/cut.py" 172),en P "__cached__" 174 N,en P "WearError" 206 (r 24)]
noncomputable def o3_0 (P:Params):Obj:=di (e3_0 P) 10
noncomputable def e12_1 (P:Params):List Value:=[(i 2 0),(i 0 0),(r 20)]
noncomputable def o12_1 (P:Params):Obj:=fl N (e12_1 P)
noncomputable def g1 (P:Params):List Obj:=[tp [(ty "ValueError")],fl (ty "builtin_function_or_method") [(bi "type.__prepare__"),(ty "type")],di [en P "__module__" 196 (s "wearplan.errors" 187),en P "__qualname__" 198 (s "WearError" 197),en P "__firstlineno__" 200 (i 2 199),en P "__static_attributes__" 201 (r 22)] 4,tp [],fl N [],fl (ty "code") [(s "WearError" 191),(s "WearError" 192),(s "/claim/cut.py" 193),(i 2 0),(i 0 0),(i 0 0),(i 0 0),(i 0 0),(r 18),(b false),(i 181 0),(r 19),N,N,N,N,(i 194 0),(i 2 0),(s "/claim/cut.py" 195)],{ cls:=(ty "frame"),slots:=⟨[some (r 20),some (r 3),some (r 17),none,some (s "wearplan.errors" 187),none,some (r 0)]⟩ },tp [],di [en P "__module__" 196 (s "wearplan.errors" 187),en P "__firstlineno__" 200 (i 2 199),en P "__static_attributes__" 201 (r 22),en P "__weakref__" 203 (r 25),en P "__doc__" 204 N] 3,co "WearError" [(ty "ValueError")] [(r 24),(ty "ValueError"),(ty "Exception"),(ty "BaseException"),(ty "object")] 23 "WearError" true false [] [some (r 15),none,some (s "WearError" 189),some (s "WearError" 197),some (bi "ValueError.__new__"),some (b true)],fl (ty "getset_descriptor") [(s "__weakref__" 202),(r 24),(bi "ExceptionGroup.__weakref__"),N],fl (ty "super") [(r 24),(r 24),(r 24)],fl (ty "builtin_function_or_method") [(bi "object.__init_subclass__"),(r 24)]]
noncomputable def t1 (P:Params):BT:=insL (g1 P) 15 (setL [(3,o3_0 P),(12,o12_1 P)] (t0 P))
theorem pc1 (w:World) (os:OsState):segRun treeTable PW w 11 (some (r 6)) 1 196 (SharedT.abs ⟨t0 w.params,15,life,⟨[]⟩,drawn,187,os⟩) (piecesOf sts1 env cE ⟨0,0,0,0⟩ BB)=some (.next,(SharedT.abs ⟨t1 w.params,28,life,⟨[]⟩,drawn,207,os⟩),cE,⟨2,0,3,8⟩):=segRun_of (turnSeg (by kernel_rfl))
noncomputable def sts2:List Stmt:=[top 2]
noncomputable def e3_1 (P:Params):List DictEntry:=(e3_0 P)++[en P "NoPart" 231 (r 44)]
noncomputable def o3_1 (P:Params):Obj:=di (e3_1 P) 11
noncomputable def e12_2 (P:Params):List Value:=e12_1 P++[(i 4 0),(i 0 0),(r 33)]
noncomputable def o12_2 (P:Params):Obj:=fl N (e12_2 P)
noncomputable def o24_1 (P:Params):Obj:=co "WearError" [(ty "ValueError")] [(r 24),(ty "ValueError"),(ty "Exception"),(ty "BaseException"),(ty "object")] 23 "WearError" true false [(r 44)] [some (r 15),none,some (s "WearError" 189),some (s "WearError" 197),some (bi "ValueError.__new__"),some (b true)]
noncomputable def g2 (P:Params):List Obj:=[tp [(r 24)],fl (ty "builtin_function_or_method") [(bi "type.__prepare__"),(ty "type")],di [en P "__module__" 214 (s "wearplan.errors" 187),en P "__qualname__" 216 (s "NoPart" 215),en P "__firstlineno__" 218 (i 4 217),en P "__init__" 226 (r 41),en P "__static_attributes__" 228 (r 42)] 5,tp [],fl N [(i 6 0),(i 4 0),(r 40)],fl (ty "code") [(s "NoPart" 209),(s "NoPart" 210),(s "/claim/cut.py" 211),(i 4 0),(i 0 0),(i 0 0),(i 0 0),(i 0 0),(r 31),(b false),(i 181 0),(r 32),N,N,N,N,(i 212 0),(i 4 0),(s "/claim/cut.py" 213)],{ cls:=(ty "frame"),slots:=⟨[some (r 33),some (r 3),some (r 30),none,some (s "wearplan.errors" 187),none,some (r 0)]⟩ },tp [],fl N [],tp [(s "self" 222),(s "at" 223)],tp [],fn N "__init__" "NoPart.__init__" (L2.inClass (top 2) 0) 0 N N,fl (ty "code") [(s "__init__" 219),(s "NoPart.__init__" 220),(s "/claim/cut.py" 221),(i 6 0),(i 2 0),(i 0 0),(i 0 0),(i 3 0),(r 35),(b true),(i 181 0),(r 36),N,(r 37),(r 38),(r 39),(i 224 0),(i 6 0),(s "/claim/cut.py" 225)],fn (ty "function") "__init__" "NoPart.__init__" (L2.inClass (top 2) 0) 3 (s "wearplan.errors" 187) (r 40),tp [(s "at" 227)],di [en P "__module__" 214 (s "wearplan.errors" 187),en P "__firstlineno__" 218 (i 4 217),en P "__init__" 226 (r 41),en P "__static_attributes__" 228 (r 42),en P "__doc__" 229 N] 2,co "NoPart" [(r 24)] [(r 44),(r 24),(ty "ValueError"),(ty "Exception"),(ty "BaseException"),(ty "object")] 43 "NoPart" true false [] [some (r 28),none,some (s "NoPart" 207),some (s "NoPart" 215),some (bi "ValueError.__new__"),some (b true)],fl (ty "super") [(r 44),(r 44),(r 44)],fl (ty "builtin_function_or_method") [(bi "object.__init_subclass__"),(r 44)]]
noncomputable def t2 (P:Params):BT:=insL (g2 P) 28 (setL [(3,o3_1 P),(12,o12_2 P),(24,o24_1 P)] (t1 P))
theorem pc2 (w:World) (os:OsState):segRun treeTable PW w 11 (some (r 6)) 1 246 (SharedT.abs ⟨t1 w.params,28,life,⟨[]⟩,drawn,207,os⟩) (piecesOf sts2 env cE ⟨2,0,3,8⟩ BB)=some (.next,(SharedT.abs ⟨t2 w.params,47,life,⟨[]⟩,drawn,232,os⟩),cE,⟨4,0,7,20⟩):=segRun_of (turnSeg (by kernel_rfl))
noncomputable def sts3:List Stmt:=[top 3]
noncomputable def e3_2 (P:Params):List DictEntry:=(e3_1 P)++[en P "NoStands" 247 (r 56)]
noncomputable def o3_2 (P:Params):Obj:=di (e3_2 P) 12
noncomputable def e12_3 (P:Params):List Value:=e12_2 P++[(i 8 0),(i 0 0),(r 52)]
noncomputable def o12_3 (P:Params):Obj:=fl N (e12_3 P)
noncomputable def o24_2 (P:Params):Obj:=co "WearError" [(ty "ValueError")] [(r 24),(ty "ValueError"),(ty "Exception"),(ty "BaseException"),(ty "object")] 23 "WearError" true false [(r 44),(r 56)] [some (r 15),none,some (s "WearError" 189),some (s "WearError" 197),some (bi "ValueError.__new__"),some (b true)]
noncomputable def g3 (P:Params):List Obj:=[tp [(r 24)],fl (ty "builtin_function_or_method") [(bi "type.__prepare__"),(ty "type")],di [en P "__module__" 239 (s "wearplan.errors" 187),en P "__qualname__" 241 (s "NoStands" 240),en P "__firstlineno__" 243 (i 8 242),en P "__static_attributes__" 244 (r 54)] 4,tp [],fl N [],fl (ty "code") [(s "NoStands" 234),(s "NoStands" 235),(s "/claim/cut.py" 236),(i 8 0),(i 0 0),(i 0 0),(i 0 0),(i 0 0),(r 50),(b false),(i 181 0),(r 51),N,N,N,N,(i 237 0),(i 8 0),(s "/claim/cut.py" 238)],{ cls:=(ty "frame"),slots:=⟨[some (r 52),some (r 3),some (r 49),none,some (s "wearplan.errors" 187),none,some (r 0)]⟩ },tp [],di [en P "__module__" 239 (s "wearplan.errors" 187),en P "__firstlineno__" 243 (i 8 242),en P "__static_attributes__" 244 (r 54),en P "__doc__" 245 N] 2,co "NoStands" [(r 24)] [(r 56),(r 24),(ty "ValueError"),(ty "Exception"),(ty "BaseException"),(ty "object")] 55 "NoStands" true false [] [some (r 47),none,some (s "NoStands" 232),some (s "NoStands" 240),some (bi "ValueError.__new__"),some (b true)],fl (ty "super") [(r 56),(r 56),(r 56)],fl (ty "builtin_function_or_method") [(bi "object.__init_subclass__"),(r 56)]]
noncomputable def t3 (P:Params):BT:=insL (g3 P) 47 (setL [(3,o3_2 P),(12,o12_3 P),(24,o24_2 P)] (t2 P))
theorem pc3 (w:World) (os:OsState):segRun treeTable PW w 11 (some (r 6)) 1 214 (SharedT.abs ⟨t2 w.params,47,life,⟨[]⟩,drawn,232,os⟩) (piecesOf sts3 env cE ⟨4,0,7,20⟩ BB)=some (.next,(SharedT.abs ⟨t3 w.params,59,life,⟨[]⟩,drawn,248,os⟩),cE,⟨8,0,9,8⟩):=segRun_of (turnSeg (by kernel_rfl))
noncomputable def sts4:List Stmt:=[top 4]
noncomputable def e3_3 (P:Params):List DictEntry:=(e3_2 P)++[en P "NoRounds" 263 (r 68)]
noncomputable def o3_3 (P:Params):Obj:=di (e3_3 P) 13
noncomputable def e12_4 (P:Params):List Value:=e12_3 P++[(i 10 0),(i 0 0),(r 64)]
noncomputable def o12_4 (P:Params):Obj:=fl N (e12_4 P)
noncomputable def o24_3 (P:Params):Obj:=co "WearError" [(ty "ValueError")] [(r 24),(ty "ValueError"),(ty "Exception"),(ty "BaseException"),(ty "object")] 23 "WearError" true false [(r 44),(r 56),(r 68)] [some (r 15),none,some (s "WearError" 189),some (s "WearError" 197),some (bi "ValueError.__new__"),some (b true)]
noncomputable def g4 (P:Params):List Obj:=[tp [(r 24)],fl (ty "builtin_function_or_method") [(bi "type.__prepare__"),(ty "type")],di [en P "__module__" 255 (s "wearplan.errors" 187),en P "__qualname__" 257 (s "NoRounds" 256),en P "__firstlineno__" 259 (i 10 258),en P "__static_attributes__" 260 (r 66)] 4,tp [],fl N [],fl (ty "code") [(s "NoRounds" 250),(s "NoRounds" 251),(s "/claim/cut.py" 252),(i 10 0),(i 0 0),(i 0 0),(i 0 0),(i 0 0),(r 62),(b false),(i 181 0),(r 63),N,N,N,N,(i 253 0),(i 10 0),(s "/claim/cut.py" 254)],{ cls:=(ty "frame"),slots:=⟨[some (r 64),some (r 3),some (r 61),none,some (s "wearplan.errors" 187),none,some (r 0)]⟩ },tp [],di [en P "__module__" 255 (s "wearplan.errors" 187),en P "__firstlineno__" 259 (i 10 258),en P "__static_attributes__" 260 (r 66),en P "__doc__" 261 N] 2,co "NoRounds" [(r 24)] [(r 68),(r 24),(ty "ValueError"),(ty "Exception"),(ty "BaseException"),(ty "object")] 67 "NoRounds" true false [] [some (r 59),none,some (s "NoRounds" 248),some (s "NoRounds" 256),some (bi "ValueError.__new__"),some (b true)],fl (ty "super") [(r 68),(r 68),(r 68)],fl (ty "builtin_function_or_method") [(bi "object.__init_subclass__"),(r 68)]]
noncomputable def t4 (P:Params):BT:=insL (g4 P) 59 (setL [(3,o3_3 P),(12,o12_4 P),(24,o24_3 P)] (t3 P))
theorem pc4 (w:World) (os:OsState):segRun treeTable PW w 11 (some (r 6)) 1 214 (SharedT.abs ⟨t3 w.params,59,life,⟨[]⟩,drawn,248,os⟩) (piecesOf sts4 env cE ⟨8,0,9,8⟩ BB)=some (.next,(SharedT.abs ⟨t4 w.params,71,life,⟨[]⟩,drawn,264,os⟩),cE,⟨10,0,11,8⟩):=segRun_of (turnSeg (by kernel_rfl))
noncomputable def sts5:List Stmt:=[top 5,top 6,top 7,top 8,top 9,top 10,top 11]
noncomputable def e3_4 (P:Params):List DictEntry:=((e3_3 P).set 0 (en P "__name__" 165 (s "wearplan.signs" 289)))++[en P "NoPlan" 288 (r 87),en P "is_number" 297 (r 96),en P "is_whole" 306 (r 103),en P "is_row" 313 (r 110),en P "is_whole_row" 319 (r 115),en P "is_rising_row" 325 (r 120)]
noncomputable def o3_4 (P:Params):Obj:=di (e3_4 P) 19
noncomputable def e12_5 (P:Params):List Value:=e12_4 P++[(i 12 0),(i 0 0),(r 76),(i 17 0),(i 0 0),(r 95),(i 19 0),(i 0 0),(r 102),(i 21 0),(i 0 0),(r 109),(i 23 0),(i 0 0),(r 114),(i 27 0),(i 0 0),(r 119)]
noncomputable def o12_5 (P:Params):Obj:=fl N (e12_5 P)
noncomputable def o24_4 (P:Params):Obj:=co "WearError" [(ty "ValueError")] [(r 24),(ty "ValueError"),(ty "Exception"),(ty "BaseException"),(ty "object")] 23 "WearError" true false [(r 44),(r 56),(r 68),(r 87)] [some (r 15),none,some (s "WearError" 189),some (s "WearError" 197),some (bi "ValueError.__new__"),some (b true)]
noncomputable def g5 (P:Params):List Obj:=(tp [(r 24)] :: fl (ty "builtin_function_or_method") [(bi "type.__prepare__"),(ty "type")] :: di [en P "__module__" 271 (s "wearplan.errors" 187),en P "__qualname__" 273 (s "NoPlan" 272),en P "__firstlineno__" 275 (i 12 274),en P "__init__" 283 (r 84),en P "__static_attributes__" 285 (r 85)] 5 :: tp [] :: fl N [(i 14 0),(i 4 0),(r 83)] :: fl (ty "code") [(s "NoPlan" 266),(s "NoPlan" 267),(s "/claim/cut.py" 268),(i 12 0),(i 0 0),(i 0 0),(i 0 0),(i 0 0),(r 74),(b false),(i 181 0),(r 75),N,N,N,N,(i 269 0),(i 12 0),(s "/claim/cut.py" 270)] :: { cls:=(ty "frame"),slots:=⟨[some (r 76),some (r 3),some (r 73),none,some (s "wearplan.errors" 187),none,some (r 0)]⟩ } :: tp [] :: fl N [] :: tp [(s "self" 279),(s "at" 280)] :: tp [] :: fn N "__init__" "NoPlan.__init__" (L2.inClass (top 5) 0) 0 N N :: fl (ty "code") [(s "__init__" 276),(s "NoPlan.__init__" 277),(s "/claim/cut.py" 278),(i 14 0),(i 2 0),(i 0 0),(i 0 0),(i 3 0),(r 78),(b true),(i 181 0),(r 79),N,(r 80),(r 81),(r 82),(i 281 0),(i 14 0),(s "/claim/cut.py" 282)] :: fn (ty "function") "__init__" "NoPlan.__init__" (L2.inClass (top 5) 0) 3 (s "wearplan.errors" 187) (r 83) :: tp [(s "at" 284)] :: di [en P "__module__" 271 (s "wearplan.errors" 187),en P "__firstlineno__" 275 (i 12 274),en P "__init__" 283 (r 84),en P "__static_attributes__" 285 (r 85),en P "__doc__" 286 N] 2 :: co "NoPlan" [(r 24)] [(r 87),(r 24),(ty "ValueError"),(ty "Exception"),(ty "BaseException"),(ty "object")] 86 "NoPlan" true false [] [some (r 71),none,some (s "NoPlan" 264),some (s "NoPlan" 272),some (bi "ValueError.__new__"),some (b true)] :: fl (ty "super") [(r 87),(r 87),(r 87)] :: fl (ty "builtin_function_or_method") [(bi "object.__init_subclass__"),(r 87)] :: tp [] :: fl N [] :: tp [(s "thing" 294)] :: tp [] :: fn N "is_number" "is_number" (top 7) 0 N N :: fl (ty "code") [(s "is_number" 291),(s "is_number" 292),(s "/claim/cut.py" 293),(i 17 0),(i 1 0),(i 0 0),(i 0 0),(i 3 0),(r 90),(b true),(i 181 0),(r 91),N,(r 92),(r 93),(r 94),(i 295 0),(i 17 0),(s "/claim/cut.py" 296)] :: fn (ty "function") "is_number" "is_number" (top 7) 3 (s "wearplan.signs" 289) (r 95) :: tp [] :: fl N [] :: tp [(s "thing" 301),(s "least" 302),(s "most" 303)] :: tp [] :: fn N "is_whole" "is_whole" (top 8) 0 N N :: fl (ty "code") [(s "is_whole" 298),(s "is_whole" 299),(s "/claim/cut.py" 300),(i 19 0),(i 3 0),(i 0 0),(i 0 0),(i 3 0),(r 97),(b true),(i 181 0),(r 98),N,(r 99),(r 100),(r 101),(i 304 0),(i 19 0),(s "/claim/cut.py" 305)] :: fn (ty "function") "is_whole" "is_whole" (top 8) 3 (s "wearplan.signs" 289) (r 102) :: tp [] :: fl N [] :: tp [(s "thing" 310)] :: tp [] :: fn N "is_row" "is_row" (top 9) 0 N N :: fl (ty "code") [(s "is_row" 307),(s "is_row" 308),(s "/claim/cut.py" 309),(i 21 0),(i 1 0),(i 0 0),(i 0 0),(i 3 0),(r 104),(b true),(i 181 0),(r 105),N,(r 106),(r 107),(r 108),(i 311 0),(i 21 0),(s "/claim/cut.py" 312)] :: fn (ty "function") "is_row" "is_row" (top 9) 3 (s "wearplan.signs" 289) (r 109) :: tp [] :: fl N [] :: fn N "is_whole_row" "is_whole_row" (top 10) 0 N N :: fl (ty "code") [(s "is_whole_row" 314),(s "is_whole_row" 315),(s "/claim/cut.py" 316),(i 23 0),(i 5 0),(i 0 0),(i 0 0),(i 3 0),(r 111),(b true),(i 181 0),(r 112),N,N,N,(r 113),(i 317 0),(i 23 0),(s "/claim/cut.py" 318)] :: fn (ty "function") "is_whole_row" "is_whole_row" (top 10) 3 (s "wearplan.signs" 289) (r 114) :: tp [] :: fl N [] :: fn N "is_rising_row" "is_rising_row" (top 11) 0 N N :: fl (ty "code") [(s "is_rising_row" 320),(s "is_rising_row" 321),(s "/claim/cut.py" 322),(i 27 0),(i 3 0),(i 0 0),(i 0 0),(i 3 0),(r 116),(b true),(i 181 0),(r 117),N,N,N,(r 118),(i 323 0),(i 27 0),(s "/claim/cut.py" 324)] :: fn (ty "function") "is_rising_row" "is_rising_row" (top 11) 3 (s "wearplan.signs" 289) (r 119) :: [])
noncomputable def t5 (P:Params):BT:=insL (g5 P) 71 (setL [(3,o3_4 P),(12,o12_5 P),(24,o24_4 P)] (t4 P))
theorem pc5 (w:World) (os:OsState):segRun treeTable PW w 11 (some (r 6)) 1 396 (SharedT.abs ⟨t4 w.params,71,life,⟨[]⟩,drawn,264,os⟩) (piecesOf sts5 env cE ⟨10,0,11,8⟩ BB)=some (.next,(SharedT.abs ⟨t5 w.params,121,life,⟨[]⟩,drawn,326,os⟩),cE,⟨27,0,30,71⟩):=segRun_of (turnSeg (by kernel_rfl))
noncomputable def sts6:List Stmt:=[top 12,top 13,top 14,top 15,top 16,top 17,top 18,top 19,top 20]
noncomputable def e3_5 (P:Params):List DictEntry:=((e3_4 P).set 0 (en P "__name__" 165 (s "wearplan.shares" 344)))++[en P "is_stand" 335 (r 127),en P "check_stand" 343 (r 134),en P "MOST_ROUNDS_HERE" 347 (i 12 346),en P "Shared" 380 (r 151),en P "total_of" 387 (r 162),en P "cases_of" 397 (r 169),en P "weights_of" 403 (r 174)]
noncomputable def o3_5 (P:Params):Obj:=di (e3_5 P) 26
noncomputable def e12_6 (P:Params):List Value:=e12_5 P++[(i 32 0),(i 0 0),(r 126),(i 34 0),(i 0 0),(r 133),(i 39 0),(i 0 0),(r 140),(i 51 0),(i 0 0),(r 161),(i 53 0),(i 0 0),(r 168),(i 58 0),(i 0 0),(r 173)]
noncomputable def o12_6 (P:Params):Obj:=fl N (e12_6 P)
noncomputable def g6 (P:Params):List Obj:=(tp [] :: fl N [] :: tp [(s "part" 331),(s "thing" 332)] :: tp [] :: fn N "is_stand" "is_stand" (top 13) 0 N N :: fl (ty "code") [(s "is_stand" 328),(s "is_stand" 329),(s "/claim/cut.py" 330),(i 32 0),(i 2 0),(i 0 0),(i 0 0),(i 3 0),(r 121),(b true),(i 181 0),(r 122),N,(r 123),(r 124),(r 125),(i 333 0),(i 32 0),(s "/claim/cut.py" 334)] :: fn (ty "function") "is_stand" "is_stand" (top 13) 3 (s "wearplan.parts" 326) (r 126) :: tp [] :: fl N [] :: tp [(s "part" 339),(s "stand" 340)] :: tp [] :: fn N "check_stand" "check_stand" (top 14) 0 N N :: fl (ty "code") [(s "check_stand" 336),(s "check_stand" 337),(s "/claim/cut.py" 338),(i 34 0),(i 2 0),(i 0 0),(i 0 0),(i 3 0),(r 128),(b true),(i 181 0),(r 129),N,(r 130),(r 131),(r 132),(i 341 0),(i 34 0),(s "/claim/cut.py" 342)] :: fn (ty "function") "check_stand" "check_stand" (top 14) 3 (s "wearplan.parts" 326) (r 133) :: tp [] :: fl (ty "builtin_function_or_method") [(bi "type.__prepare__"),(ty "type")] :: di [en P "__module__" 355 (s "wearplan.shares" 344),en P "__qualname__" 357 (s "Shared" 356),en P "__firstlineno__" 359 (i 39 358),en P "__init__" 369 (r 148),en P "__static_attributes__" 373 (r 149)] 5 :: tp [] :: fl N [(i 41 0),(i 4 0),(r 147)] :: fl (ty "code") [(s "Shared" 350),(s "Shared" 351),(s "/claim/cut.py" 352),(i 39 0),(i 0 0),(i 0 0),(i 0 0),(i 0 0),(r 138),(b false),(i 181 0),(r 139),N,N,N,N,(i 353 0),(i 39 0),(s "/claim/cut.py" 354)] :: { cls:=(ty "frame"),slots:=⟨[some (r 140),some (r 3),some (r 137),none,some (s "wearplan.shares" 344),none,some (r 0)]⟩ } :: tp [] :: fl N [] :: tp [(s "self" 363),(s "full" 364),(s "mark" 365),(s "shares" 366)] :: tp [] :: fn N "__init__" "Shared.__init__" (L2.inClass (top 17) 0) 0 N N :: fl (ty "code") [(s "__init__" 360),(s "Shared.__init__" 361),(s "/claim/cut.py" 362),(i 41 0),(i 4 0),(i 0 0),(i 0 0),(i 3 0),(r 142),(b true),(i 181 0),(r 143),N,(r 144),(r 145),(r 146),(i 367 0),(i 41 0),(s "/claim/cut.py" 368)] :: fn (ty "function") "__init__" "Shared.__init__" (L2.inClass (top 17) 0) 3 (s "wearplan.shares" 344) (r 147) :: tp [(s "full" 370),(s "mark" 371),(s "shares" 372)] :: di [en P "__module__" 355 (s "wearplan.shares" 344),en P "__firstlineno__" 359 (i 39 358),en P "__init__" 369 (r 148),en P "__static_attributes__" 373 (r 149),en P "__dict__" 375 (r 152),en P "__weakref__" 377 (r 153),en P "__doc__" 378 N] 4 :: co "Shared" [(ty "object")] [(r 151),(ty "object")] 150 "Shared" true false [] [none,none,some (s "Shared" 348),some (s "Shared" 356),some (bi "object.__new__"),some (b true)] :: fl (ty "getset_descriptor") [(s "__dict__" 374),(r 151),(bi "function.__dict__"),(bi "function.__dict__#set")] :: fl (ty "getset_descriptor") [(s "__weakref__" 376),(r 151),(bi "ExceptionGroup.__weakref__"),N] :: fl (ty "super") [(r 151),(r 151),(r 151)] :: fl (ty "builtin_function_or_method") [(bi "object.__init_subclass__"),(r 151)] :: tp [] :: fl N [] :: tp [(s "part" 384)] :: tp [] :: fn N "total_of" "total_of" (top 18) 0 N N :: fl (ty "code") [(s "total_of" 381),(s "total_of" 382),(s "/claim/cut.py" 383),(i 51 0),(i 1 0),(i 0 0),(i 0 0),(i 3 0),(r 156),(b true),(i 181 0),(r 157),N,(r 158),(r 159),(r 160),(i 385 0),(i 51 0),(s "/claim/cut.py" 386)] :: fn (ty "function") "total_of" "total_of" (top 18) 3 (s "wearplan.shares" 344) (r 161) :: tp [] :: fl N [] :: tp [(s "part" 391),(s "rounds" 392),(s "cases" 393),(s "k" 394)] :: tp [] :: fn N "cases_of" "cases_of" (top 19) 0 N N :: fl (ty "code") [(s "cases_of" 388),(s "cases_of" 389),(s "/claim/cut.py" 390),(i 53 0),(i 2 0),(i 0 0),(i 0 0),(i 3 0),(r 163),(b true),(i 181 0),(r 164),N,(r 165),(r 166),(r 167),(i 395 0),(i 53 0),(s "/claim/cut.py" 396)] :: fn (ty "function") "cases_of" "cases_of" (top 19) 3 (s "wearplan.shares" 344) (r 168) :: tp [] :: fl N [] :: fn N "weights_of" "weights_of" (top 20) 0 N N :: fl (ty "code") [(s "weights_of" 398),(s "weights_of" 399),(s "/claim/cut.py" 400),(i 58 0),(i 2 0),(i 0 0),(i 0 0),(i 3 0),(r 170),(b true),(i 181 0),(r 171),N,N,N,(r 172),(i 401 0),(i 58 0),(s "/claim/cut.py" 402)] :: fn (ty "function") "weights_of" "weights_of" (top 20) 3 (s "wearplan.shares" 344) (r 173) :: [])
noncomputable def t6 (P:Params):BT:=insL (g6 P) 121 (setL [(3,o3_5 P),(12,o12_6 P)] (t5 P))
theorem pc6 (w:World) (os:OsState):segRun treeTable PW w 11 (some (r 6)) 1 401 (SharedT.abs ⟨t5 w.params,121,life,⟨[]⟩,drawn,326,os⟩) (piecesOf sts6 env cE ⟨27,0,30,71⟩ BB)=some (.next,(SharedT.abs ⟨t6 w.params,175,life,⟨[]⟩,drawn,404,os⟩),cE,⟨58,0,59,85⟩):=segRun_of (turnSeg (by kernel_rfl))
noncomputable def sts7:List Stmt:=[top 21,top 22,top 23,top 24,top 25,top 26,top 27,top 28,top 29,top 30,top 31,top 32,top 33]
noncomputable def e3_6 (P:Params):List DictEntry:=((e3_5 P).set 0 (en P "__name__" 165 (s "law_wearplan_k28_chances_of_fall" 443)))++[en P "lose_once" 417 (r 181),en P "weights_behind" 431 (r 188),en P "chance_of_fall" 442 (r 195),en P "_law_cell" 452 (r 202),en P "_law_draw" 462 (r 209),en P "_law_deck" 470 (r 216),en P "_law_take" 479 (r 223),en P "_law_number" 487 (r 230),en P "_law_row" 497 (r 237),en P "_law_spec" 503 (r 242),en P "_law_due" 509 (r 247),en P "_law_all" 519 (r 254)]
noncomputable def o3_6 (P:Params):Obj:=di (e3_6 P) 38
noncomputable def e12_7 (P:Params):List Value:=e12_6 P++[(i 60 0),(i 0 0),(r 180),(i 70 0),(i 0 0),(r 187),(i 84 0),(i 0 0),(r 194),(i 88 0),(i 0 0),(r 201),(i 92 0),(i 0 0),(r 208),(i 96 0),(i 0 0),(r 215),(i 99 0),(i 0 0),(r 222),(i 106 0),(i 0 0),(r 229),(i 108 0),(i 0 0),(r 236),(i 115 0),(i 0 0),(r 241),(i 122 0),(i 0 0),(r 246),(i 138 0),(i 0 0),(r 253)]
noncomputable def o12_7 (P:Params):Obj:=fl N (e12_7 P)
noncomputable def g7 (P:Params):List Obj:=(tp [] :: fl N [] :: tp [(s "part" 407),(s "weights" 408),(s "behind" 409),(s "fallen" 410),(s "at" 411),(s "weight" 412),(s "lost" 413),(s "share" 414)] :: tp [] :: fn N "lose_once" "lose_once" (top 21) 0 N N :: fl (ty "code") [(s "lose_once" 404),(s "lose_once" 405),(s "/claim/cut.py" 406),(i 60 0),(i 2 0),(i 0 0),(i 0 0),(i 3 0),(r 175),(b true),(i 181 0),(r 176),N,(r 177),(r 178),(r 179),(i 415 0),(i 60 0),(s "/claim/cut.py" 416)] :: fn (ty "function") "lose_once" "lose_once" (top 21) 3 (s "wearplan.shares" 344) (r 180) :: tp [] :: fl N [] :: tp [(s "part" 421),(s "stand" 422),(s "rounds" 423),(s "changes" 424),(s "weights" 425),(s "fallen" 426),(s "k" 427),(s "lost" 428)] :: tp [] :: fn N "weights_behind" "weights_behind" (top 22) 0 N N :: fl (ty "code") [(s "weights_behind" 418),(s "weights_behind" 419),(s "/claim/cut.py" 420),(i 70 0),(i 4 0),(i 0 0),(i 0 0),(i 3 0),(r 182),(b true),(i 181 0),(r 183),N,(r 184),(r 185),(r 186),(i 429 0),(i 70 0),(s "/claim/cut.py" 430)] :: fn (ty "function") "weights_behind" "weights_behind" (top 22) 3 (s "wearplan.shares" 344) (r 187) :: tp [] :: fl N [] :: tp [(s "part" 435),(s "stand" 436),(s "rounds" 437),(s "changes" 438),(s "weights" 439)] :: tp [] :: fn N "chance_of_fall" "chance_of_fall" (top 23) 0 N N :: fl (ty "code") [(s "chance_of_fall" 432),(s "chance_of_fall" 433),(s "/claim/cut.py" 434),(i 84 0),(i 4 0),(i 0 0),(i 0 0),(i 3 0),(r 189),(b true),(i 181 0),(r 190),N,(r 191),(r 192),(r 193),(i 440 0),(i 84 0),(s "/claim/cut.py" 441)] :: fn (ty "function") "chance_of_fall" "chance_of_fall" (top 23) 3 (s "wearplan.shares" 344) (r 194) :: tp [] :: fl N [] :: tp [(s "_law_script" 448),(s "_law_k" 449)] :: tp [] :: fn N "_law_cell" "_law_cell" (top 25) 0 N N :: fl (ty "code") [(s "_law_cell" 445),(s "_law_cell" 446),(s "/claim/cut.py" 447),(i 88 0),(i 2 0),(i 0 0),(i 0 0),(i 3 0),(r 196),(b true),(i 181 0),(r 197),N,(r 198),(r 199),(r 200),(i 450 0),(i 88 0),(s "/claim/cut.py" 451)] :: fn (ty "function") "_law_cell" "_law_cell" (top 25) 3 (s "law_wearplan_k28_chances_of_fall" 443) (r 201) :: tp [] :: fl N [] :: tp [(s "_law_script" 456),(s "_law_k" 457),(s "_law_many" 458),(s "_law_a" 459)] :: tp [] :: fn N "_law_draw" "_law_draw" (top 26) 0 N N :: fl (ty "code") [(s "_law_draw" 453),(s "_law_draw" 454),(s "/claim/cut.py" 455),(i 92 0),(i 3 0),(i 0 0),(i 0 0),(i 3 0),(r 203),(b true),(i 181 0),(r 204),N,(r 205),(r 206),(r 207),(i 460 0),(i 92 0),(s "/claim/cut.py" 461)] :: fn (ty "function") "_law_draw" "_law_draw" (top 26) 3 (s "law_wearplan_k28_chances_of_fall" 443) (r 208) :: tp [] :: fl N [] :: tp [(s "_law_script" 466),(s "_law_cell_here" 467)] :: tp [] :: fn N "_law_deck" "_law_deck" (top 27) 0 N N :: fl (ty "code") [(s "_law_deck" 463),(s "_law_deck" 464),(s "/claim/cut.py" 465),(i 96 0),(i 1 0),(i 0 0),(i 0 0),(i 3 0),(r 210),(b true),(i 181 0),(r 211),N,(r 212),(r 213),(r 214),(i 468 0),(i 96 0),(s "/claim/cut.py" 469)] :: fn (ty "function") "_law_deck" "_law_deck" (top 27) 3 (s "law_wearplan_k28_chances_of_fall" 443) (r 215) :: tp [] :: fl N [] :: tp [(s "_law_deck_here" 474),(s "_law_many" 475),(s "_law_digit" 476)] :: tp [] :: fn N "_law_take" "_law_take" (top 28) 0 N N :: fl (ty "code") [(s "_law_take" 471),(s "_law_take" 472),(s "/claim/cut.py" 473),(i 99 0),(i 2 0),(i 0 0),(i 0 0),(i 3 0),(r 217),(b true),(i 181 0),(r 218),N,(r 219),(r 220),(r 221),(i 477 0),(i 99 0),(s "/claim/cut.py" 478)] :: fn (ty "function") "_law_take" "_law_take" (top 28) 3 (s "law_wearplan_k28_chances_of_fall" 443) (r 222) :: tp [] :: fl N [] :: tp [(s "_law_found" 483),(s "_law_due_here" 484)] :: tp [] :: fn N "_law_number" "_law_number" (top 29) 0 N N :: fl (ty "code") [(s "_law_number" 480),(s "_law_number" 481),(s "/claim/cut.py" 482),(i 106 0),(i 2 0),(i 0 0),(i 0 0),(i 3 0),(r 224),(b true),(i 181 0),(r 225),N,(r 226),(r 227),(r 228),(i 485 0),(i 106 0),(s "/claim/cut.py" 486)] :: fn (ty "function") "_law_number" "_law_number" (top 29) 3 (s "law_wearplan_k28_chances_of_fall" 443) (r 229) :: tp [] :: fl N [] :: tp [(s "_law_found" 491),(s "_law_due_here" 492),(s "_law_one" 493),(s "_law_other" 494)] :: tp [] :: fn N "_law_row" "_law_row" (top 30) 0 N N :: fl (ty "code") [(s "_law_row" 488),(s "_law_row" 489),(s "/claim/cut.py" 490),(i 108 0),(i 2 0),(i 0 0),(i 0 0),(i 3 0),(r 231),(b true),(i 181 0),(r 232),N,(r 233),(r 234),(r 235),(i 495 0),(i 108 0),(s "/claim/cut.py" 496)] :: fn (ty "function") "_law_row" "_law_row" (top 30) 3 (s "law_wearplan_k28_chances_of_fall" 443) (r 236) :: tp [] :: fl N [] :: fn N "_law_spec" "_law_spec" (top 31) 0 N N :: fl (ty "code") [(s "_law_spec" 498),(s "_law_spec" 499),(s "/claim/cut.py" 500),(i 115 0),(i 2 0),(i 0 0),(i 0 0),(i 3 0),(r 238),(b true),(i 181 0),(r 239),N,N,N,(r 240),(i 501 0),(i 115 0),(s "/claim/cut.py" 502)] :: fn (ty "function") "_law_spec" "_law_spec" (top 31) 3 (s "law_wearplan_k28_chances_of_fall" 443) (r 241) :: tp [] :: fl N [] :: fn N "_law_due" "_law_due" (top 32) 0 N N :: fl (ty "code") [(s "_law_due" 504),(s "_law_due" 505),(s "/claim/cut.py" 506),(i 122 0),(i 4 0),(i 0 0),(i 0 0),(i 3 0),(r 243),(b true),(i 181 0),(r 244),N,N,N,(r 245),(i 507 0),(i 122 0),(s "/claim/cut.py" 508)] :: fn (ty "function") "_law_due" "_law_due" (top 32) 3 (s "law_wearplan_k28_chances_of_fall" 443) (r 246) :: tp [] :: fl N [] :: tp [(s "_law_spec_here" 513),(s "_law_rounds" 514),(s "_law_cases" 515),(s "_law_turn" 516)] :: tp [] :: fn N "_law_all" "_law_all" (top 33) 0 N N :: fl (ty "code") [(s "_law_all" 510),(s "_law_all" 511),(s "/claim/cut.py" 512),(i 138 0),(i 2 0),(i 0 0),(i 0 0),(i 3 0),(r 248),(b true),(i 181 0),(r 249),N,(r 250),(r 251),(r 252),(i 517 0),(i 138 0),(s "/claim/cut.py" 518)] :: fn (ty "function") "_law_all" "_law_all" (top 33) 3 (s "law_wearplan_k28_chances_of_fall" 443) (r 253) :: [])
noncomputable def t7 (P:Params):BT:=insL (g7 P) 175 (setL [(3,o3_6 P),(12,o12_7 P)] (t6 P))
theorem pc7 (w:World) (os:OsState):segRun treeTable PW w 11 (some (r 6)) 1 384 (SharedT.abs ⟨t6 w.params,175,life,⟨[]⟩,drawn,404,os⟩) (piecesOf sts7 env cE ⟨58,0,59,85⟩ BB)=some (.next,(SharedT.abs ⟨t7 w.params,255,life,⟨[]⟩,drawn,520,os⟩),cE,⟨138,0,142,21⟩):=segRun_of (turnSeg (by kernel_rfl))
noncomputable def sts8:List Stmt:=[top 34,top 35,top 36]
noncomputable def e3_7 (P:Params):List DictEntry:=(e3_6 P)++[en P "_law_refused" 531 (r 261),en P "_law_refusals" 544 (r 268),en P "law" 550 (r 273)]
noncomputable def o3_7 (P:Params):Obj:=di (e3_7 P) 41
noncomputable def e12_8 (P:Params):List Value:=e12_7 P++[(i 143 0),(i 0 0),(r 260),(i 156 0),(i 0 0),(r 267),(i 163 0),(i 0 0),(r 272)]
noncomputable def o12_8 (P:Params):Obj:=fl N (e12_8 P)
noncomputable def g8 (P:Params):List Obj:=[tp [],fl N [],tp [(s "_law_part" 523),(s "_law_stand" 524),(s "_law_rounds" 525),(s "_law_changes" 526),(s "_law_found" 527),(s "e" 528)],tp [],fn N "_law_refused" "_law_refused" (top 34) 0 N N,fl (ty "code") [(s "_law_refused" 520),(s "_law_refused" 521),(s "/claim/cut.py" 522),(i 143 0),(i 4 0),(i 0 0),(i 0 0),(i 3 0),(r 255),(b true),(i 181 0),(r 256),N,(r 257),(r 258),(r 259),(i 529 0),(i 143 0),(s "/claim/cut.py" 530)],fn (ty "function") "_law_refused" "_law_refused" (top 34) 3 (s "law_wearplan_k28_chances_of_fall" 443) (r 260),tp [],fl N [],tp [(s "_law_deck_here" 535),(s "_law_spec_here" 536),(s "_law_part" 537),(s "_law_rounds" 538),(s "_law_none" 539),(s "_law_turns" 540),(s "_law_row_here" 541)],tp [],fn N "_law_refusals" "_law_refusals" (top 35) 0 N N,fl (ty "code") [(s "_law_refusals" 532),(s "_law_refusals" 533),(s "/claim/cut.py" 534),(i 156 0),(i 4 0),(i 0 0),(i 0 0),(i 3 0),(r 262),(b true),(i 181 0),(r 263),N,(r 264),(r 265),(r 266),(i 542 0),(i 156 0),(s "/claim/cut.py" 543)],fn (ty "function") "_law_refusals" "_law_refusals" (top 35) 3 (s "law_wearplan_k28_chances_of_fall" 443) (r 267),tp [],fl N [],fn N "law" "law" (top 36) 0 N N,fl (ty "code") [(s "law" 545),(s "law" 546),(s "/claim/cut.py" 547),(i 163 0),(i 1 0),(i 0 0),(i 0 0),(i 3 0),(r 269),(b true),(i 181 0),(r 270),N,N,N,(r 271),(i 548 0),(i 163 0),(s "/claim/cut.py" 549)],fn (ty "function") "law" "law" (top 36) 3 (s "law_wearplan_k28_chances_of_fall" 443) (r 272)]
noncomputable def t8 (P:Params):BT:=insL (g8 P) 255 (setL [(3,o3_7 P),(12,o12_8 P)] (t7 P))
theorem pc8 (w:World) (os:OsState):segRun treeTable PW w 11 (some (r 6)) 1 96 (SharedT.abs ⟨t7 w.params,255,life,⟨[]⟩,drawn,520,os⟩) (piecesOf sts8 env cE ⟨138,0,142,21⟩ BB)=some (.next,(SharedT.abs ⟨t8 w.params,274,life,⟨[]⟩,drawn,551,os⟩),cE,⟨163,0,184,125⟩):=segRun_of (turnSeg (by kernel_rfl))
noncomputable def HF (P:Params):Heap:=⟨⟨[(boot_o_0 P),(boot_o_1 P),(boot_o_2 P),(o3_7 P),(boot_o_4 P),(boot_o_5 P),(boot_o_6 P),(boot_o_7 P),(boot_o_8 P),(boot_o_9 P),(boot_o_10 P),(o11_0 P),(o12_8 P),(o13_0 P),(o14_0 P)]++(((g1 P).set 9 (o24_4 P))++((g2 P)++((g3 P)++((g4 P)++((g5 P)++((g6 P)++((g7 P)++((g8 P)))))))))⟩,life⟩
theorem fin (w:World) (os:OsState):topRun treeTable PW w 11 (some (r 6)) 2 (SharedT.abs ⟨t8 w.params,274,life,⟨[]⟩,drawn,551,os⟩) (restOf [] env cE ⟨163,0,184,125⟩ BB)=some ⟨HF w.params,⟨[]⟩,drawn,551,os⟩:=piece_nil (turnRun (by kernel_rfl))
theorem body_is:behindTheImports PW=(sts1++(sts2++(sts3++(sts4++(sts5++(sts6++(sts7++(sts8++[])))))))):=by kernel_rfl
theorem run (w:World) (os:OsState):topRun treeTable PW w 11 (some (r 6)) (12 + (1 + (196 + (246 + (214 + (214 + (396 + (401 + (384 + (96 + 2)))))))))) ⟨boot_heap w.params,⟨[]⟩,boot_drawn,boot_toks,os⟩ (topStub PW)=some ⟨HF w.params,⟨[]⟩,drawn,551,os⟩ :=
  go_top (pre w os) (piece_block' body_is (blk w os) (piece_app (pc1 w os) (piece_app (pc2 w os) (piece_app (pc3 w os) (piece_app (pc4 w os) (piece_app (pc5 w os) (piece_app (pc6 w os) (piece_app (pc7 w os) (piece_app (pc8 w os) (fin w os))))))))))
noncomputable def K (P:Params):Frag:=((nat_lit 2,boot_o_2 P) :: (nat_lit 3,o3_7 P) :: (nat_lit 15,x g1 0 P) :: (nat_lit 22,x g1 7 P) :: (nat_lit 23,x g1 8 P) :: (nat_lit 24,o24_4 P) :: (nat_lit 25,x g1 10 P) :: (nat_lit 28,x g2 0 P) :: (nat_lit 35,x g2 7 P) :: (nat_lit 37,x g2 9 P) :: (nat_lit 38,x g2 10 P) :: (nat_lit 40,x g2 12 P) :: (nat_lit 41,x g2 13 P) :: (nat_lit 42,x g2 14 P) :: (nat_lit 43,x g2 15 P) :: (nat_lit 44,x g2 16 P) :: (nat_lit 47,x g3 0 P) :: (nat_lit 54,x g3 7 P) :: (nat_lit 55,x g3 8 P) :: (nat_lit 56,x g3 9 P) :: (nat_lit 59,x g4 0 P) :: (nat_lit 66,x g4 7 P) :: (nat_lit 67,x g4 8 P) :: (nat_lit 68,x g4 9 P) :: (nat_lit 71,x g5 0 P) :: (nat_lit 78,x g5 7 P) :: (nat_lit 80,x g5 9 P) :: (nat_lit 81,x g5 10 P) :: (nat_lit 83,x g5 12 P) :: (nat_lit 84,x g5 13 P) :: (nat_lit 85,x g5 14 P) :: (nat_lit 86,x g5 15 P) :: (nat_lit 87,x g5 16 P) :: (nat_lit 90,x g5 19 P) :: (nat_lit 92,x g5 21 P) :: (nat_lit 93,x g5 22 P) :: (nat_lit 95,x g5 24 P) :: (nat_lit 96,x g5 25 P) :: (nat_lit 97,x g5 26 P) :: (nat_lit 99,x g5 28 P) :: (nat_lit 100,x g5 29 P) :: (nat_lit 102,x g5 31 P) :: (nat_lit 103,x g5 32 P) :: (nat_lit 104,x g5 33 P) :: (nat_lit 106,x g5 35 P) :: (nat_lit 107,x g5 36 P) :: (nat_lit 109,x g5 38 P) :: (nat_lit 110,x g5 39 P) :: (nat_lit 111,x g5 40 P) :: (nat_lit 114,x g5 43 P) :: (nat_lit 115,x g5 44 P) :: (nat_lit 116,x g5 45 P) :: (nat_lit 119,x g5 48 P) :: (nat_lit 120,x g5 49 P) :: (nat_lit 121,x g6 0 P) :: (nat_lit 123,x g6 2 P) :: (nat_lit 124,x g6 3 P) :: (nat_lit 126,x g6 5 P) :: (nat_lit 127,x g6 6 P) :: (nat_lit 128,x g6 7 P) :: (nat_lit 130,x g6 9 P) :: (nat_lit 131,x g6 10 P) :: (nat_lit 133,x g6 12 P) :: (nat_lit 134,x g6 13 P) :: (nat_lit 142,x g6 21 P) :: (nat_lit 144,x g6 23 P) :: (nat_lit 145,x g6 24 P) :: (nat_lit 147,x g6 26 P) :: (nat_lit 148,x g6 27 P) :: (nat_lit 149,x g6 28 P) :: (nat_lit 150,x g6 29 P) :: (nat_lit 151,x g6 30 P) :: (nat_lit 152,x g6 31 P) :: (nat_lit 153,x g6 32 P) :: (nat_lit 156,x g6 35 P) :: (nat_lit 158,x g6 37 P) :: (nat_lit 159,x g6 38 P) :: (nat_lit 161,x g6 40 P) :: (nat_lit 162,x g6 41 P) :: (nat_lit 163,x g6 42 P) :: (nat_lit 165,x g6 44 P) :: (nat_lit 166,x g6 45 P) :: (nat_lit 168,x g6 47 P) :: (nat_lit 169,x g6 48 P) :: (nat_lit 170,x g6 49 P) :: (nat_lit 173,x g6 52 P) :: (nat_lit 174,x g6 53 P) :: (nat_lit 175,x g7 0 P) :: (nat_lit 177,x g7 2 P) :: (nat_lit 178,x g7 3 P) :: (nat_lit 180,x g7 5 P) :: (nat_lit 181,x g7 6 P) :: (nat_lit 182,x g7 7 P) :: (nat_lit 184,x g7 9 P) :: (nat_lit 185,x g7 10 P) :: (nat_lit 187,x g7 12 P) :: (nat_lit 188,x g7 13 P) :: (nat_lit 189,x g7 14 P) :: (nat_lit 191,x g7 16 P) :: (nat_lit 192,x g7 17 P) :: (nat_lit 194,x g7 19 P) :: (nat_lit 195,x g7 20 P) :: (nat_lit 196,x g7 21 P) :: (nat_lit 198,x g7 23 P) :: (nat_lit 199,x g7 24 P) :: (nat_lit 201,x g7 26 P) :: (nat_lit 202,x g7 27 P) :: (nat_lit 203,x g7 28 P) :: (nat_lit 205,x g7 30 P) :: (nat_lit 206,x g7 31 P) :: (nat_lit 208,x g7 33 P) :: (nat_lit 209,x g7 34 P) :: (nat_lit 210,x g7 35 P) :: (nat_lit 212,x g7 37 P) :: (nat_lit 213,x g7 38 P) :: (nat_lit 215,x g7 40 P) :: (nat_lit 216,x g7 41 P) :: (nat_lit 217,x g7 42 P) :: (nat_lit 219,x g7 44 P) :: (nat_lit 220,x g7 45 P) :: (nat_lit 222,x g7 47 P) :: (nat_lit 223,x g7 48 P) :: (nat_lit 224,x g7 49 P) :: (nat_lit 226,x g7 51 P) :: (nat_lit 227,x g7 52 P) :: (nat_lit 229,x g7 54 P) :: (nat_lit 230,x g7 55 P) :: (nat_lit 231,x g7 56 P) :: (nat_lit 233,x g7 58 P) :: (nat_lit 234,x g7 59 P) :: (nat_lit 236,x g7 61 P) :: (nat_lit 237,x g7 62 P) :: (nat_lit 238,x g7 63 P) :: (nat_lit 241,x g7 66 P) :: (nat_lit 242,x g7 67 P) :: (nat_lit 243,x g7 68 P) :: (nat_lit 246,x g7 71 P) :: (nat_lit 247,x g7 72 P) :: (nat_lit 248,x g7 73 P) :: (nat_lit 250,x g7 75 P) :: (nat_lit 251,x g7 76 P) :: (nat_lit 253,x g7 78 P) :: (nat_lit 254,x g7 79 P) :: (nat_lit 255,x g8 0 P) :: (nat_lit 257,x g8 2 P) :: (nat_lit 258,x g8 3 P) :: (nat_lit 260,x g8 5 P) :: (nat_lit 261,x g8 6 P) :: (nat_lit 262,x g8 7 P) :: (nat_lit 264,x g8 9 P) :: (nat_lit 265,x g8 10 P) :: (nat_lit 267,x g8 12 P) :: (nat_lit 268,x g8 13 P) :: (nat_lit 269,x g8 14 P) :: (nat_lit 272,x g8 17 P) :: (nat_lit 273,x g8 18 P) :: [])
noncomputable def as:List Addr:=(nat_lit 2 :: nat_lit 3 :: nat_lit 15 :: nat_lit 22 :: nat_lit 23 :: nat_lit 24 :: nat_lit 25 :: nat_lit 28 :: nat_lit 35 :: nat_lit 37 :: nat_lit 38 :: nat_lit 40 :: nat_lit 41 :: nat_lit 42 :: nat_lit 43 :: nat_lit 44 :: nat_lit 47 :: nat_lit 54 :: nat_lit 55 :: nat_lit 56 :: nat_lit 59 :: nat_lit 66 :: nat_lit 67 :: nat_lit 68 :: nat_lit 71 :: nat_lit 78 :: nat_lit 80 :: nat_lit 81 :: nat_lit 83 :: nat_lit 84 :: nat_lit 85 :: nat_lit 86 :: nat_lit 87 :: nat_lit 90 :: nat_lit 92 :: nat_lit 93 :: nat_lit 95 :: nat_lit 96 :: nat_lit 97 :: nat_lit 99 :: nat_lit 100 :: nat_lit 102 :: nat_lit 103 :: nat_lit 104 :: nat_lit 106 :: nat_lit 107 :: nat_lit 109 :: nat_lit 110 :: nat_lit 111 :: nat_lit 114 :: nat_lit 115 :: nat_lit 116 :: nat_lit 119 :: nat_lit 120 :: nat_lit 121 :: nat_lit 123 :: nat_lit 124 :: nat_lit 126 :: nat_lit 127 :: nat_lit 128 :: nat_lit 130 :: nat_lit 131 :: nat_lit 133 :: nat_lit 134 :: nat_lit 142 :: nat_lit 144 :: nat_lit 145 :: nat_lit 147 :: nat_lit 148 :: nat_lit 149 :: nat_lit 150 :: nat_lit 151 :: nat_lit 152 :: nat_lit 153 :: nat_lit 156 :: nat_lit 158 :: nat_lit 159 :: nat_lit 161 :: nat_lit 162 :: nat_lit 163 :: nat_lit 165 :: nat_lit 166 :: nat_lit 168 :: nat_lit 169 :: nat_lit 170 :: nat_lit 173 :: nat_lit 174 :: nat_lit 175 :: nat_lit 177 :: nat_lit 178 :: nat_lit 180 :: nat_lit 181 :: nat_lit 182 :: nat_lit 184 :: nat_lit 185 :: nat_lit 187 :: nat_lit 188 :: nat_lit 189 :: nat_lit 191 :: nat_lit 192 :: nat_lit 194 :: nat_lit 195 :: nat_lit 196 :: nat_lit 198 :: nat_lit 199 :: nat_lit 201 :: nat_lit 202 :: nat_lit 203 :: nat_lit 205 :: nat_lit 206 :: nat_lit 208 :: nat_lit 209 :: nat_lit 210 :: nat_lit 212 :: nat_lit 213 :: nat_lit 215 :: nat_lit 216 :: nat_lit 217 :: nat_lit 219 :: nat_lit 220 :: nat_lit 222 :: nat_lit 223 :: nat_lit 224 :: nat_lit 226 :: nat_lit 227 :: nat_lit 229 :: nat_lit 230 :: nat_lit 231 :: nat_lit 233 :: nat_lit 234 :: nat_lit 236 :: nat_lit 237 :: nat_lit 238 :: nat_lit 241 :: nat_lit 242 :: nat_lit 243 :: nat_lit 246 :: nat_lit 247 :: nat_lit 248 :: nat_lit 250 :: nat_lit 251 :: nat_lit 253 :: nat_lit 254 :: nat_lit 255 :: nat_lit 257 :: nat_lit 258 :: nat_lit 260 :: nat_lit 261 :: nat_lit 262 :: nat_lit 264 :: nat_lit 265 :: nat_lit 267 :: nat_lit 268 :: nat_lit 269 :: nat_lit 272 :: nat_lit 273 :: [])
noncomputable def Q:Program:={ PW with main:={ PW.main with body:=[top 1,top 2,top 3,top 4,top 5,top 7,top 8,top 9,top 10,top 11,top 13,top 14,top 16,top 17,top 18,top 19,top 20,top 21,top 22,top 23,top 25,top 26,top 27,top 28,top 29,top 30,top 31,top 32,top 33,top 34,top 35,top 36] } }
noncomputable abbrev HK:Hook:=kHook K as (fun _=>by kernel_rfl)
noncomputable abbrev RR:RowW:=OpenRow.toRowW (OpenLaw.row PySem.Challenge.rw_wearplan_k28_chances_of_fall)
noncomputable abbrev Xt (s:Shared):Bool:=xlAt Q [] s && recOk (RowW.records RR) s
theorem size_is (w:World):((boot_heap w.params).isNs mainGlobals && (Array.mk ([]:List GenState)).size == 0,(boot_heap w.params).objs.size,(boot_heap w.params).nsMap mainGlobals "__annotations__")=(true,11,some (.ref 6)):=by kernel_rfl
theorem look1 (w:World) (os:OsState):(staticsOk (importedModules PW.main.body) (boot_heap w.params) (HF w.params) && namesBound PW (HF w.params) && gensDone (⟨HF w.params,⟨[]⟩,drawn,551,os⟩:Shared) && laidKept (boot_heap w.params) (HF w.params))=true:=by kernel_rfl
theorem look2 (w:World) (os:OsState):openSeen Q [] (importedModules PW.main.body) Xt true (⟨HF w.params,⟨[]⟩,drawn,551,os⟩:Shared)=openGood Q []:=by
  rw [PySem.W.Fast.te4187177175401517315,PySem.W.Fast.te5923862056798008813]; kernel_rfl
theorem look3 (w:World) (os:OsState):HK.obs (⟨HF w.params,⟨[]⟩,drawn,551,os⟩:Shared)=HK.val w:=by kernel_rfl
theorem opening_is:opening PW=plainProg PW.main.scope.names:=by kernel_rfl
theorem fence_is (s:Shared):fenceModules? PW s=some s:=by kernel_rfl
theorem left:LeftO PW Q [] Xt HK.obs HK.val 4404 :=
  LeftO.of_pieces (boot_open opening_is (by decide) fence_is) size_is run (by decide) fun w=>funext fun os=>Prod.ext (look1 w os) (Prod.ext (look2 w os) (look3 w os))
theorem ws:OpenLaw.wellSaid PySem.Challenge.rw_wearplan_k28_chances_of_fall=true:=by
  rw [PySem.W.Fast.te9446332074065402090]; kernel_rfl
end HD28
local macro_rules
  | `(tactic| walk_at "n0")=>`(tactic| exact PySem.W.mg_none_of (by assumption) (by assumption) (by k_is))
  | `(tactic| walk_at "n1")=>`(tactic| exact ⟨_,PySem.W.mg_of (by assumption) (by assumption) (by k_is)⟩)
  | `(tactic| walk_at "n2")=>`(tactic| exact PySem.W.mg_of (by assumption) (by assumption) (by k_is))
  | `(tactic| walk_at "hd")=>`(tactic| exact ⟨by k_is,by kernel_rfl,by k_is⟩)
  | `(tactic| walk_at "ci")=>`(tactic| exact ⟨⟨by k_is,by k_is,by k_is,by k_is⟩,by k_is,by k_is,by k_is,by k_is⟩)
  | `(tactic| walk_at "kn")=>`(tactic| exact ⟨by kernel_rfl,by kernel_rfl,by kernel_rfl,by kernel_rfl,by kernel_rfl,by kernel_rfl,by kernel_rfl⟩)
  | `(tactic| walk_at "na")=>`(tactic| (unfold L2.NoAttr; k_is))
  | `(tactic| walk_at "kr")=>`(tactic| kernel_rfl)
  | `(tactic| walk_at "x0")=>`(tactic| exact ⟨by kernel_rfl,by k_is⟩)
  | `(tactic| walk_at "er")=>`(tactic| exact ⟨by kernel_rfl,by k_is,⟨by kernel_rfl,by k_is,by k_is,by k_is,by k_is,by k_is,by k_is,by k_is⟩⟩)
  | `(tactic| walk_at "ff")=>`(tactic| exact ⟨_,_,by k_is,⟨⟨_,_,_,_,_,_,_,_,_,rfl,by k_is,by k_is⟩,by k_is⟩⟩)
  | `(tactic| walk_at "xm")=>`(tactic| exact ⟨_,_,⟨by kernel_rfl,by k_is,by k_is,by k_is⟩,⟨⟨_,_,_,_,_,_,_,_,_,rfl,by k_is,by k_is⟩,by k_is⟩⟩)
  | `(tactic| walk_at "mk")=>`(tactic| exact ⟨_,_,⟨by k_is,by k_is,by k_is,by k_is⟩,⟨⟨_,_,_,_,_,_,_,_,_,rfl,by k_is,by k_is⟩,by k_is⟩⟩)
open PySem PySem.W PyProof.Rows
set_option maxRecDepth 100000 in
set_option maxHeartbeats 0 in
theorem PySem.Challenge.cw_wearplan_k28_chances_of_fall_holds : PySem.Challenge.rw_wearplan_k28_chances_of_fall.Holds := by
  w_on
  refine holds_law HD28.ws fun said=>?_
  refine holds_open (r:=OpenLaw.row PySem.Challenge.rw_wearplan_k28_chances_of_fall) (q:=HD28.Q) (loose:=[]) (Xt:=HD28.Xt) (XP:=XL HD28.Q []) (Yf:=HD28.HK.obs) (Ya:=HD28.HK.val) (YP:=InK HD28.K) (N:=4404) HD28.left (Hook.of HD28.HK) (Hook.keeps HD28.HK) (fun s e=>xl_of s (Bool.and_eq_true_iff.mp e).1) XL.keeps (by rfl) (by rfl) (by rfl) (fun s e=>recFacts_of (Bool.and_eq_true_iff.mp e).2) (by rfl) said (by decide +kernel) ⟨rfl,rfl,rfl,rfl,rfl,by decide +kernel⟩ ?hw ?hc
  (case hw=>w_witness2)
  k_fill
  refine DL.walk2 (l:=PySem.Challenge.rw_wearplan_k28_chances_of_fall) (k:=10) (x := "_law_script") rfl rfl ⟨rfl,by decide,by decide⟩ (fun w h Y=>(show (HD28.K w.params).In h from Y)) fun w mg fa h KX G hmg=>?_
  have T:K28.Txt (HD28.K w.params) mg ⟨24,151,44,56,68,87⟩:=⟨by walk_at "n0",by walk_at "n0",by walk_at "n0",by walk_at "n0",by walk_at "n0",by walk_at "n0",by walk_at "n0",by walk_at "n0",by walk_at "n0",by walk_at "n0",by walk_at "n0",by walk_at "n0",by walk_at "n0",by walk_at "n0",by walk_at "n0",by walk_at "n0",by walk_at "n1",by walk_at "n2",by walk_at "hd",by walk_at "n2",by walk_at "ci",by walk_at "kn",by walk_at "na",by walk_at "na",by walk_at "na",List.forall_mem_cons.mpr ⟨by walk_at "er",List.forall_mem_cons.mpr ⟨by walk_at "er",List.forall_mem_cons.mpr ⟨by walk_at "er",List.forall_mem_cons.mpr ⟨by walk_at "er",List.forall_mem_nil _⟩⟩⟩⟩,by decide,by decide,by walk_at "n2",by walk_at "hd",by walk_at "kr",by walk_at "na",by walk_at "n2",by walk_at "hd",by walk_at "kr",by walk_at "x0",by walk_at "n2",by walk_at "hd",by walk_at "kr",by walk_at "x0",by walk_at "n2",by walk_at "hd",by walk_at "kr",by walk_at "na"⟩
  exact K28.all_mk KX G hmg T (by walk_at "ff") (by walk_at "ff") (by walk_at "ff") (by walk_at "ff") (by walk_at "ff") (by walk_at "ff") (by walk_at "ff") (by walk_at "ff") (by walk_at "ff") (by walk_at "ff") (by walk_at "ff") (by walk_at "ff") (by walk_at "ff") (by walk_at "ff") (by walk_at "ff") (by walk_at "ff") (by walk_at "ff") (by walk_at "ff") (by walk_at "ff") (by walk_at "ff") (by walk_at "ff") (by walk_at "ff") (by walk_at "ff") (by walk_at "ff") (by walk_at "ff") (by walk_at "xm") (by walk_at "xm") (by walk_at "mk")
