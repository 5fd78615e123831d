import PyProof.Rows.All
import Wide.All
import OpenK.AllK
import Wide.FinOn
import PyProof.EqAt
import PyProof.EqKinds
import PyProof.TupleCall
import KE.BitLaws
import KE.KSortKeySt
import KE.KLam
import Open.SpecLaws
import KE.OsHead
import KE.OsGo
import KE.KDictList
import PyProof.ZipIter
import PyProof.Rows.TupIter
import PyWideLaws
import PySem.Challenge.RW_wirepower_s01_answers
set_option Elab.async false
set_option linter.all false
set_option maxRecDepth 100000
namespace L2
open PySem PySem.Spec PyProof.Rows
abbrev Key:=Sum Int Str
def keyIs:Key→Value→Bool
  | .inl k,v=>Value.isInt k v
  | .inr x,v=>Value.isStrOf x v
def keyH (w:World):Key→Int
  | .inl k=>hashInt k
  | .inr x=>hashStr w x
theorem keyIs_shape:∀ {k:Key} {v:Value},keyIs k v=true→(∃ i t,k=Sum.inl i∧v=Value.int i t)∨(∃ x t,k=Sum.inr x∧v=Value.str x t)
  | .inl i,v,h=>by
    obtain ⟨t,e⟩:=Value.isInt_shape (k:=i) (v:=v) h
    exact .inl ⟨i,t,rfl,e⟩
  | .inr x,v,h=>by
    obtain ⟨t,e⟩:=Value.isStrOf_shape (x:=x) (v:=v) h
    exact .inr ⟨x,t,rfl,e⟩
theorem keyIs_int (i:Int) (t:Tok):keyIs (.inl i) (.int i t)=true:=by simp [keyIs,Value.isInt]
theorem keyIs_str (x:Str) (t:Tok):keyIs (.inr x) (.str x t)=true:=by simp [keyIs,Value.isStrOf]
theorem key_ll (a b:Int):decide ((Sum.inl a:Key)=Sum.inl b)=(a == b):=by
  by_cases e:a=b
  · subst e; simp
  · have h:¬ (Sum.inl a:Key)=Sum.inl b:=fun q=>e (Sum.inl.inj q)
    rw [decide_eq_false h]
    exact (beq_eq_false_iff_ne.mpr e).symm
theorem key_rr (a b:Str):decide ((Sum.inr a:Key)=Sum.inr b)=decide (a=b):=by
  by_cases e:a=b
  · subst e; simp
  · have h:¬ (Sum.inr a:Key)=Sum.inr b:=fun q=>e (Sum.inr.inj q)
    rw [decide_eq_false h,decide_eq_false e]
theorem key_lr (a:Int) (b:Str):decide ((Sum.inl a:Key)=Sum.inr b)=false:=decide_eq_false (fun q=>nomatch q)
theorem key_rl (a:Str) (b:Int):decide ((Sum.inr a:Key)=Sum.inl b)=false:=decide_eq_false (fun q=>nomatch q)
def mixKind (prog:Program) (w:World):PySem.KeyKind prog w Key where
  is:=keyIs
  hash:=keyH w
  inj:=fun v a b ha hb=>by
    rcases keyIs_shape ha with ⟨i,t,rfl,rfl⟩ | ⟨x,t,rfl,rfl⟩
    · rcases keyIs_shape hb with ⟨j,u,rfl,e⟩ | ⟨y,u,rfl,e⟩
      · injection e with e1 _; rw [e1]
      · exact nomatch e
    · rcases keyIs_shape hb with ⟨j,u,rfl,e⟩ | ⟨y,u,rfl,e⟩
      · exact nomatch e
      · injection e with e1 _; rw [e1]
  byValue:=fun k v h=>by
    rcases keyIs_shape h with ⟨i,t,rfl,rfl⟩ | ⟨x,t,rfl,rfl⟩ <;> rfl
  pyHash:=fun hv h=>by
    rcases keyIs_shape hv with ⟨i,t,rfl,rfl⟩ | ⟨x,t,rfl,rfl⟩
    · exact wpAny_pyHash_int h
    · exact wpAny_pyHash_str h
  eqBool:=fun hu hv h=>by
    rcases keyIs_shape hu with ⟨i,t,rfl,rfl⟩ | ⟨x,t,rfl,rfl⟩
    · rcases keyIs_shape hv with ⟨j,u,rfl,rfl⟩ | ⟨y,u,rfl,rfl⟩
      · rw [key_ll] at h; exact wpAny_eqBool_int h
      · rw [key_lr] at h; exact SeqAt.EqAt.int_str i t y u _ _ _ _ h
    · rcases keyIs_shape hv with ⟨j,u,rfl,rfl⟩ | ⟨y,u,rfl,rfl⟩
      · rw [key_rl] at h; exact SeqAt.EqAt.str_int x t j u _ _ _ _ h
      · rw [key_rr] at h; exact wpAny_eqBool_str h
  «strs»:=fun k x t v h=>by
    rcases keyIs_shape h with ⟨i,u,rfl,e⟩ | ⟨y,u,rfl,e⟩
    · exact nomatch e
    · injection e with e1 _
      subst e1
      cases v <;> rfl
theorem mixKind_int (prog:Program) (w:World) (i:Int) (t:Tok):(mixKind prog w).is (.inl i) (.int i t)=true:=keyIs_int i t
theorem mixKind_str (prog:Program) (w:World) (x:Str) (t:Tok):(mixKind prog w).is (.inr x) (.str x t)=true:=keyIs_str x t
end L2
namespace L2
open PySem PySem.Spec PyProof.Rows
inductive V where
  | non | bl (b:Bool) | int (i:Int) | str (x:Str) | byt (b:Array UInt8) | flt (b:UInt64) | ref (a:Addr) | ty (n:String)
  deriving DecidableEq
def RelV:V→Value→Prop
  | .non,u=>u=Value.none
  | .bl b,u=>u=Value.bool b
  | .int i,u=>∃ t,u=Value.int i t
  | .str x,u=>∃ t,u=Value.str x t
  | .byt b,u=>∃ t,u=Value.bytes b t
  | .flt b,u=>∃ t,u=Value.float b t
  | .ref a,u=>u=Value.ref a
  | .ty n,u=>u=Value.type n
abbrev Vals:List V→List Value→Prop:=Paired RelV
theorem Vals.length {xs:List V} {us:List Value} (r:Vals xs us):xs.length=us.length:=Paired.length r
theorem Vals.get:∀ {xs:List V} {us:List Value} {i:Nat} {x:V},Vals xs us→xs[i]?=some x→∃ u,us[i]?=some u∧RelV x u
  | _,_,_,_,.nil,e=>by simp at e
  | _,_,0,_,.cons r _,e=>by simp at e; subst e; exact ⟨_,rfl,r⟩
  | _,_,i + 1,x,.cons _ t,e=>by
    obtain ⟨u,h1,h2⟩:=Vals.get (i:=i) (x:=x) t (by simpa using e)
    exact ⟨u,by simpa using h1,h2⟩
theorem Vals.set {x:V} {u:Value} (r:RelV x u):∀ {xs:List V} {us:List Value} (i:Nat),Vals xs us→Vals (xs.set i x) (us.set i u)
  | _,_,_,.nil=>.nil
  | _,_,0,.cons _ t=>.cons r t
  | _,_,i + 1,.cons q t=>.cons q (Vals.set r i t)
theorem Vals.append:∀ {xs ys:List V} {us ws:List Value},Vals xs us→Vals ys ws→Vals (xs ++ ys) (us ++ ws)
  | _,_,_,_,.nil,s=>s
  | _,_,_,_,.cons r t,s=>.cons r (Vals.append t s)
theorem Vals.take:∀ {xs:List V} {us:List Value} (n:Nat),Vals xs us→Vals (xs.take n) (us.take n)
  | _,_,0,_=>.nil
  | _,_,_ + 1,.nil=>.nil
  | _,_,n + 1,.cons r t=>.cons r (Vals.take n t)
theorem Vals.drop:∀ {xs:List V} {us:List Value} (n:Nat),Vals xs us→Vals (xs.drop n) (us.drop n)
  | _,_,0,r=>r
  | _,_,_ + 1,.nil=>.nil
  | _,_,n + 1,.cons _ t=>Vals.drop n t
def RelO:Option V→Option Value→Prop
  | some v,some u=>RelV v u
  | none,none=>True
  | _,_=>False
def KV {κ:Type}:List (κ × V)→List (κ × Value)→Prop:=Paired fun (p:κ × V) (q:κ × Value)=>p.1=q.1∧RelV p.2 q.2
def kV:Key→V
  | .inl i=>.int i
  | .inr x=>.str x
inductive HO where
  /-- a list -/
  | lst (xs:List V)
  /-- a tuple (never changes) -/
  | tup (xs:List V)
  /-- a dict whose keys are ints and texts; one whose keys are tuples of ints and texts (the empty one is both) -/
  | dK (kvs:List (Key × V)) | dT (kvs:List (List Key × V))
  /-- a set of ints: its members,its size -/
  | set (S:Int→Bool) (n:Nat)
  /-- an instance of the class at C,its dict at dx,its attributes -/
  | ins (C dx:Addr) (fs:List (Str × V))
  /-- the dict of the instance at x -/
  | own (x:Addr)
  /-- the dict of an exception -/
  | xd (fs:List (Str × V))
  /-- a bound method,f of x -/
  | met (f x:Addr)
  /-- a range object lo,lo + 1,.. below hi -/
  | rng (lo hi:Int)
  /-- a thing that is known to the object (the script; a dict while a loop walks it): read,never written while it is so -/
  | frz (o:Obj) (u:HO)
  /-- a code object's table -/
  | tbl (ps:Array Value)
  /-- any other thing,by what is true of its one object (a def of one's own: SetO a S n:=HO.ext fun h=>..) -/
  | ext (φ:Heap→Prop)
abbrev Hp:=Addr→Option HO
def upd (H:Hp) (a:Addr) (o:HO):Hp:=fun b=>if b=a then some o else H b
theorem upd_same {H:Hp} {a:Addr} {o:HO}:upd H a o a=some o:=by unfold upd; rw [if_pos rfl]
theorem upd_ne {H:Hp} {a b:Addr} {o:HO} (h:b≠a):upd H a o b=H b:=by unfold upd; rw [if_neg h]
theorem upd_upd {H:Hp} {a:Addr} {o u:HO}:upd (upd H a o) a u=upd H a u:=by
  funext b; unfold upd; split <;> rfl
theorem ne_of {H:Hp} {a b:Addr} {o u:HO} (h:H a=some o) (h':H b=some u) (d:o≠u):a≠b:=by
  intro e; subst e; rw [h] at h'; exact d (Option.some.inj h')
theorem ne_of_none {H:Hp} {a b:Addr} {o:HO} (h:H a=some o) (h':H b=none):a≠b:=by
  intro e; subst e; rw [h] at h'; cases h'
section
variable (P:Program) (w:World)
def ObjOk (H:Hp) (h:Heap) (a:Addr):HO→Prop
  | .lst xs=>xs.length≤sizeLine∧∃ (its:List Value) (n:Nat),Vals xs its∧h.get? a=some { cls:=.type "list",data:=.seq its.toArray n }
  | .tup xs=>xs.length≤sizeLine∧∃ its:List Value,Vals xs its∧IsTup h a its.toArray
  | .dK kvs=>kvs.length≤sizeLine∧(a == sysModules)=false∧∃ vs,KV kvs vs∧h.DictOf (mixKind P w) a vs
  | .dT kvs=>kvs.length≤sizeLine∧(a == sysModules)=false∧∃ xs:List (List Key × Addr × Value),
      Paired (fun (p:List Key × V) (q:List Key × Addr × Value)=>p.1=q.1∧H q.2.1=some (.tup (p.1.map kV))∧RelV p.2 q.2.2) kvs xs ∧
      ∃ o es ep,h.get? a=some o∧o.ExactDict∧o.data=.dict es ep∧es.toList=xs.map (entryOfKey (tupleKind (mixKind P w)))∧(xs.map (·.1)).Nodup
  | .set S n=>h.SetOf (intKind P w) a S n
  | .ins C dx fs=>H dx=some (.own a)∧fs.length≤1000∧dx≠a∧h.get? a=some (PySem.W.instObj C dx) ∧
      ∃ mA,h.Ns1 dx mA∧(∀ f,RelO (fs.lookup f) (mA f))∧PySem.Within mA (fs.map (·.1))
  | .own _=>∃ o,h.get? a=some o
  | .xd fs=>∃ mA,h.Ns1 a mA∧∀ f,RelO (fs.lookup f) (mA f)
  | .rng lo hi=>∃ t u v,h.get? a=some { cls:=.type "range",data:=.fields #[.int lo t,.int hi u,.int 1 v] }
  | .frz o u=>h.get? a=some o∧ObjOk H h a u
  | .tbl ps=>h.get? a=some { cls:=.none,data:=.fields ps }
  | .met f x=>h.get? a=some (PySem.W.methodObj (.ref f) (.ref x))
  | .ext φ=>φ h∧(∃ o,h.get? a=some o)∧∀ h1 h2:Heap,φ h1→(∀ o,h1.get? a=some o→h2.get? a=some o)→φ h2
def HOk (H:Hp) (h:Heap):Prop:=∀ a o,H a=some o→ObjOk P w H h a o
end
section
variable {P:Program} {w:World} {H H':Hp} {h h':Heap} {a:Addr} {o:HO}
theorem ObjOk.lt (x:ObjOk P w H h a o):a < h.objs.size:=by
  cases o with
  | lst xs=>obtain ⟨_,_,_,_,e⟩:=x; exact Heap.lt_size e
  | tup xs=>obtain ⟨_,_,_,p⟩:=x; exact p.lt
  | dK kvs=>obtain ⟨_,_,_,_,o,_,_,e,_⟩:=x; exact Heap.lt_size e
  | dT kvs=>obtain ⟨_,_,_,_,o,_,_,e,_⟩:=x; exact Heap.lt_size e
  | set S n=>obtain ⟨o,_,_,_,e,_⟩:=x; exact Heap.lt_size e
  | ins C dx fs=>obtain ⟨_,_,_,e,_⟩:=x; exact Heap.lt_size e
  | own y=>obtain ⟨_,e⟩:=x; exact Heap.lt_size e
  | xd fs=>obtain ⟨_,⟨_,_,_,e,_⟩,_⟩:=x; exact Heap.lt_size e
  | rng lo hi=>obtain ⟨_,_,_,e⟩:=x; exact Heap.lt_size e
  | frz ob u=>obtain ⟨e,_⟩:=x; exact Heap.lt_size e
  | tbl ps=>exact Heap.lt_size (show h.get? a=some _ from x)
  | met f y=>exact Heap.lt_size (show h.get? a=some _ from x)
  | ext φ=>obtain ⟨_,⟨_,e⟩,_⟩:=x; exact Heap.lt_size e
theorem Paired.mapP {α β:Type} {F G:α→β→Prop}:∀ {l₁:List α} {l₂:List β},Paired F l₁ l₂→(∀ a b,F a b→G a b)→Paired G l₁ l₂
  | _,_,.nil,_=>.nil
  | _,_,.cons r t,f=>.cons (f _ _ r) (Paired.mapP t f)
theorem ObjOk.stay (x:ObjOk P w H h a o) (k:∀ b u,(b=a∨H b=some (.own a))→h.get? b=some u→h'.get? b=some u)
    (ho:∀ b,H b=some (.own a)→H' b=some (.own a)) (ht:∀ b xs,H b=some (.tup xs)→H' b=some (.tup xs)):ObjOk P w H' h' a o:=by
  induction o with
  | lst xs=>obtain ⟨z,its,n,r,e⟩:=x; exact ⟨z,its,n,r,k _ _ (.inl rfl) e⟩
  | tup xs=>obtain ⟨z,its,r,ob,e,c⟩:=x; exact ⟨z,its,r,ob,k _ _ (.inl rfl) e,c⟩
  | dK kvs=>obtain ⟨z,y,vs,r,ob,es,ep,e,c⟩:=x; exact ⟨z,y,vs,r,ob,es,ep,k _ _ (.inl rfl) e,c⟩
  | dT kvs =>
    obtain ⟨z,y,xs,r,ob,es,ep,e,c⟩:=x
    exact ⟨z,y,xs,Paired.mapP r fun p q z=>⟨z.1,ht _ _ z.2.1,z.2.2⟩,ob,es,ep,k _ _ (.inl rfl) e,c⟩
  | set S n=>obtain ⟨ob,es,ep,t,e,c⟩:=x; exact ⟨ob,es,ep,t,k _ _ (.inl rfl) e,c⟩
  | ins C dx fs =>
    obtain ⟨d,z,ne,e,mA,⟨od,es,ep,e2,c⟩,r⟩:=x
    exact ⟨ho _ d,z,ne,k _ _ (.inl rfl) e,mA,⟨od,es,ep,k _ _ (.inr d) e2,c⟩,r⟩
  | own y=>obtain ⟨ob,e⟩:=x; exact ⟨ob,k _ _ (.inl rfl) e⟩
  | xd fs=>obtain ⟨mA,⟨od,es,ep,e,c⟩,r⟩:=x; exact ⟨mA,⟨od,es,ep,k _ _ (.inl rfl) e,c⟩,r⟩
  | rng lo hi=>obtain ⟨t,u,v,e⟩:=x; exact ⟨t,u,v,k _ _ (.inl rfl) e⟩
  | frz ob u ih=>obtain ⟨e,q⟩:=x; exact ⟨k _ _ (.inl rfl) e,ih q⟩
  | tbl ps =>
    have e:h.get? a=some { cls:=.none,data:=.fields ps }:=x
    show h'.get? a=some { cls:=.none,data:=.fields ps }
    exact k a _ (.inl rfl) e
  | met f y =>
    have e:h.get? a=some (PySem.W.methodObj (.ref f) (.ref y)):=x
    show h'.get? a=some (PySem.W.methodObj (.ref f) (.ref y))
    exact k a _ (.inl rfl) e
  | ext φ=>obtain ⟨p,⟨o,e⟩,st⟩:=x; exact ⟨st _ _ p fun o q=>k _ _ (.inl rfl) q,⟨o,k _ _ (.inl rfl) e⟩,st⟩
theorem HOk.lt (x:HOk P w H h) (e:H a=some o):a < h.objs.size:=(x a o e).lt
theorem HOk.fresh (x:HOk P w H h) (e:h.objs.size≤a):H a=none:=by
  cases q:H a with
  | none=>rfl
  | some u=>exact absurd (Nat.lt_of_lt_of_le (x.lt q) e) (Nat.lt_irrefl _)
theorem HOk.kept (x:HOk P w H h) (k:∀ b u,h.get? b=some u→h'.get? b=some u):HOk P w H h':=fun a o e =>
  (x a o e).stay (fun b u _ q=>k b u q) (fun _ q=>q) fun _ _ q=>q
theorem HOk.laid (x:HOk P w H h) (k:∀ b u,h.get? b=some u→h'.get? b=some u) (hp:h.objs.size≤a) (new:ObjOk P w (upd H a o) h' a o):HOk P w (upd H a o) h':=fun b u e=>by
  have hn:=x.fresh hp
  by_cases hb:b=a
  · subst hb; rw [upd_same] at e; cases e; exact new
  · rw [upd_ne hb] at e
    exact (x b u e).stay (fun c v _ q=>k c v q) (fun c q=>by rw [upd_ne (ne_of_none q hn)]; exact q) fun c xs q=>by rw [upd_ne (ne_of_none q hn)]; exact q
end
def Rd (H:Hp) (a:Addr) (u:HO):Prop:=H a=some u∨∃ o,H a=some (.frz o u)
theorem Rd.ok {P:Program} {w:World} {H:Hp} {h:Heap} {a:Addr} {u:HO} (r:Rd H a u) (x:HOk P w H h):ObjOk P w H h a u:=by
  rcases r with r | ⟨o,r⟩
  · exact x a u r
  · obtain ⟨_,q⟩:=x a _ r
    exact q
def Mut:Option HO→Prop
  | some (.lst _)=>True
  | some (.dK _)=>True
  | some (.dT _)=>True
  | some (.set _ _)=>True
  | some (.ins _ _ _)=>True
  | some (.ext _)=>True
  | _=>False
section
variable {P:Program} {w:World} {H:Hp} {h h':Heap} {x e:Addr} {o':HO}
theorem HOk.write (ok:HOk P w H h) (mu:Mut (H x)) (he:e=x∨H e=some (.own x)) (k:∀ b u,b≠e→h.get? b=some u→h'.get? b=some u) (heo:∃ u,h'.get? e=some u)
    (new:ObjOk P w (upd H x o') h' x o'):HOk P w (upd H x o') h':=fun b u q=>by
  have nown:∀ c y,H c=some (.own y)→c≠x:=fun c y r z=>by subst z; rw [r] at mu; exact mu
  have ntup:∀ c xs,H c=some (.tup xs)→c≠x:=fun c xs r z=>by subst z; rw [r] at mu; exact mu
  by_cases hb:b=x
  · subst hb; rw [upd_same] at q; cases q; exact new
  · rw [upd_ne hb] at q
    by_cases hbe:b=e
    · have q':H b=some (.own x):=by
        rcases he with z | z
        · exact absurd (hbe.trans z) hb
        · rw [hbe]; exact z
      rw [q] at q'; cases q'
      obtain ⟨v,hv⟩:=heo
      exact ⟨v,by rw [hbe]; exact hv⟩
    · refine (ok b u q).stay (fun c v hc r=>k c v ?_ r) (fun c r=>by rw [upd_ne (nown c b r)]; exact r) fun c xs r=>by rw [upd_ne (ntup c xs r)]; exact r
      rcases hc with rfl | hc
      · exact hbe
      · rintro rfl
        rcases he with z | z
        · exact nown c b hc z
        · rw [hc] at z; cases z; exact hb rfl
end
structure Un (fs ex:List Addr) (H H':Hp) (h h':Heap):Prop where
  keep:∀ b o,h.get? b=some o→H b=none→b ∉ fs→b ∉ ex→h'.get? b=some o
  slot:∀ b o,h.get? b=some o→H b=none→b ∈ fs→b ∉ ex→∃ sl,h'.get? b=some { o with slots:=sl }
  free:∀ b o,h.get? b=some o→H b=none→b ∉ ex→H' b=none
  there:∀ b o,h.get? b=some o→b ∉ ex→∃ o',h'.get? b=some o'
  tups:∀ b xs,H b=some (.tup xs)→H' b=some (.tup xs)
  frzs:∀ b o u,H b=some (.frz o u)→H' b=some (.frz o u)
  tbls:∀ b ps,H b=some (.tbl ps)→∃ more,H' b=some (.tbl (ps ++ more))
section
variable {fs fs' ex ex':List Addr} {H H1 H2:Hp} {h h1 h2 h':Heap} {a x e:Addr} {o:HO}
theorem Un.any (u:Un fs ex H H1 h h1) {b:Addr} {ob:Obj} (q:h.get? b=some ob) (n:H b=none) (hx:b ∉ ex):∃ sl,h1.get? b=some { ob with slots:=sl }:=by
  by_cases hb:b ∈ fs
  · exact u.slot b ob q n hb hx
  · exact ⟨ob.slots,u.keep b ob q n hb hx⟩
theorem Un.kept (k:∀ b u,h.get? b=some u→h'.get? b=some u):Un fs ex H H h h' :=
  ⟨fun b ob q _ _ _=>k b ob q,fun b ob q _ _ _=>⟨ob.slots,k b ob q⟩,fun _ _ _ n _=>n,fun b ob q _=>⟨ob,k b ob q⟩,fun _ _ q=>q,fun _ _ _ q=>q,fun _ ps q=>⟨#[],by rw [q]; simp⟩⟩
theorem Un.refl:Un fs ex H H h h:=Un.kept fun _ _ q=>q
theorem Un.laid (k:∀ b u,h.get? b=some u→h'.get? b=some u) (hp:h.objs.size≤a) (hn:H a=none):Un fs ex H (upd H a o) h h' where
  keep:=fun b u q _ _ _=>k b u q
  slot:=fun b u q _ _ _=>⟨u.slots,k b u q⟩
  free:=fun b u q n _=>by rw [upd_ne (Nat.ne_of_lt (Nat.lt_of_lt_of_le (Heap.lt_size q) hp))]; exact n
  there:=fun b u q _=>⟨u,k b u q⟩
  tups:=fun b xs q=>by rw [upd_ne (ne_of_none q hn)]; exact q
  frzs:=fun b u xs q=>by rw [upd_ne (ne_of_none q hn)]; exact q
  tbls:=fun b ps q=>⟨#[],by rw [upd_ne (ne_of_none q hn),q]; simp⟩
theorem Un.write (mu:Mut (H x)) (he:e=x∨H e=some (.own x)) (k:∀ b u,b≠e→h.get? b=some u→h'.get? b=some u) (heo:∃ u,h'.get? e=some u):Un fs ex H (upd H x o) h h':=by
  have hx:∀ b,H b=none→b≠x:=fun b n z=>by subst z; rw [n] at mu; exact mu
  have hb:∀ b,H b=none→b≠e:=fun b n z=>by
    subst z
    rcases he with r | r
    · exact hx b n r
    · rw [n] at r; cases r
  have hm:∀ b u,H b=some u→¬ Mut (some u)→b≠x:=fun b u q nm z=>by subst z; rw [q] at mu; exact nm mu
  refine ⟨fun b u q n _ _=>k b u (hb b n) q,fun b u q n _ _=>⟨u.slots,k b u (hb b n) q⟩,fun b u q n _=>by rw [upd_ne (hx b n)]; exact n,fun b u q _=>?_,
    fun b xs q=>by rw [upd_ne (hm b _ q fun z=>z)]; exact q,fun b u xs q=>by rw [upd_ne (hm b _ q fun z=>z)]; exact q,fun b ps q=>⟨#[],by rw [upd_ne (hm b _ q fun z=>z),q]; simp⟩⟩
  by_cases hbe:b=e
  · subst hbe; exact heo
  · exact ⟨u,k b u hbe q⟩
end
def trk (h:Heap) (H:Hp):List Addr:=(List.range h.objs.size).filter fun a=>(H a).isSome
def hidT (h:Heap) (H:Hp):Heap:=PySem.W.hideAll h (trk h H)
theorem hidT_size (h:Heap) (H:Hp):(hidT h H).objs.size=h.objs.size:=PySem.W.hideAll_size _ _
theorem hidT_get {h:Heap} {H:Hp} {b:Addr} {o:Obj} (e:h.get? b=some o) (n:H b=none):(hidT h H).get? b=some o :=
  PySem.W.hideAll_get _ e fun hm=>by
    have q:(H b).isSome=true:=(List.mem_filter.mp hm).2
    rw [n] at q; simp at q
theorem of_hidT {h:Heap} {H:Hp} {b:Addr} {o:Obj} (e:(hidT h H).get? b=some o):h.get? b=some o∧H b=none:=by
  have e':h.get? b=some o:=PySem.W.of_hideAll (trk h H) e
  refine ⟨e',?_⟩
  cases q:H b with
  | none=>rfl
  | some x =>
    have hm:b ∈ trk h H:=List.mem_filter.mpr ⟨List.mem_range.mpr (Heap.lt_size e'),by simp [q]⟩
    have z:(hidT h H).get? b=none:=PySem.W.hideAll_none (trk h H) hm
    rw [z] at e; cases e
end L2
namespace L2
open PySem PySem.Spec PyProof.Rows
structure Mod (K:PySem.W.Frag) (mg:Str→Option Value) (base:Heap):Prop where
  kin:K.In base
  glob:base.Ns mainGlobals mg
  blt:∃ mb,base.Ns builtinsNs mb∧∀ x:Str,x≠"__name__"→mb x=bootBuiltins x
  nolimit:base.NoLimit
structure Cx where
  prog:Program
  w:World
  K:PySem.W.Frag
  mg:Str→Option Value
  base:Heap
  A:Around
  N:List Str
  s_0:Shared
  H_0:Hp
  env:Env
  outer:List Env
  stack:List Env
  ex:List Addr
  fn:Str→Bool
  calm:Bool
  pn:List (Addr × Obj)
  xe:Value→Shared→Prop
def frs (l:List Env):List Addr:=l.filterMap (·.frame)
abbrev Cx.fs (X:Cx):List Addr:=frs X.outer
def Vis (sc:Scope) (x:Str):Prop:=sc.names.lookup x=some .local∨sc.names.lookup x=some .cell∨sc.names.lookup x=some .free
def Loc (sc:Scope) (x:Str):Prop:=sc.names.lookup x=some .local∨sc.names.lookup x=some .cell
def Look (env:Env) (h:Heap) (m:Str→Option Value) (x:Str) (u:Value):Prop :=
  (env.kindOf x=some .local∧m x=some u)∨((env.kindOf x=some .cell∨env.kindOf x=some .free)∧∃ c,env.cells.lookup x=some c∧h.IsCell c (some u))
structure Cx.Ok (X:Cx):Prop where
  mod:Mod X.K X.mg X.base
  kind:X.env.scope.kind=.function
  glob:X.env.globals=mainGlobals
  blt:X.env.builtins=builtinsNs
  above:X.s_0.heap.objs.size≤X.env.locals
  inj:∀ x y c,X.env.cells.lookup x=some c→X.env.cells.lookup y=some c→x=y
  has:∀ x,(X.env.kindOf x=some .cell∨X.env.kindOf x=some .free)→∃ c,X.env.cells.lookup x=some c
  cab:∀ x c,X.fn x=true→X.env.cells.lookup x=some c→X.s_0.heap.objs.size≤c
  hd:X.calm=true→X.A.handled=none
  frames:X.A.frames=some X.stack
  stk:X.stack=X.outer∨(X.stack=X.env::X.outer∧X.env.frame=some X.env.locals)
  exf:∀ b ∈ X.ex,b≠X.env.locals∧∀ x c,X.env.cells.lookup x=some c→c≠b
  bs:∀ b o,X.base.get? b=some o→X.s_0.heap.get? b=some o∧X.H_0 b=none
  bsz:X.base.objs.size≤X.s_0.heap.objs.size
  noex:∀ b o,X.base.get? b=some o→b ∉ X.ex
  exfs:∀ b ∈ X.ex,b ∉ X.fs
  funs:X.s_0.heap.FunFrames X.base X.outer
  frf:∀ b ∈ X.fs,X.H_0 b=none
structure Inv (X:Cx) (pins:List (Addr × Obj)) (σ:List (Option V)) (H:Hp) (s:Shared):Prop where
  ok:X.Ok
  os:s.os=X.s_0.os
  bare:AllBare s.gens
  base:Un X.fs X.ex X.H_0 H X.s_0.heap s.heap
  loc:∃ m,s.heap.Ns X.env.locals m∧∀ (i:Nat) (x:Str) (v:V),X.N[i]?=some x→σ[i]?=some (some v)→Vis X.env.scope x→∃ u,RelV v u∧Look X.env s.heap m x u
  cell:∀ x c,X.env.cells.lookup x=some c→∃ v,s.heap.IsCell c v
  free:H X.env.locals=none
  freeC:∀ x c,X.env.cells.lookup x=some c→H c=none
  pin:∀ p ∈ X.pn ++ pins,s.heap.get? p.1=some p.2∧H p.1=none∧p.1≠X.env.locals∧p.1 ∉ X.fs∧∀ v,p.2.data≠.cell v
  hok:HOk X.prog X.w H s.heap
  len:σ.length=X.N.length
section
variable {X:Cx} {pins:List (Addr × Obj)} {σ:List (Option V)} {H H':Hp} {s:Shared} {h':Heap}
theorem Cx.Ok.nofr (ok:X.Ok) {b:Addr} {o:Obj} (e:X.base.get? b=some o):b ∉ X.fs:=fun hb=>by
  have:=(ok.funs.mem hb).1
  rw [e] at this; cases this
theorem Inv.bs (I:Inv X pins σ H s):∀ b o,X.base.get? b=some o→s.heap.get? b=some o∧H b=none:=fun b o e =>
  ⟨I.base.keep b o (I.ok.bs b o e).1 (I.ok.bs b o e).2 (I.ok.nofr e) (I.ok.noex b o e),I.base.free b o (I.ok.bs b o e).1 (I.ok.bs b o e).2 (I.ok.noex b o e)⟩
theorem Inv.bk (I:Inv X pins σ H s):∀ b o,X.base.get? b=some o→s.heap.get? b=some o:=fun b o e=>(I.bs b o e).1
theorem Inv.mod (I:Inv X pins σ H s):Mod X.K X.mg X.base:=I.ok.mod
theorem Inv.kIn (I:Inv X pins σ H s):X.K.In s.heap:=I.ok.mod.kin.keeps I.bk
theorem Inv.fr (I:Inv X pins σ H s):∃ m,Fr X.base X.env.locals s.heap m :=
  let ⟨m,hn,_⟩:=I.loc
  ⟨m,hn,I.bk,Nat.le_trans I.ok.bsz I.ok.above⟩
theorem Inv.lt (I:Inv X pins σ H s):X.env.locals < s.heap.objs.size:=let ⟨_,hn,_⟩:=I.loc; hn.lt
theorem Inv.sz (I:Inv X pins σ H s):X.s_0.heap.objs.size≤s.heap.objs.size:=Nat.le_trans I.ok.above (Nat.le_of_lt I.lt)
theorem Inv.nofs (I:Inv X pins σ H s) {a:Addr} (h:s.heap.objs.size≤a):a ∉ X.fs:=fun hb=>by
  obtain ⟨_,o,ho,_⟩:=I.ok.funs.mem hb
  exact absurd (Nat.lt_of_lt_of_le (Heap.lt_size ho) (Nat.le_trans I.sz h)) (Nat.lt_irrefl _)
theorem Inv.cne (I:Inv X pins σ H s):∀ x c,X.env.cells.lookup x=some c→c≠X.env.locals:=fun x c e z=>by
  obtain ⟨v,o,ho,hd⟩:=I.cell x c e
  obtain ⟨m,⟨o',es,ep,ho',hd',_⟩,_⟩:=I.loc
  rw [z,ho'] at ho; cases ho; rw [hd'] at hd; cases hd
theorem Inv.funs (I:Inv X pins σ H s):s.heap.FunFrames X.base X.outer:=by
  have all:∀ (l:List Env),(∀ b ∈ frs l,b ∈ X.fs)→X.s_0.heap.FunFrames X.base l→s.heap.FunFrames X.base l:=by
    intro l
    induction l with
    | nil=>intro _ _; trivial
    | cons env r ih =>
      intro hs hl
      obtain ⟨hk,⟨L,o,hf,hn,ho,hd⟩,hr⟩:=hl
      have hL:L ∈ X.fs:=hs L (by unfold frs; rw [List.filterMap_cons,hf]; exact List.mem_cons_self)
      obtain ⟨sl,e⟩:=I.base.slot L o ho (I.ok.frf L hL) hL fun z=>I.ok.exfs L z hL
      exact ⟨hk,⟨L,_,hf,hn,e,hd⟩,ih (fun b hb=>hs b (by unfold frs; rw [List.filterMap_cons,hf]; exact List.mem_cons_of_mem _ hb)) hr⟩
  exact all X.outer (fun _ hb=>hb) I.ok.funs
theorem Inv.stack (I:Inv X pins σ H s):s.heap.FunFrames X.base X.stack:=by
  rcases I.ok.stk with e | ⟨e,hf⟩
  · rw [e]; exact I.funs
  · rw [e]
    obtain ⟨m,hn,_⟩:=I.loc
    refine .cons (by rw [I.ok.kind]; decide) hf hn ?_ I.funs
    exact Heap.get?_none_of_le (Nat.le_trans I.ok.bsz I.ok.above)
theorem Inv.stkSub (I:Inv X pins σ H s):∀ b ∈ frs X.stack,b ∈ X.env.locals::X.fs:=fun b hb=>by
  rcases I.ok.stk with e | ⟨e,hf⟩
  · rw [e] at hb; exact List.mem_cons_of_mem _ hb
  · rw [e] at hb
    unfold frs at hb
    rw [List.filterMap_cons,hf] at hb
    exact hb
theorem Inv.stkFree (I:Inv X pins σ H s):∀ b ∈ frs X.stack,H b=none:=fun b hb=>by
  rcases List.mem_cons.mp (I.stkSub b hb) with e | hb
  · rw [e]; exact I.free
  · obtain ⟨_,o,ho,_⟩:=I.ok.funs.mem hb
    exact I.base.free b o ho (I.ok.frf b hb) fun z=>I.ok.exfs b z hb
theorem Inv.step {g':Array GenState} {t':Nat} {d':Drawn} {ch:List Addr} (I:Inv X pins σ H s)
    (hch:∀ b ∈ ch,(b ∈ X.ex∨X.s_0.heap.objs.size≤b)∧b≠X.env.locals∧(∀ x c,X.env.cells.lookup x=some c→c≠b)∧∀ p ∈ X.pn ++ pins,p.1≠b)
    (keep:∀ b o,b≠X.env.locals→b ∉ X.fs→b ∉ ch→s.heap.get? b=some o→H b=none→h'.get? b=some o)
    (slot:∀ b o,b≠X.env.locals→b ∈ X.fs→b ∉ ch→s.heap.get? b=some o→H b=none→∃ sl,h'.get? b=some { o with slots:=sl }) (free:∀ b o,b ∉ ch→s.heap.get? b=some o→H b=none→H' b=none)
    (there:∀ b o,b ∉ ch→s.heap.get? b=some o→∃ o',h'.get? b=some o')
    (tups:∀ b xs,H b=some (.tup xs)→H' b=some (.tup xs)) (frzs:∀ b o u,H b=some (.frz o u)→H' b=some (.frz o u)) (tbls:∀ b ps,H b=some (.tbl ps)→∃ more,H' b=some (.tbl (ps ++ more)))
    (ns:∀ m,s.heap.Ns X.env.locals m→h'.Ns X.env.locals m) (hok:HOk X.prog X.w H' h') (hg:AllBare g') :
    Inv X pins σ H' { s with heap:=h',gens:=g',drawn:=d',toks:=t' }:=by
  have neL:∀ b o,X.s_0.heap.get? b=some o→b≠X.env.locals:=fun b o e=>Nat.ne_of_lt (Nat.lt_of_lt_of_le (Heap.lt_size e) I.ok.above)
  have neC:∀ b o,X.s_0.heap.get? b=some o→b ∉ X.ex→b ∉ ch:=fun b o e hx hb=>by
    rcases (hch b hb).1 with z | z
    · exact hx z
    · exact absurd (Nat.lt_of_lt_of_le (Heap.lt_size e) z) (Nat.lt_irrefl _)
  have cellK:∀ x c,X.env.cells.lookup x=some c→∀ v,s.heap.IsCell c v→h'.IsCell c v:=fun x c e v ⟨o,ho,hd⟩=>by
    have nch:c ∉ ch:=fun z=>(hch c z).2.2.1 x c e rfl
    by_cases hc:c ∈ X.fs
    · obtain ⟨sl,q⟩:=slot c o (I.cne x c e) hc nch ho (I.freeC x c e)
      exact ⟨_,q,hd⟩
    · exact ⟨o,keep c o (I.cne x c e) hc nch ho (I.freeC x c e),hd⟩
  refine ⟨I.ok,I.os,hg,⟨fun b o e n hb hx=>?_,fun b o e n hb hx=>?_,fun b o e n hx=>?_,fun b o e hx=>?_,fun b xs e=>tups b xs (I.base.tups b xs e),fun b o xs e=>frzs b o xs (I.base.frzs b o xs e),fun b ps e=>?_⟩,?_,fun x c e=>?_,?_,fun x c e=>?_,fun p hp=>?_,hok,I.len⟩
  · exact keep b o (neL b o e) hb (neC b o e hx) (I.base.keep b o e n hb hx) (I.base.free b o e n hx)
  · obtain ⟨sl,e1⟩:=I.base.slot b o e n hb hx
    obtain ⟨sl',e2⟩:=slot b _ (neL b o e) hb (neC b o e hx) e1 (I.base.free b o e n hx)
    exact ⟨sl',e2⟩
  · obtain ⟨o',e1⟩:=I.base.there b o e hx
    exact free b o' (neC b o e hx) e1 (I.base.free b o e n hx)
  · obtain ⟨o',e1⟩:=I.base.there b o e hx
    exact there b o' (neC b o e hx) e1
  · obtain ⟨m1,e1⟩:=I.base.tbls b ps e
    obtain ⟨m2,e2⟩:=tbls b _ e1
    exact ⟨m1 ++ m2,by rw [e2,Array.append_assoc]⟩
  · obtain ⟨m,hn,hl⟩:=I.loc
    refine ⟨m,ns m hn,fun i x v e1 e2 e3=>?_⟩
    obtain ⟨u,r,l⟩:=hl i x v e1 e2 e3
    refine ⟨u,r,?_⟩
    rcases l with l | ⟨k,c,e,z⟩
    · exact .inl l
    · exact .inr ⟨k,c,e,cellK x c e _ z⟩
  · obtain ⟨v,z⟩:=I.cell x c e
    exact ⟨v,cellK x c e v z⟩
  · obtain ⟨m,⟨o,_,_,ho,_⟩,_⟩:=I.loc
    exact free _ o (fun z=>(hch _ z).2.1 rfl) ho I.free
  · obtain ⟨v,o,ho,hd⟩:=I.cell x c e
    exact free c o (fun z=>(hch c z).2.2.1 x c e rfl) ho (I.freeC x c e)
  · obtain ⟨e,n,ne,nf,d⟩:=I.pin p hp
    have nch:p.1 ∉ ch:=fun z=>(hch p.1 z).2.2.2 p hp rfl
    exact ⟨keep p.1 p.2 ne nf nch e n,free p.1 p.2 nch e n,ne,nf,d⟩
theorem Inv.un {t':Nat} (I:Inv X pins σ H s) (u:Un X.fs [] H H' s.heap h') (hok:HOk X.prog X.w H' h'):Inv X pins σ H' { s with heap:=h',toks:=t' }:=by
  obtain ⟨m,⟨o,es,ep,ho,r⟩,_⟩:=id I.loc
  obtain ⟨sl,hL⟩:=u.any ho I.free (by simp)
  exact I.step (g':=s.gens) (d':=s.drawn) (ch:=[]) (fun _ z=>nomatch z) (fun b o _ hb _ e n=>u.keep b o e n hb (by simp)) (fun b o _ hb _ e n=>u.slot b o e n hb (by simp)) (fun b o _ e n=>u.free b o e n (by simp)) (fun b o _ e=>u.there b o e (by simp)) u.tups u.frzs u.tbls (fun m' hm=>by
    obtain ⟨o',es',ep',ho',r'⟩:=hm
    rw [ho] at ho'; cases ho'
    exact ⟨_,es',ep',hL,r'⟩) hok I.bare
theorem Inv.call {g':Array GenState} {t':Nat} {d':Drawn} {ch:List Addr} (I:Inv X pins σ H s) (u:Un (frs X.stack) ch H H' s.heap h') (hok:HOk X.prog X.w H' h') (hg:AllBare g')
    (hch:∀ b ∈ ch,(b ∈ X.ex∨X.s_0.heap.objs.size≤b)∧b≠X.env.locals∧(∀ x c,X.env.cells.lookup x=some c→c≠b)∧∀ p ∈ X.pn ++ pins,p.1≠b) :
    Inv X pins σ H' { s with heap:=h',gens:=g',drawn:=d',toks:=t' }:=by
  obtain ⟨m,⟨o,es,ep,ho,r⟩,_⟩:=id I.loc
  obtain ⟨sl,hL⟩:=u.any ho I.free fun z=>(hch _ z).2.1 rfl
  exact I.step (ch:=ch) hch (fun b o hL hb hc e n=>u.keep b o e n (fun z=>(List.mem_cons.mp (I.stkSub b z)).elim hL hb) hc) (fun b o _ _ hc e n=>u.any e n hc) (fun b o hc e n=>u.free b o e n hc) (fun b o hc e=>u.there b o e hc) u.tups u.frzs u.tbls (fun m' hm=>by
    obtain ⟨o',es',ep',ho',r'⟩:=hm
    rw [ho] at ho'; cases ho'
    exact ⟨_,es',ep',hL,r'⟩) hok hg
theorem Inv.turned {t':Nat} {it:Addr} (I:Inv X pins σ H s) (k:∀ b o,b≠it→s.heap.get? b=some o→h'.get? b=some o) (hn:H it=none) (hL:it≠X.env.locals)
    (h1:it ∈ X.ex∨X.s_0.heap.objs.size≤it) (h2:∀ x c,X.env.cells.lookup x=some c→c≠it) (h3:∀ p ∈ X.pn ++ pins,p.1≠it):Inv X pins σ H { s with heap:=h',toks:=t' }:=by
  have nit:∀ b u,H b=some u→b≠it:=fun b u e z=>by rw [z,hn] at e; cases e
  refine I.step (g':=s.gens) (d':=s.drawn) (ch:=[it]) (fun b hb=>?_) (fun b o _ _ hc e _=>k b o (fun z=>hc (by simp [z])) e) (fun b o _ _ hc e _=>⟨o.slots,k b o (fun z=>hc (by simp [z])) e⟩) (fun _ _ _ _ n=>n)
    (fun b o hc e=>⟨o,k b o (fun z=>hc (by simp [z])) e⟩) (fun _ _ e=>e) (fun _ _ _ e=>e) (fun b ps e=>⟨#[],by rw [e]; simp⟩) (fun m hm=>?_) (fun b u e=>?_) I.bare
  · have e:b=it:=by simpa using hb
    subst e
    exact ⟨h1,hL,h2,h3⟩
  · obtain ⟨o,es,ep,ho,r⟩:=hm
    exact ⟨o,es,ep,k _ o (Ne.symm hL) ho,r⟩
  · refine (I.hok b u e).stay (fun c v hc q=>k c v ?_ q) (fun _ q=>q) fun _ _ q=>q
    rcases hc with z | z
    · rw [z]; exact nit b u e
    · exact nit c _ z
theorem Inv.tok (I:Inv X pins σ H s) (t:Nat):Inv X pins σ H { s with toks:=t }:=I.un (h':=s.heap) (t':=t) Un.refl I.hok
theorem Inv.kept {t':Nat} (I:Inv X pins σ H s) (k:∀ b u,s.heap.get? b=some u→h'.get? b=some u):Inv X pins σ H { s with heap:=h',toks:=t' }:=I.un (Un.kept k) (I.hok.kept k)
theorem Inv.laid {a:Addr} {o:HO} {t':Nat} (I:Inv X pins σ H s) (k:∀ b u,s.heap.get? b=some u→h'.get? b=some u) (hp:s.heap.objs.size≤a) (new:ObjOk X.prog X.w (upd H a o) h' a o) :
    Inv X pins σ (upd H a o) { s with heap:=h',toks:=t' }:=I.un (Un.laid k hp (I.hok.fresh hp)) (I.hok.laid k hp new)
theorem Inv.write {x e:Addr} {o:HO} {t':Nat} (I:Inv X pins σ H s) (mu:Mut (H x)) (he:e=x∨H e=some (.own x)) (k:∀ b u,b≠e→s.heap.get? b=some u→h'.get? b=some u) (heo:∃ u,h'.get? e=some u)
    (new:ObjOk X.prog X.w (upd H x o) h' x o):Inv X pins σ (upd H x o) { s with heap:=h',toks:=t' }:=I.un (Un.write mu he k heo) (I.hok.write mu he k heo new)
theorem Inv.weak {σ':List (Option V)} (I:Inv X pins σ H s) (hl:σ'.length=σ.length) (w:∀ (i:Nat) v,σ'[i]?=some (some v)→σ[i]?=some (some v)):Inv X pins σ' H s :=
  ⟨I.ok,I.os,I.bare,I.base,let ⟨m,hn,hl'⟩:=I.loc; ⟨m,hn,fun i x v e1 e2 e3=>hl' i x v e1 (w i v e2) e3⟩,I.cell,I.free,I.freeC,I.pin,I.hok,hl.trans I.len⟩
theorem Inv.pins_of {pins':List (Addr × Obj)} (I:Inv X pins σ H s) (h:∀ p ∈ pins',s.heap.get? p.1=some p.2∧H p.1=none∧p.1≠X.env.locals∧p.1 ∉ X.fs∧∀ v,p.2.data≠.cell v):Inv X pins' σ H s :=
  ⟨I.ok,I.os,I.bare,I.base,I.loc,I.cell,I.free,I.freeC,fun p hp=>(List.mem_append.mp hp).elim (fun z=>I.pin p (List.mem_append_left _ z)) (h p),I.hok,I.len⟩
theorem nodup_ix {N:List Str} (hN:N.Nodup) {i j:Nat} {x:Str} (a:N[i]?=some x) (b:N[j]?=some x):i=j:=by
  obtain ⟨h1,e1⟩:=List.getElem?_eq_some_iff.mp a
  obtain ⟨h2,e2⟩:=List.getElem?_eq_some_iff.mp b
  exact (List.getElem_inj hN).mp (e1.trans e2.symm)
theorem store_ok2 {M:Model} {A:Around} {E:Value→Shared→Prop} {i:Nat} {x:Str} {v:V} {u:Value} {Q:Unit→Shared→Prop} (I:Inv X pins σ H s) (hN:X.N.Nodup) (hi:X.N[i]?=some x) (hx:Loc X.env.scope x) (r:RelV v u)
    (h:∀ s',Inv X pins (σ.set i (some v)) H s'→(∃ a,Heap.SameBut a s.heap s'.heap∧(a=X.env.locals∨X.env.cells.lookup x=some a))→Q () s') (hf:X.fn x=true∨X.env.scope.names.lookup x=some .local:=by first | exact .inl rfl | exact .inr rfl | assumption):wpAny M A (storeName X.env x u) Q E s:=by
  obtain ⟨m,hn,hl⟩:=id I.loc
  have hcls:(X.env.scope.kind == .class || (X.env.scope.kind == .module && X.env.locals != X.env.globals))=false:=by rw [I.ok.kind]; rfl
  have hiσ:i < σ.length:=by rw [I.len]; exact (List.getElem?_eq_some_iff.mp hi).1
  have cne:=I.cne
  have tracked:∀ {a:Addr} {h':Heap},(∃ o,s.heap.get? a=some o∧H a=none)→Heap.SameBut a s.heap h'→HOk X.prog X.w H h':=fun {a h'} ha hs b ob e=>by
    obtain ⟨_,_,hfree⟩:=ha
    refine (I.hok b ob e).stay (fun c w' hc q=>(hs.2 c ?_).trans q) (fun _ q=>q) fun _ _ q=>q
    rintro rfl
    rcases hc with rfl | hc
    · rw [hfree] at e; cases e
    · rw [hfree] at hc; cases hc
  rcases hx with hk | hk
  · refine wpAny_storeName_local hk hn (fun h' hn' hs=>?_) hcls
    obtain ⟨oL,_,_,hoL,_⟩:=id hn
    refine h _ ⟨I.ok,I.os,I.bare,⟨fun b o e n hb hx=>?_,fun b o e n hb hx=>?_,I.base.free,fun b o e hx=>?_,I.base.tups,I.base.frzs,I.base.tbls⟩,⟨_,hn',fun j y v' e1 e2 e3=>?_⟩,fun y c e=>?_,I.free,I.freeC,fun p hp=>?_,tracked ⟨oL,hoL,I.free⟩ hs,by simpa using I.len⟩ ⟨_,hs,.inl rfl⟩
    · exact (hs.2 b (Nat.ne_of_lt (Nat.lt_of_lt_of_le (Heap.lt_size e) I.ok.above))).trans (I.base.keep b o e n hb hx)
    · obtain ⟨sl,e1⟩:=I.base.slot b o e n hb hx
      exact ⟨sl,(hs.2 b (Nat.ne_of_lt (Nat.lt_of_lt_of_le (Heap.lt_size e) I.ok.above))).trans e1⟩
    · obtain ⟨o',e1⟩:=I.base.there b o e hx
      exact ⟨o',(hs.2 b (Nat.ne_of_lt (Nat.lt_of_lt_of_le (Heap.lt_size e) I.ok.above))).trans e1⟩
    · by_cases hj:j=i
      · subst hj
        rw [hi] at e1; cases e1
        rw [List.getElem?_set_self hiσ] at e2
        cases e2
        exact ⟨u,r,.inl ⟨hk,by simp⟩⟩
      · rw [List.getElem?_set_ne (Ne.symm hj)] at e2
        obtain ⟨u',r',q⟩:=hl j y v' e1 e2 e3
        refine ⟨u',r',?_⟩
        rcases q with ⟨k,e⟩ | ⟨k,c,e,z⟩
        · refine .inl ⟨k,?_⟩
          have:y≠x:=fun e=>hj (nodup_ix hN e1 (e ▸ hi))
          simp [this,e]
        · exact .inr ⟨k,c,e,z.sameBut hs (cne y c e)⟩
    · obtain ⟨w',z⟩:=I.cell y c e
      exact ⟨w',z.sameBut hs (cne y c e)⟩
    · obtain ⟨e,n,ne,nf,d⟩:=I.pin p hp
      exact ⟨(hs.2 p.1 ne).trans e,n,ne,nf,d⟩
  · have hfn:X.fn x=true:=by
      rcases hf with z | z
      · exact z
      · rw [z] at hk; cases hk
    obtain ⟨c,hc⟩:=I.ok.has x (.inl hk)
    obtain ⟨w',z⟩:=I.cell x c hc
    refine wpAny_storeName_cell I.ok.kind hk hc z (fun h' hc' hs=>?_)
    obtain ⟨oc,hoc,hocd⟩:=id z
    refine h { s with heap:=h' } ⟨I.ok,I.os,I.bare,⟨fun b o e n hb hx=>?_,fun b o e n hb hx=>?_,I.base.free,fun b o e hx=>?_,I.base.tups,I.base.frzs,I.base.tbls⟩,⟨m,hn.sameBut hs (Ne.symm (cne x c hc)),fun j y v' e1 e2 e3=>?_⟩,fun y c' e=>?_,I.free,I.freeC,fun p hp=>?_,tracked ⟨oc,hoc,I.freeC x c hc⟩ hs,by simpa using I.len⟩ ⟨c,hs,.inr hc⟩
    · exact (hs.2 b (Nat.ne_of_lt (Nat.lt_of_lt_of_le (Heap.lt_size e) (I.ok.cab x c hfn hc)))).trans (I.base.keep b o e n hb hx)
    · obtain ⟨sl,e1⟩:=I.base.slot b o e n hb hx
      exact ⟨sl,(hs.2 b (Nat.ne_of_lt (Nat.lt_of_lt_of_le (Heap.lt_size e) (I.ok.cab x c hfn hc)))).trans e1⟩
    · obtain ⟨o',e1⟩:=I.base.there b o e hx
      exact ⟨o',(hs.2 b (Nat.ne_of_lt (Nat.lt_of_lt_of_le (Heap.lt_size e) (I.ok.cab x c hfn hc)))).trans e1⟩
    · by_cases hj:j=i
      · subst hj
        rw [hi] at e1; cases e1
        rw [List.getElem?_set_self hiσ] at e2
        cases e2
        exact ⟨u,r,.inr ⟨.inl hk,c,hc,hc'⟩⟩
      · rw [List.getElem?_set_ne (Ne.symm hj)] at e2
        obtain ⟨u',r',q⟩:=hl j y v' e1 e2 e3
        refine ⟨u',r',?_⟩
        rcases q with q | ⟨k,c',e,z'⟩
        · exact .inl q
        · refine .inr ⟨k,c',e,z'.sameBut hs ?_⟩
          rintro rfl
          exact hj (nodup_ix hN e1 (I.ok.inj _ _ _ e hc ▸ hi))
    · by_cases hcc:c'=c
      · subst hcc; exact ⟨_,hc'⟩
      · obtain ⟨w2,z2⟩:=I.cell y c' e
        exact ⟨w2,z2.sameBut hs hcc⟩
    · obtain ⟨e,n,ne,nf,d⟩:=I.pin p hp
      refine ⟨(hs.2 p.1 ?_).trans e,n,ne,nf,d⟩
      intro q
      rw [q,hoc] at e
      have q':oc=p.2:=Option.some.inj e
      exact d w' (by rw [← q']; exact hocd)
theorem store_ok {M:Model} {A:Around} {E:Value→Shared→Prop} {i:Nat} {x:Str} {v:V} {u:Value} {Q:Unit→Shared→Prop} (I:Inv X pins σ H s) (hN:X.N.Nodup) (hi:X.N[i]?=some x) (hx:Loc X.env.scope x) (r:RelV v u)
    (h:∀ s',Inv X pins (σ.set i (some v)) H s'→Q () s') (hf:X.fn x=true∨X.env.scope.names.lookup x=some .local:=by first | exact .inl rfl | exact .inr rfl | assumption):wpAny M A (storeName X.env x u) Q E s :=
  store_ok2 I hN hi hx r (fun s' I' _=>h s' I') hf
theorem Inv.call' {s':Shared} {ch:List Addr} (I:Inv X pins σ H s) (ho:s'.os=s.os) (u:Un (frs X.stack) ch H H' s.heap s'.heap) (hok:HOk X.prog X.w H' s'.heap) (hg:AllBare s'.gens)
    (hch:∀ b ∈ ch,(b ∈ X.ex∨X.s_0.heap.objs.size≤b)∧b≠X.env.locals∧(∀ x c,X.env.cells.lookup x=some c→c≠b)∧∀ p ∈ X.pn ++ pins,p.1≠b):Inv X pins σ H' s':=by
  obtain ⟨h',g',d',t',o'⟩:=s'
  have e:o'=s.os:=ho
  subst e
  exact I.call (g':=g') (t':=t') (d':=d') u hok hg hch
end
abbrev XK:=Value→Option Addr→Hp→Prop
abbrev St:=List (Option V)
abbrev VK:=V→Hp→Prop
abbrev TE:=St→Hp→VK→Prop
abbrev TT:=St→Hp→(Bool→Hp→Prop)→Prop
abbrev TA:=St→Hp→(List V→Hp→Prop)→Prop
structure Ends where
  nx:St→Hp→Prop
  rt:VK
  bk:St→Hp→Prop:=fun _ _=>False
  ct:St→Hp→Prop:=fun _ _=>False
abbrev TS:=Ends→St→Hp→Prop
def EP (X:Cx) (pins:List (Addr × Obj)) (σ:St) (Q:VK) (u:Value) (s':Shared):Prop:=∃ v H',Inv X pins σ H' s'∧RelV v u∧Q v H'
def TP (X:Cx) (pins:List (Addr × Obj)) (σ:St) (Q:Bool→Hp→Prop) (b:Bool) (s':Shared):Prop:=∃ H',Inv X pins σ H' s'∧Q b H'
def AP (X:Cx) (pins:List (Addr × Obj)) (σ:St) (Q:List V→Hp→Prop) (us:List Value) (s':Shared):Prop:=∃ vs H',Inv X pins σ H' s'∧Vals vs us∧Q vs H'
def SP (X:Cx) (pins:List (Addr × Obj)) (D:Ends) (f:Flow) (s':Shared):Prop :=
  match f with
  | .next=>∃ σ' H',Inv X pins σ' H' s'∧D.nx σ' H'
  | .brk=>∃ σ' H',Inv X pins σ' H' s'∧D.bk σ' H'
  | .cont=>∃ σ' H',Inv X pins σ' H' s'∧D.ct σ' H'
  | .ret u=>∃ v σ' H',Inv X pins σ' H' s'∧RelV v u∧D.rt v H'
def PE (X:Cx) (e:Expr) (t:TE):Prop :=
  ∀ (pins:List (Addr × Obj)) (s:Shared) (σ:St) (H:Hp) (Q:VK),Inv X pins σ H s→t σ H Q→wpAny (model X.prog X.w) X.A (eval e X.env) (EP X pins σ Q) X.xe s
def PT (X:Cx) (e:Expr) (t:TT):Prop :=
  ∀ (pins:List (Addr × Obj)) (s:Shared) (σ:St) (H:Hp) (Q:Bool→Hp→Prop),Inv X pins σ H s→t σ H Q→wpAny (model X.prog X.w) X.A (isTrue e X.env (eval e X.env)) (TP X pins σ Q) X.xe s
def PW (X:Cx) (e:Expr) (t:TT):Prop :=
  ∀ (whole:Sem Value) (pins:List (Addr × Obj)) (s:Shared) (σ:St) (H:Hp) (Q:Bool→Hp→Prop),Inv X pins σ H s→t σ H Q→wpAny (model X.prog X.w) X.A (isTrue e X.env whole) (TP X pins σ Q) X.xe s
theorem PW.pt {X:Cx} {e:Expr} {t:TT} (h:PW X e t):PT X e t:=h _
def PA (X:Cx) (es:List Expr) (t:TA):Prop :=
  ∀ (pos:Pos) (pins:List (Addr × Obj)) (s:Shared) (σ:St) (H:Hp) (Q:List V→Hp→Prop),Inv X pins σ H s→t σ H Q→wpAny (model X.prog X.w) X.A (spliced (backTo pos (starEach es X.env))) (AP X pins σ Q) X.xe s
def PS (X:Cx) (st:Stmt) (t:TS):Prop :=
  ∀ (pins:List (Addr × Obj)) (s:Shared) (σ:St) (H:Hp) (D:Ends),Inv X pins σ H s→t D σ H→wpAny (model X.prog X.w) X.A (exec st X.env) (SP X pins D) X.xe s
def PSs (X:Cx) (st:List Stmt) (t:TS):Prop :=
  ∀ (pins:List (Addr × Obj)) (s:Shared) (σ:St) (H:Hp) (D:Ends),Inv X pins σ H s→t D σ H→wpAny (model X.prog X.w) X.A (execs st X.env) (SP X pins D) X.xe s
theorem thn {α:Type} {t:Sem α} {Q Q':α→Shared→Prop} {M:Model} {A:Around} {E:Value→Shared→Prop} {s:Shared} (h:wpAny M A t Q E s) (hQ:∀ a s,Q a s→Q' a s):wpAny M A t Q' E s:=wpAny_mono h hQ fun _ _ x=>x
end L2
namespace L2
open PySem PySem.Spec PyProof.Rows
section
variable {X:Cx}
theorem bin {a b:Expr} {ta tb:TE} (ha:PE X a ta) (hb:PE X b tb) {pins:List (Addr × Obj)} {s:Shared} {σ:St} {H:Hp} {R:V→V→Hp→Prop} (I:Inv X pins σ H s) (h:ta σ H fun x H1=>tb σ H1 fun y H2=>R x y H2)
    {α:Type} {Q:α→Shared→Prop} {f:Value→Value→Sem α}
    (hf:∀ v u s2 x y H2,Inv X pins σ H2 s2→RelV x v→RelV y u→R x y H2→wpAny (model X.prog X.w) X.A (f v u) Q X.xe s2) :
    wpAny (model X.prog X.w) X.A (eval a X.env) (fun v s₁=>wpAny (model X.prog X.w) X.A (eval b X.env) (fun u s₂=>wpAny (model X.prog X.w) X.A (f v u) Q X.xe s₂) X.xe s₁) X.xe s:=by
  refine thn (ha pins s σ H _ I h) fun v s1 ⟨x,H1,I1,r1,q1⟩=>?_
  refine thn (hb pins s1 σ H1 _ I1 q1) fun u s2 ⟨y,H2,I2,r2,q2⟩=>?_
  exact hf v u s2 x y H2 I2 r1 r2 q2
def tVar (i:Nat):TE:=fun σ H Q=>∃ v,σ[i]?=some (some v)∧Q v H
def tC (v:V):TE:=fun _ H Q=>Q v H
theorem pe_var {i:Nat} {x:Str} {pos:Pos} (hN:X.N[i]?=some x) (hv:Vis X.env.scope x) (hd:(x == ("__debug__":Str))=false:=by decide) (hcd:(x == ("__classdict__":Str))=false:=by decide):PE X (.Name x pos) (tVar i):=by
  intro pins s σ H Q I h
  obtain ⟨v,e,h⟩:=h
  obtain ⟨m,hn,hl⟩:=I.loc
  obtain ⟨u,r,l⟩:=hl i x v hN e hv
  have fin:EP X pins σ Q u s:=⟨v,H,I,r,h⟩
  rcases l with ⟨hk,hm⟩ | ⟨hk,c,hc,hcell⟩
  · exact wpAny_Name (wpAny_loadName_local I.ok.kind hk hn hm fin) hd
  · rcases hk with hk | hk
    · exact wpAny_Name (wpAny_loadName_cell I.ok.kind hk hc hcell fin) hd
    · exact wpAny_Name (wpAny_loadName_free I.ok.kind hk hc hcell fin hcd) hd
theorem pe_int {i j pos}:PE X (.Constant (.int i) j pos) (tC (.int i)):=fun _ _ _ H _ I h=>wpAny_Constant_int ⟨.int i,H,I.tok _,⟨_,rfl⟩,h⟩
theorem pe_bl {b j pos}:PE X (.Constant (.bool b) j pos) (tC (.bl b)):=fun _ _ _ H _ I h=>Constant_bool ⟨.bl b,H,I,rfl,h⟩
theorem pe_non {j pos}:PE X (.Constant .none j pos) (tC .non):=fun _ _ _ H _ I h=>Constant_none ⟨.non,H,I,rfl,h⟩
theorem pe_str {x j pos}:PE X (.Constant (.str x) j pos) (tC (.str x)):=fun _ _ _ H _ I h=>Calls.Constant_str ⟨.str x,H,I.tok _,⟨_,rfl⟩,h⟩
def Gl (X:Cx) (x:Str):Prop:=X.env.kindOf x=some .globalImplicit
theorem ld_glob {E:Value→Shared→Prop} {pins:List (Addr × Obj)} {s:Shared} {σ:St} {H:Hp} {x:Str} {u:Value} {pos:Pos} {Q:Value→Shared→Prop} (I:Inv X pins σ H s) (hg:Gl X x) (hm:X.mg x=some u) (h:Q u s)
    (hd:(x == ("__debug__":Str))=false:=by decide):wpAny (model X.prog X.w) X.A (eval (.Name x pos) X.env) Q E s :=
  Calls.Name_function_global I.ok.kind hg (Calls.loadGlobal_global (by rw [I.ok.glob]; exact I.mod.glob.keeps I.bk) hm h) hd
theorem ld_blt {E:Value→Shared→Prop} {pins:List (Addr × Obj)} {s:Shared} {σ:St} {H:Hp} {x:Str} {u:Value} {pos:Pos} {Q:Value→Shared→Prop} (I:Inv X pins σ H s) (hg:Gl X x) (hm:X.mg x=none) (hv:bootBuiltins x=some u) (h:Q u s)
    (hn:x≠"__name__":=by decide) (hd:(x == ("__debug__":Str))=false:=by decide):wpAny (model X.prog X.w) X.A (eval (.Name x pos) X.env) Q E s:=by
  obtain ⟨mb,h1,h2⟩:=I.mod.blt
  exact Calls.Name_function_global I.ok.kind hg (Calls.loadGlobal_builtin (by rw [I.ok.glob]; exact I.mod.glob.keeps I.bk) hm (by rw [I.ok.blt]; exact h1.keeps I.bk) ((h2 x hn).trans hv) h) hd
theorem pe_glob {x:Str} {v:V} {u:Value} {pos:Pos} (hg:Gl X x) (hm:X.mg x=some u) (r:RelV v u) (hd:(x == ("__debug__":Str))=false:=by decide):PE X (.Name x pos) (tC v) :=
  fun _ _ _ H _ I h=>ld_glob I hg hm ⟨v,H,I,r,h⟩ hd
variable {a b:Expr} {ta tb:TE} {pos:Pos}
def PC (X:Cx) (op:CmpOp) (a b:Expr) (t:TE):Prop :=
  ∀ (pins:List (Addr × Obj)) (s:Shared) (σ:St) (H:Hp) (Q:VK),Inv X pins σ H s→t σ H Q →
    wpAny (model X.prog X.w) X.A (eval a X.env) (fun v s₁=>wpAny (model X.prog X.w) X.A (eval b X.env) (fun u s₂=>wpAny (model X.prog X.w) X.A (compareOp op v u) (EP X pins σ Q) X.xe s₂) X.xe s₁) X.xe s
def tB (t:TE):TT:=fun σ H Q=>t σ H fun x H1=>∃ c,x=.bl c∧Q c H1
theorem pt_cmp {op:CmpOp} {t:TE} (h:PC X op a b t) (h1:behindInMarks op b=false:=by first | exact nobehind _ (by decide) (by decide) | rfl):PT X (.Compare a [op] [b] pos) (tB t):=by
  intro pins s σ H Q I hw
  refine wpAny_isTrue_Compare1 (thn (h pins s σ H _ I hw) fun v s1 h1=>thn h1 fun u s2 h2=>thn h2 fun c s3 ⟨x,H1,I1,r1,q1⟩=>?_) h1
  obtain ⟨d,rfl,q⟩:=q1
  cases r1
  exact wpAny_truthy_bool ⟨H1,I1,q⟩
theorem pt_val {e:Expr} {t:TE} (h:PE X e t) (he:∀ whole,isTrue e X.env whole=(do let v ← whole; standAt e.pos; holding [v] (truthy v)):=by intro _; rfl):PT X e (tB t):=by
  intro pins s σ H Q I hw
  refine isTrue_plain (thn (h pins s σ H _ I hw) fun v s1 ⟨x,H1,I1,r1,q1⟩=>?_) (he _)
  obtain ⟨d,rfl,q⟩:=q1
  cases r1
  exact wpAny_truthy_bool ⟨H1,I1,q⟩
variable {tA tB':TT} {rest:List Expr}
def tAnd (t u:TT):TT:=fun σ H Q=>t σ H fun c H1=>if c=true then u σ H1 Q else Q false H1
def tOr (t u:TT):TT:=fun σ H Q=>t σ H fun c H1=>if c=true then Q true H1 else u σ H1 Q
def tNot (t:TT):TT:=fun σ H Q=>t σ H fun c H1=>Q (!c) H1
theorem pw_and1 (ha:PT X a tA):PW X (.BoolOp .And [a] pos) tA:=by
  intro wh pins s σ H Q I h
  refine isTrue_and (thn (ha pins s σ H Q I h) fun c s1 e=>?_)
  cases c with
  | true=>exact isTrue_and_nil e
  | false=>exact e
theorem pw_or1 (ha:PT X a tA):PW X (.BoolOp .Or [a] pos) tA:=by
  intro wh pins s σ H Q I h
  refine isTrue_or (thn (ha pins s σ H Q I h) fun c s1 e=>?_)
  cases c with
  | false=>exact isTrue_or_nil e
  | true=>exact e
theorem pw_and (ha:PT X a tA) (hb:PW X (.BoolOp .And (b::rest) pos) tB'):PW X (.BoolOp .And (a::b::rest) pos) (tAnd tA tB'):=by
  intro wh pins s σ H Q I h
  refine isTrue_and (thn (ha pins s σ H _ I h) fun c s1 ⟨H1,I1,q1⟩=>?_)
  cases c with
  | true=>exact hb wh pins s1 σ H1 Q I1 q1
  | false=>exact ⟨H1,I1,q1⟩
theorem pw_or (ha:PT X a tA) (hb:PW X (.BoolOp .Or (b::rest) pos) tB'):PW X (.BoolOp .Or (a::b::rest) pos) (tOr tA tB'):=by
  intro wh pins s σ H Q I h
  refine isTrue_or (thn (ha pins s σ H _ I h) fun c s1 ⟨H1,I1,q1⟩=>?_)
  cases c with
  | true=>exact ⟨H1,I1,q1⟩
  | false=>exact hb wh pins s1 σ H1 Q I1 q1
theorem pt_not (ha:PT X a tA):PT X (.UnaryOp .Not a pos) (tNot tA):=by
  intro pins s σ H Q I h
  exact isTrue_not (ha pins s σ H (fun c H1=>Q (!c) H1) I h)
def tAndV (ta tb:TE):TE:=fun σ H Q=>ta σ H fun x H1=>∃ c,x=.bl c∧if c=true then tb σ H1 Q else Q (.bl false) H1
theorem pe_one {op} {t:TE} (h:PE X a t):PE X (.BoolOp op [a] pos) t:=fun pins s σ H Q I hw=>BoolOp_one (h pins s σ H Q I hw)
theorem pe_and (ha:PE X a ta) (hb:PE X (.BoolOp .And (b::rest) pos) tb):PE X (.BoolOp .And (a::b::rest) pos) (tAndV ta tb):=by
  intro pins s σ H Q I h
  refine BoolOp_and (thn (ha pins s σ H _ I h) fun v s1 ⟨x,H1,I1,r1,q1⟩=>?_)
  obtain ⟨c,rfl,q1⟩:=q1
  cases r1
  refine wpAny_truthy_bool ?_
  cases c with
  | true=>exact hb pins s1 σ H1 Q I1 q1
  | false=>exact ⟨.bl false,H1,I1,rfl,q1⟩
end
end L2
namespace L2
open PySem PySem.Spec PyProof.Rows
def SqL (K:PySem.W.Frag) (H:Hp) (a:Addr) (xs:List V):Prop :=
  Rd H a (.lst xs) ∨
    ∃ (o:Obj) (its:Array Value) (n:Nat),K.lookup a=some o∧o.cls=.type "list"∧o.dict=none∧o.data=.seq its n∧its.size≤sizeLine∧Vals xs its.toList
def SqT (K:PySem.W.Frag) (H:Hp) (a:Addr) (xs:List V):Prop :=
  Rd H a (.tup xs) ∨
    ∃ (o:Obj) (its:Array Value) (n:Nat),K.lookup a=some o∧o.cls=.type "tuple"∧o.data=.seq its n∧its.size≤sizeLine∧Vals xs its.toList
def absV:Value→Option V
  | .none=>some .non
  | .bool b=>some (.bl b)
  | .int i _=>some (.int i)
  | .str x _=>some (.str x)
  | .bytes b _=>some (.byt b)
  | .float b _=>some (.flt b)
  | .ref a=>some (.ref a)
  | .type n=>some (.ty n)
  | _=>none
theorem RelV.abs {x:V} {u:Value} (r:RelV x u):absV u=some x:=by
  cases x with
  | non=>cases r; rfl
  | bl _=>cases r; rfl
  | int _=>obtain ⟨t,rfl⟩:=r; rfl
  | str _=>obtain ⟨t,rfl⟩:=r; rfl
  | byt _=>obtain ⟨t,rfl⟩:=r; rfl
  | flt _=>obtain ⟨t,rfl⟩:=r; rfl
  | ref _=>cases r; rfl
  | ty _=>cases r; rfl
theorem RelV.inj {x y:V} {u:Value} (r:RelV x u) (q:RelV y u):x=y:=Option.some.inj (r.abs.symm.trans q.abs)
theorem Vals.inj:∀ {xs ys:List V} {us:List Value},Vals xs us→Vals ys us→xs=ys
  | _,_,_,.nil,.nil=>rfl
  | _,_,_,.cons r t,.cons r' t'=>by rw [r.inj r',Vals.inj t t']
section
variable {X:Cx} {pins:List (Addr × Obj)} {σ:St} {H:Hp} {s:Shared} {a:Addr} {xs ys:List V}
theorem SqL.of {K:PySem.W.Frag} (h:H a=some (.lst xs)):SqL K H a xs:=.inl (.inl h)
theorem SqT.of {K:PySem.W.Frag} (h:H a=some (.tup xs)):SqT K H a xs:=.inl (.inl h)
theorem Inv.list (I:Inv X pins σ H s) (h:SqL X.K H a xs):∃ its:List Value,Vals xs its∧PlainL s.heap a its.toArray∧xs.length≤sizeLine:=by
  rcases h with h | ⟨o,its,n,hk,hc,hd,hs,hz,r⟩
  · obtain ⟨z,its,n,r,e⟩:=h.ok I.hok
    exact ⟨its,r,⟨_,n,e,rfl,rfl,rfl⟩,z⟩
  · refine ⟨its.toList,r,⟨o,n,I.kIn a o hk,hc,hd,by simpa using hs⟩,?_⟩
    have e:=r.length
    simp only [Array.length_toList] at e
    omega
theorem Inv.tuple (I:Inv X pins σ H s) (h:SqT X.K H a xs):∃ its:List Value,Vals xs its∧IsTup s.heap a its.toArray∧xs.length≤sizeLine:=by
  rcases h with h | ⟨o,its,n,hk,hc,hs,hz,r⟩
  · obtain ⟨z,its,r,p⟩:=h.ok I.hok
    exact ⟨its,r,p,z⟩
  · refine ⟨its.toList,r,⟨o,I.kIn a o hk,hc,n,by simpa using hs⟩,?_⟩
    have e:=r.length
    simp only [Array.length_toList] at e
    omega
theorem Inv.list_inj (I:Inv X pins σ H s) (h:SqL X.K H a xs) (h':SqL X.K H a ys):xs=ys:=by
  obtain ⟨its,r,⟨o,n,e,_,_,d⟩,_⟩:=I.list h
  obtain ⟨its',r',⟨o',n',e',_,_,d'⟩,_⟩:=I.list h'
  rw [e] at e'; cases e'
  rw [d] at d'
  injection d' with d1 _
  have:its=its':=by simpa using congrArg Array.toList d1
  subst this
  exact r.inj r'
theorem Inv.tuple_inj (I:Inv X pins σ H s) (h:SqT X.K H a xs) (h':SqT X.K H a ys):xs=ys:=by
  obtain ⟨its,r,⟨o,e,_,n,d⟩,_⟩:=I.tuple h
  obtain ⟨its',r',⟨o',e',_,n',d'⟩,_⟩:=I.tuple h'
  rw [e] at e'; cases e'
  rw [d] at d'
  injection d' with d1 _
  have:its=its':=by simpa using congrArg Array.toList d1
  subst this
  exact r.inj r'
end
abbrev Cx.wish (X:Cx) (E:Value→Shared→Prop):Cx:={ X with xe:=E }
abbrev Cx.nox (X:Cx):Cx:=X.wish fun _ _=>False
theorem Cx.Ok.wish {X:Cx} (ok:X.Ok) (E:Value→Shared→Prop):(X.wish E).Ok :=
  ⟨ok.mod,ok.kind,ok.glob,ok.blt,ok.above,ok.inj,ok.has,ok.cab,ok.hd,ok.frames,ok.stk,ok.exf,ok.bs,ok.bsz,ok.noex,ok.exfs,ok.funs,ok.frf⟩
theorem Cx.Ok.unwish {X:Cx} {E:Value→Shared→Prop} (ok:(X.wish E).Ok):X.Ok :=
  ⟨ok.mod,ok.kind,ok.glob,ok.blt,ok.above,ok.inj,ok.has,ok.cab,ok.hd,ok.frames,ok.stk,ok.exf,ok.bs,ok.bsz,ok.noex,ok.exfs,ok.funs,ok.frf⟩
section
variable {X:Cx} {pins:List (Addr × Obj)} {σ:St} {H:Hp} {s:Shared} {E:Value→Shared→Prop}
theorem Inv.wish (I:Inv X pins σ H s) (E:Value→Shared→Prop):Inv (X.wish E) pins σ H s:=⟨I.ok.wish E,I.os,I.bare,I.base,I.loc,I.cell,I.free,I.freeC,I.pin,I.hok,I.len⟩
theorem Inv.unwish (I:Inv (X.wish E) pins σ H s):Inv X pins σ H s:=⟨I.ok.unwish,I.os,I.bare,I.base,I.loc,I.cell,I.free,I.freeC,I.pin,I.hok,I.len⟩
theorem SP.unwish {D:Ends} {f:Flow} {s':Shared} (h:SP (X.wish E) pins D f s'):SP X pins D f s':=by
  cases f with
  | next=>obtain ⟨σ',H',I,q⟩:=h; exact ⟨σ',H',I.unwish,q⟩
  | brk=>obtain ⟨σ',H',I,q⟩:=h; exact ⟨σ',H',I.unwish,q⟩
  | cont=>obtain ⟨σ',H',I,q⟩:=h; exact ⟨σ',H',I.unwish,q⟩
  | ret u=>obtain ⟨v,σ',H',I,r,q⟩:=h; exact ⟨v,σ',H',I.unwish,r,q⟩
theorem PSs.nox {st:List Stmt} {t:TS} (h:PSs X.nox st t):PSs X st t:=fun pins s σ H D I hw =>
  wpAny_mono (h pins s σ H D (I.wish _) hw) (fun _ _ q=>q.unwish) fun _ _ z=>False.elim z
end
section
variable {X:Cx} {st:Stmt} {rest:List Stmt} {t u:TS} {e:Expr} {te:TE} {pos:Pos}
def tNext:TS:=fun D σ H=>D.nx σ H
def tSeq (t u:TS):TS:=fun D σ H=>t { D with nx:=u D } σ H
theorem pss_nil:PSs X [] tNext:=fun _ _ σ H _ I h=>wpAny_execs_nil ⟨σ,H,I,h⟩
theorem pss_cons (h1:PS X st t) (h2:PSs X rest u):PSs X (st::rest) (tSeq t u):=by
  intro pins s σ H D I h
  refine wpAny_execs_cons (thn (h1 pins s σ H { D with nx:=u D } I h) fun f s1 q=>?_)
  cases f with
  | next =>
    obtain ⟨σ',H',I',q⟩:=q
    exact h2 pins s1 σ' H' D I' q
  | ret v=>exact q
  | brk=>exact q
  | cont=>exact q
theorem pss_one (h1:PS X st t):PSs X [st] t:=by
  intro pins s σ H D I h
  refine wpAny_execs_cons (thn (h1 pins s σ H D I h) fun f s1 q=>?_)
  cases f with
  | next=>exact wpAny_execs_nil q
  | ret v=>exact q
  | brk=>exact q
  | cont=>exact q
theorem Inv.quiet {pins:List (Addr × Obj)} {σ:St} {H:Hp} {s:Shared} (I:Inv X pins σ H s):interactive X.env=false:=by simp [interactive,I.ok.kind]
def tDrop (te:TE):TS:=fun D σ H=>te σ H fun _ H1=>D.nx σ H1
theorem ps_expr (he:PE X e te) (hs:swapsWith e none pos.line X.env=pure false:=by rfl):PS X (.Expr e pos) (tDrop te):=by
  intro pins s σ H D I h
  exact wpAny_Expr_any (thn (he pins s σ H _ I h) fun v s1 ⟨x,H1,I1,r1,q1⟩=>⟨σ,H1,I1,q1⟩) I.quiet hs
def tRet (te:TE):TS:=fun D σ H=>te σ H D.rt
theorem ps_ret (he:PE X e te):PS X (.Return (some e) pos) (tRet te):=by
  intro pins s σ H D I h
  exact wpAny_Return_some (thn (he pins s σ H _ I h) fun v s1 ⟨x,H1,I1,r1,q1⟩=>⟨x,σ,H1,I1,r1,q1⟩)
def tIfS (c:TT) (t u:TS):TS:=fun D σ H=>c σ H fun b H1=>if b=true then t D σ H1 else u D σ H1
theorem ps_if {c:Expr} {a b:List Stmt} {tc:TT} (hc:PT X c tc) (ha:PSs X a t) (hb:PSs X b u):PS X (.If c a b pos) (tIfS tc t u):=by
  intro pins s σ H D I h
  refine wpAny_If (thn (hc pins s σ H _ I h) fun d s1 ⟨H1,I1,q1⟩=>?_)
  cases d with
  | true=>exact ha pins s1 σ H1 D I1 q1
  | false=>exact hb pins s1 σ H1 D I1 q1
end
abbrev TG:=V→St→Hp→(St→Hp→Prop)→Prop
abbrev TGs:=List V→St→Hp→(St→Hp→Prop)→Prop
def PG (X:Cx) (target:Expr) (t:TG):Prop :=
  ∀ (pins:List (Addr × Obj)) (s:Shared) (σ:St) (H:Hp) (v:V) (u:Value) (Q:St→Hp→Prop),Inv X pins σ H s→RelV v u→t v σ H Q →
    wpAny (model X.prog X.w) X.A (assign target X.env u) (fun _ s'=>∃ σ' H',Inv X pins σ' H' s'∧Q σ' H') X.xe s
def PGs (X:Cx) (ts:List Expr) (t:TGs):Prop :=
  ∀ (pins:List (Addr × Obj)) (s:Shared) (σ:St) (H:Hp) (vs:List V) (us:List Value) (Q:St→Hp→Prop),Inv X pins σ H s→Vals vs us→t vs σ H Q →
    wpAny (model X.prog X.w) X.A (assignInOrder ((assignEach ts X.env).map (·.2)) us) (fun _ s'=>∃ σ' H',Inv X pins σ' H' s'∧Q σ' H') X.xe s
abbrev TIp:=V→V→Hp→VK→Prop
def PIp (X:Cx) (op:Operator) (t:TIp):Prop :=
  ∀ (pins:List (Addr × Obj)) (s:Shared) (σ:St) (H:Hp) (x y:V) (v u:Value) (Q:VK),Inv X pins σ H s→RelV x v→RelV y u→t x y H Q →
    wpAny (model X.prog X.w) X.A (inplaceOp op v u) (EP X pins σ Q) X.xe s
section
variable {X:Cx} {pos:Pos}
def gName (i:Nat):TG:=fun v σ H Q=>Q (σ.set i (some v)) H
theorem pg_name {i:Nat} {x:Str} (hN:X.N.Nodup) (hi:X.N[i]?=some x) (hx:Loc X.env.scope x) (hf:X.fn x=true∨X.env.scope.names.lookup x=some .local:=by first | exact .inl rfl | exact .inr rfl | assumption):PG X (.Name x pos) (gName i):=by
  intro pins s σ H v u Q I r h
  exact wpAny_assign_Name (store_ok I hN hi hx r (fun s' I'=>⟨_,H,I',h⟩) hf)
def gNil:TGs:=fun vs σ H Q=>vs=[]∧Q σ H
def gCons (t:TG) (u:TGs):TGs:=fun vs σ H Q=>∃ v r,vs=v::r∧t v σ H fun σ' H'=>u r σ' H' Q
theorem pgs_nil:PGs X [] gNil:=by
  intro pins s σ H vs us Q I r h
  obtain ⟨e,h⟩:=h
  subst e
  cases r
  exact assignInOrder_nil ⟨σ,H,I,h⟩
theorem pgs_cons {e:Expr} {es:List Expr} {t:TG} {u:TGs} (h1:PG X e t) (h2:PGs X es u)
    (hs:(assignEach (e::es) X.env).map (·.2)=assign e X.env::(assignEach es X.env).map (·.2):=by rfl):PGs X (e::es) (gCons t u):=by
  intro pins s σ H vs us Q I r h
  obtain ⟨v,vr,e1,h⟩:=h
  subst e1
  cases r with
  | cons r rr =>
    rw [hs]
    refine assignInOrder_cons (thn (h1 pins s σ H _ _ _ I r h) fun _ s1 ⟨σ1,H1,I1,q1⟩=>?_)
    exact h2 pins s1 σ1 H1 _ _ Q I1 rr q1
def gTup (K:PySem.W.Frag) (n:Nat) (t:TGs):TG:=fun v σ H Q=>∃ a xs,v=.ref a∧SqT K H a xs∧xs.length=n∧t xs σ H Q
theorem pg_tup {es:List Expr} {k:Nat} {t:TGs} {n:Nat} (hc:X.calm=true) (h:PGs X es t)
    (hn:(assignEach es X.env).length=n:=by rfl) (hst:(assignEach es X.env).findIdx? (·.1)=none:=by rfl):PG X (.Tuple es k pos) (gTup X.K n t):=by
  intro pins s σ H v u Q I r hw
  obtain ⟨a,xs,e1,hq,hl,hw⟩:=hw
  subst e1
  cases r
  obtain ⟨its,rv,ht,hz⟩:=I.tuple hq
  refine assign_Tuple_tuple (I.ok.hd hc) ht (by simp [hn,← hl,rv.length]) hst fun h' hx=>?_
  have I1:Inv X pins σ H { s with heap:=h' }:=I.kept (t':=s.toks) fun b o e=>hx b o (Nat.ne_of_lt (Heap.lt_size e)) e
  exact h pins _ σ H xs _ Q I1 (by simpa using rv) hw
def tAsg (te:TE) (g:TG):TS:=fun D σ H=>te σ H fun x H1=>g x σ H1 D.nx
theorem ps_set {i:Nat} {x:Str} {e:Expr} {te:TE} {pos':Pos} (hN:X.N.Nodup) (hi:X.N[i]?=some x) (hx:Loc X.env.scope x) (he:PE X e te) (hs:swapsWith e (some (.Name x pos')) pos.line X.env=pure false:=by rfl) (hf:X.fn x=true∨X.env.scope.names.lookup x=some .local:=by first | exact .inl rfl | exact .inr rfl | assumption) :
    PS X (.Assign [.Name x pos'] e pos) (tAsg te (gName i)):=by
  intro pins s σ H D I h
  refine wpAny_Assign_Name (thn (he pins s σ H _ I h) fun v s1 ⟨y,H1,I1,r1,q1⟩=>?_) hs
  exact store_ok I1 hN hi hx r1 (fun s2 I2=>⟨_,H1,I2,q1⟩) hf
def tAug (i:Nat) (te:TE) (ti:TIp):TS:=fun D σ H=>∃ x,σ[i]?=some (some x)∧te σ H fun y H1=>ti x y H1 fun z H2=>D.nx (σ.set i (some z)) H2
theorem ps_aug {i:Nat} {x:Str} {e:Expr} {te:TE} {op:Operator} {ti:TIp} {pos':Pos} (hN:X.N.Nodup) (hi:X.N[i]?=some x) (hx:Loc X.env.scope x) (he:PE X e te) (ho:PIp X op ti) (hf:X.fn x=true∨X.env.scope.names.lookup x=some .local:=by first | exact .inl rfl | exact .inr rfl | assumption) :
    PS X (.AugAssign (.Name x pos') op e pos) (tAug i te ti):=by
  intro pins s σ H D I h
  obtain ⟨v,e1,h⟩:=h
  obtain ⟨m,hn,hl⟩:=I.loc
  have vis:Vis X.env.scope x:=by rcases hx with k | k; exact .inl k; exact .inr (.inl k)
  obtain ⟨u,r,l⟩:=hl i x v hi e1 vis
  refine wpAny_AugAssign_Name ?_
  have go:wpAny (model X.prog X.w) X.A (eval e X.env) (fun w s₂=>wpAny (model X.prog X.w) X.A (inplaceOp op u w) (fun r s₃=>wpAny (model X.prog X.w) X.A (storeName X.env x r) (fun _=>SP X pins D .next) X.xe s₃) X.xe s₂) X.xe s:=by
    refine thn (he pins s σ H _ I h) fun w s1 ⟨y,H1,I1,r1,q1⟩=>?_
    refine thn (ho pins s1 σ H1 v y u w _ I1 r r1 q1) fun z s2 ⟨zv,H2,I2,r2,q2⟩=>?_
    exact store_ok I2 hN hi hx r2 (fun s3 I3=>⟨_,H2,I3,q2⟩) hf
  rcases l with ⟨hk,hm⟩ | ⟨hk,c,hc,hcell⟩
  · exact wpAny_loadName_local I.ok.kind hk hn hm go
  · rcases hk with hk | hk
    · exact wpAny_loadName_cell I.ok.kind hk hc hcell go
    · rcases hx with k | k
      · have:X.env.scope.names.lookup x=some .free:=hk
        rw [k] at this; cases this
      · have:X.env.scope.names.lookup x=some .free:=hk
        rw [k] at this; cases this
def ipI (f:Int→Int→Int):TIp:=fun x y H Q=>∃ i j,x=.int i∧y=.int j∧Q (.int (f i j)) H
theorem ip_add:PIp X .Add (ipI fun i j=>i + j):=by
  intro pins s σ H x y v u Q I r1 r2 h
  obtain ⟨i,j,e1,e2,q⟩:=h
  subst e1; subst e2
  obtain ⟨t,rfl⟩:=r1
  obtain ⟨t',rfl⟩:=r2
  exact iadd_int ⟨.int _,H,I.tok _,⟨_,rfl⟩,q⟩
theorem ip_sub:PIp X .Sub (ipI fun i j=>i - j):=by
  intro pins s σ H x y v u Q I r1 r2 h
  obtain ⟨i,j,e1,e2,q⟩:=h
  subst e1; subst e2
  obtain ⟨t,rfl⟩:=r1
  obtain ⟨t',rfl⟩:=r2
  exact isub_int ⟨.int _,H,I.tok _,⟨_,rfl⟩,q⟩
end
section
variable {X:Cx} {pos:Pos}
def tWhile (c:TT) (tb:TS):TS:=fun D σ H=>∃ W:Nat→St→Hp→Prop,(∃ m,W m σ H)∧∀ m σ H,W m σ H →
  c σ H fun b H1=>if b=true then ∃ N:St→Hp→Prop,(∀ σ' H',N σ' H'→∃ m',m' < m∧W m' σ' H')∧tb { D with nx:=N,ct:=N,bk:=D.nx } σ H1 else D.nx σ H1
theorem ps_while {c:Expr} {body:List Stmt} {tc:TT} {tb:TS} (hp:PassesOwn (model X.prog X.w) X.A X.env X.xe) (hc:PT X c tc) (hb:PSs X body tb):PS X (.While c body [] pos) (tWhile tc tb):=by
  intro pins s σ H D I h
  obtain ⟨W,⟨m0,w0⟩,turn⟩:=h
  refine wpAny_While (codeAny_whileLoop (fun n s'=>∃ σ' H',Inv X pins σ' H' s'∧W n σ' H') ?_ m0 ⟨σ,H,I,w0⟩)
  rintro n s1 ⟨σ1,H1,I1,w1⟩
  refine wpAny_passesOwn hp (thn (hc pins s1 σ1 H1 _ I1 (turn n σ1 H1 w1)) fun b s2 ⟨H2,I2,q2⟩=>?_)
  cases b with
  | true =>
    obtain ⟨N,hN,q2⟩:=q2
    rw [if_pos rfl]
    refine wpAny_passesOwn hp (thn (hb pins s2 σ1 H2 _ I2 q2) fun f s3 q3=>?_)
    cases f with
    | next =>
      obtain ⟨σ3,H3,I3,n3⟩:=q3
      obtain ⟨m',hm,w3⟩:=hN σ3 H3 n3
      exact ⟨m',hm,σ3,H3,I3,w3⟩
    | cont =>
      obtain ⟨σ3,H3,I3,n3⟩:=q3
      obtain ⟨m',hm,w3⟩:=hN σ3 H3 n3
      exact ⟨m',hm,σ3,H3,I3,w3⟩
    | brk=>exact q3
    | ret v=>exact q3
  | false =>
    rw [if_neg Bool.false_ne_true]
    exact wpAny_execs_nil ⟨σ1,H2,I2,q2⟩
end
structure It where
  go:Nat→Hp→Prop
  yld:Nat→Hp→V→Hp→Prop
  stop:Nat→Hp→Prop
def FpOk (X:Cx) (pins:List (Addr × Obj)) (H:Hp) (b:Addr):Prop :=
  H b=none∧b≠X.env.locals∧b ∉ X.fs∧(b ∈ X.ex∨X.s_0.heap.objs.size≤b)∧(∀ x c,X.env.cells.lookup x=some c→c≠b)∧∀ p ∈ X.pn ++ pins,p.1≠b
theorem Inv.fpOk {X:Cx} {pins:List (Addr × Obj)} {σ:St} {H H':Hp} {s:Shared} {b:Addr} (I:Inv X pins σ H s) (hb:s.heap.objs.size≤b) (hn:H' b=none):FpOk X pins H' b:=by
  refine ⟨hn,Nat.ne_of_gt (Nat.lt_of_lt_of_le I.lt hb),I.nofs hb,.inr (Nat.le_trans I.sz hb),fun x c e z=>?_,fun p hp z=>?_⟩
  · obtain ⟨v,q⟩:=I.cell x c e
    exact absurd (Nat.lt_of_lt_of_le q.lt (by rw [z]; exact hb)) (Nat.lt_irrefl _)
  · exact absurd (Nat.lt_of_lt_of_le (Heap.lt_size (I.pin p hp).1) (by rw [z]; exact hb)) (Nat.lt_irrefl _)
structure Turn (P:Program) (w:World) (K:PySem.W.Frag) (tg:Expr) (J:It) (fp:List Addr) (it:Addr) (tn:Nat→Heap→Prop):Prop where
  mem:it ∈ fp
  obj:∀ i h,tn i h→∀ b ∈ fp,∃ o,h.get? b=some o∧∀ v,o.data≠.cell v
  keep:∀ i h h',tn i h→(∀ b ∈ fp,∀ o,h.get? b=some o→h'.get? b=some o)→tn i h'
  item:∀ (X:Cx),X.prog=P→X.w=w→X.K=K→X.calm=true→∀ (i:Nat) (pins:List (Addr × Obj)) (s:Shared) (σ:St) (H:Hp) (E:Value→Shared→Prop),Inv X pins σ H s→(∀ b ∈ fp,FpOk X pins H b)→tn i s.heap→J.go i H →
    wpAny (model P w) X.A (pyNext (.ref it)) (fun r s1=>∃ u,r=some u ∧
      wpAny (model P w) X.A (letOwnedTupleGo tg (.ref it) u) (fun _ s2=>∃ x H',Inv X pins σ H' s2∧RelV x u∧J.yld i H x H'∧tn (i + 1) s2.heap∧∀ b ∈ fp,H' b=none) E s1) E s
  done:∀ (X:Cx),X.prog=P→X.w=w→X.K=K→X.calm=true→∀ (i:Nat) (pins:List (Addr × Obj)) (s:Shared) (σ:St) (H:Hp) (E:Value→Shared→Prop),Inv X pins σ H s→(∀ b ∈ fp,FpOk X pins H b)→tn i s.heap→J.stop i H →
    wpAny (model P w) X.A (pyNext (.ref it)) (fun r s1=>r=none∧Inv X pins σ H s1) E s
  self:∀ (A:Around) (i:Nat) (s:Shared) (Q:Value→Shared→Prop) (E:Value→Shared→Prop),tn i s.heap→Q (.ref it) s→wpAny (model P w) A (pyIter (.ref it)) Q E s
abbrev TI:=St→Hp→(It→Hp→Prop)→Prop
def PIE (X:Cx) (pins:List (Addr × Obj)) (σ:St) (tg:Expr) (R:It→Hp→Prop) (itv:Value) (s2:Shared):Prop :=
  ∃ (it:Addr) (fp:List Addr) (tn:Nat→Heap→Prop) (J:It) (H':Hp),itv=.ref it∧Inv X pins σ H' s2∧Turn X.prog X.w X.K tg J fp it tn∧tn 0 s2.heap∧(∀ b ∈ fp,FpOk X pins H' b)∧R J H'
def PI (X:Cx) (tg iter:Expr) (wi:TI):Prop :=
  ∀ (pins:List (Addr × Obj)) (s:Shared) (σ:St) (H:Hp) (R:It→Hp→Prop),Inv X pins σ H s→wi σ H R →
    wpAny (model X.prog X.w) X.A (eval iter X.env) (fun v s1=>wpAny (model X.prog X.w) X.A (pyIter v) (PIE X pins σ tg R) X.xe s1) X.xe s
theorem go_of {M:Model} {A:Around} {E:Value→Shared→Prop} {s:Shared} {tg:Expr} {it:Addr} {u:Value} {o:Obj} {n:String} {vs:Array Value} {Q:Unit→Shared→Prop} (ho:s.heap.get? it=some o) (hc:o.cls=.type n) (hd:o.data=.fields vs)
    (hn:["enumerate","zip","dict_itemiterator","dict_reverseitemiterator","odict_iterator","itertools.zip_longest","itertools.pairwise"].contains n=false) (hQ:Q () s):wpAny M A (letOwnedTupleGo tg (.ref it) u) Q E s:=by
  unfold letOwnedTupleGo
  cases tg <;> first
    | exact wpAny_pure hQ
    | (cases u <;> first
        | exact wpAny_pure hQ
        | (refine wpAny_bind (wpAny_load ho ?_)
           rw [hc,hd]
           show wpAny M A (if (["enumerate","zip","dict_itemiterator","dict_reverseitemiterator","odict_iterator","itertools.zip_longest","itertools.pairwise"].contains n && vs[0]? == some (rawInt _))=true then _ else _) Q E s
           rw [if_neg (by intro h; rw [hn,Bool.false_and] at h; cases h)]
           exact wpAny_pure hQ))
def Itl (K:PySem.W.Frag) (a:Addr):It :=
  ⟨fun i H=>∃ xs x,SqL K H a xs∧xs[i]?=some x,fun i H x H'=>H'=H∧∀ xs,SqL K H a xs→xs[i]?=some x,fun i H=>∃ xs,SqL K H a xs∧xs.length≤i⟩
def Itr (lo:Int) (n:Nat):It:=⟨fun i _=>i < n,fun i H x H'=>H'=H∧x=.int (lo + i),fun i _=>n≤i⟩
theorem turn_list {P:Program} {w:World} {K:PySem.W.Frag} {tg:Expr} (a it:Addr):Turn P w K tg (Itl K a) [it] it (fun i h=>h.IsListIter it a i) where
  mem:=by simp
  obj:=fun i h st b hb=>by
    have e:b=it:=by simpa using hb
    subst e
    obtain ⟨o,e,c,d⟩:=st
    exact ⟨o,e,fun v z=>by rw [d] at z; cases z⟩
  keep:=fun i h h' st k=>st.at fun o e=>k it (by simp) o e
  item:=by
    intro X hP hw hK hc i pins s σ H E I hf st hg
    subst hP hw hK
    obtain ⟨xs,x,hq,hx⟩:=hg
    obtain ⟨its,rv,p,hz⟩:=I.list hq
    obtain ⟨u,hu,ru⟩:=rv.get hx
    obtain ⟨f0,f1,f2,f3,f4,f5⟩:=hf it (by simp)
    refine wpAny_pyNext_list_item st p.isList (x:=u) (by simpa using hu) fun h' st' sb=>?_
    have I1:Inv X pins σ H { s with heap:=h' }:=I.turned (t':=s.toks) (fun b o hb e=>(sb.2 b hb).trans e) f0 f1 f3 f4 f5
    obtain ⟨o,e,c,d⟩:=id st'
    exact ⟨u,rfl,go_of (s:={ s with heap:=h' }) e c d (by decide) ⟨x,H,I1,ru,⟨rfl,fun ys hy=>by rw [I.list_inj hy hq]; exact hx⟩,st',fun b hb=>(hf b hb).1⟩⟩
  done:=by
    intro X hP hw hK hc i pins s σ H E I hf st hg
    subst hP hw hK
    obtain ⟨xs,hq,hx⟩:=hg
    obtain ⟨its,rv,p,hz⟩:=I.list hq
    obtain ⟨f0,f1,f2,f3,f4,f5⟩:=hf it (by simp)
    have hl:=rv.length
    exact wpAny_pyNext_list_end (I.ok.hd hc) st p.isList (by simp; omega) fun h' eb=>⟨rfl,I.turned (t':=s.toks) (fun b o hb e=>eb b o hb e) f0 f1 f3 f4 f5⟩
  self:=fun _ _ _ _ _ st h=>wpAny_pyIter_listiter st h
theorem turn_range {P:Program} {w:World} {K:PySem.W.Frag} {tg:Expr} (it:Addr) (lo:Int) (n:Nat):Turn P w K tg (Itr lo n) [it] it (fun i h=>IsRangeIter h it (lo + (i:Nat) * 1) ((n:Int) - (i:Nat)) 1) where
  mem:=by simp
  obj:=fun i h st b hb=>by
    have e:b=it:=by simpa using hb
    subst e
    exact ⟨_,st,fun v z=>by
      have z':Data.fields _=Data.cell v:=z
      cases z'⟩
  keep:=fun i h h' st k=>k it (by simp) _ st
  item:=by
    intro X hP hw hK hc i pins s σ H E I hf st hg
    subst hP hw hK
    obtain ⟨f0,f1,f2,f3,f4,f5⟩:=hf it (by simp)
    have W:=Walks.range (prog:=X.prog) (w:=X.w) (I.ok.hd hc) it lo 1 n
    refine W.item i s _ _ hg st fun v h' tk hv st' kk=>?_
    obtain ⟨t,rfl⟩:=hv
    have I1:Inv X pins σ H { s with heap:=h',toks:=tk }:=I.turned (fun b o hb e=>kk b o (by simpa using hb) e) f0 f1 f3 f4 f5
    refine ⟨_,rfl,go_of (s:={ s with heap:=h',toks:=tk }) (n:="range_iterator") st' rfl rfl (by decide) ⟨.int (lo + i),H,I1,⟨t,?_⟩,⟨rfl,rfl⟩,st',fun b hb=>(hf b hb).1⟩⟩
    rw [Int.mul_one]
  done:=by
    intro X hP hw hK hc i pins s σ H E I hf st hg
    subst hP hw hK
    obtain ⟨f0,f1,f2,f3,f4,f5⟩:=hf it (by simp)
    exact wpAny_pyNext_range_end (I.ok.hd hc) st (by have:n≤i:=hg; omega) fun h' eb=>⟨rfl,I.turned (t':=s.toks) (fun b o hb e=>eb b o hb e) f0 f1 f3 f4 f5⟩
  self:=fun _ _ _ _ _ st h=>wpAny_pyIter_rangeiter st h
end L2
namespace L2
open PySem PySem.Spec PyProof.Rows
section
variable {X:Cx} {tg:Expr}
def iList (K:PySem.W.Frag) (tl:TE):TI:=fun σ H R=>tl σ H fun x H1=>∃ a,x=.ref a∧(∃ xs,SqL K H1 a xs)∧R (Itl K a) H1
theorem pi_list {l:Expr} {tl:TE} (hl:PE X l tl):PI X tg l (iList X.K tl):=by
  intro pins s σ H R I h
  refine thn (hl pins s σ H _ I h) fun v s1 ⟨x,H1,I1,r1,q1⟩=>?_
  obtain ⟨a,e,⟨xs,hq⟩,q⟩:=q1
  subst e
  cases r1
  obtain ⟨its,rv,p,hz⟩:=I1.list hq
  refine wpAny_pyIter_list p.isList ?_
  refine ⟨s1.heap.objs.size,[s1.heap.objs.size],_,_,H1,rfl,I1.kept (t':=s1.toks) fun b o e=>Heap.get?_push_of_some _ e,turn_list a _,⟨_,Heap.get?_push_size _ rfl,rfl,rfl⟩,fun b hb=>?_,q⟩
  have e:b=s1.heap.objs.size:=by simpa using hb
  subst e
  exact I1.fpOk (Nat.le_refl _) (I1.hok.fresh (Nat.le_refl _))
theorem range_it {pins:List (Addr × Obj)} {σ:St} {H:Hp} {s:Shared} {R:It→Hp→Prop} {E:Value→Shared→Prop} {lo hi:Int} {t u v:Tok} {tk:Nat} (I:Inv X pins σ H s) (h1:-(2 ^ 62)≤lo) (h2:lo < 2 ^ 62) (h3:-(2 ^ 62)≤hi) (h4:hi < 2 ^ 62)
    (q:R (Itr lo (hi - lo).toNat) H):wpAny (model X.prog X.w) X.A (pyIter (.ref s.heap.objs.size)) (PIE X pins σ tg R) E { s with heap:=s.heap.push { cls:=.type "range",data:=.fields #[.int lo t,.int hi u,.int 1 v] },toks:=tk }:=by
  refine wpAny_pyIter_range (IsRange.new ..) (small_one h1 h2 h3 h4) ?_
  have I1:Inv X pins σ H { s with heap:=s.heap.push { cls:=.type "range",data:=.fields #[.int lo t,.int hi u,.int 1 v] },toks:=tk }:=I.kept fun b o e=>Heap.get?_push_of_some _ e
  refine ⟨(s.heap.push { cls:=.type "range",data:=.fields #[.int lo t,.int hi u,.int 1 v] }).objs.size,[(s.heap.push { cls:=.type "range",data:=.fields #[.int lo t,.int hi u,.int 1 v] }).objs.size],_,_,H,rfl,
    I1.kept (t':=tk) fun b o e=>Heap.get?_push_of_some _ e,turn_range _ lo (hi - lo).toNat,?_,fun b hb=>?_,q⟩
  · have e1:lo + ((0:Nat):Int) * 1=lo:=by simp
    have e2:(((hi - lo).toNat:Nat):Int) - ((0:Nat):Int)=Builtin.Range.rangeSize lo hi 1:=by rw [rangeSize_one]; split <;> omega
    show IsRangeIter _ _ (lo + ((0:Nat):Int) * 1) ((((hi - lo).toNat:Nat):Int) - ((0:Nat):Int)) 1
    rw [e1,e2]
    exact Heap.get?_push_size _ rfl
  · have e:b=(s.heap.push { cls:=.type "range",data:=.fields #[.int lo t,.int hi u,.int 1 v] }).objs.size:=by simpa using hb
    subst e
    exact I1.fpOk (Nat.le_refl _) (I1.hok.fresh (Nat.le_refl _))
def iRng1 (ta:TA):TI:=fun σ H R=>ta σ H fun vs H1=>∃ j:Int,vs=[.int j]∧-(2 ^ 62)≤j∧j < 2 ^ 62∧R (Itr 0 j.toNat) H1
theorem pi_range1 {a:Expr} {ta:TA} {p pos:Pos} (hg:Gl X "range") (hm:X.mg "range" = none) (ha:PA X [a] ta) (hs:starEach [a] X.env=[(false,eval a X.env)]:=by rfl):PI X tg (.Call (.Name "range" p) [a] [] pos) (iRng1 ta):=by
  intro pins s σ H R I h
  refine Call_ (ld_blt I hg hm boot_range (PyProof.Rows.callWith_type1 (thn (ha pos pins s σ H _ I h) fun us s1 ⟨vs,H1,I1,r1,q1⟩=>?_) hs rfl))
  obtain ⟨j,e,q1,q2,q⟩:=q1
  subst e
  cases r1 with
  | cons r rr =>
    cases rr
    obtain ⟨t,rfl⟩:=r
    exact call_range_1 (range_it I1 (by omega) (by omega) q1 q2 (by simpa using q))
def tFor (wi:TI) (g:TG) (tb:TS):TS:=fun D σ H=>wi σ H fun J H1=>∃ W:Nat→Nat→St→Hp→Prop,(∃ m,W 0 m σ H1)∧∀ i m σ H,W i m σ H →
  (J.stop i H∧D.nx σ H)∨(J.go i H∧∃ N:St→Hp→Prop,(∀ σ' H',N σ' H'→∃ m',m' < m∧W (i + 1) m' σ' H')∧∀ x H',J.yld i H x H'→g x σ H' fun σ2 H2=>tb { D with nx:=N,ct:=N,bk:=D.nx } σ2 H2)
def pinsAt (fp:List Addr) (h:Heap):List (Addr × Obj):=fp.filterMap fun b=>(h.get? b).map fun o=>(b,o)
theorem mem_pinsAt {fp:List Addr} {h:Heap} {b:Addr} {o:Obj} (hb:b ∈ fp) (e:h.get? b=some o):(b,o) ∈ pinsAt fp h:=List.mem_filterMap.mpr ⟨b,hb,by rw [e]; rfl⟩
theorem of_pinsAt {fp:List Addr} {h:Heap} {p:Addr × Obj} (hp:p ∈ pinsAt fp h):p.1 ∈ fp∧h.get? p.1=some p.2:=by
  obtain ⟨b,hb,e⟩:=List.mem_filterMap.mp hp
  cases q:h.get? b with
  | none=>rw [q] at e; cases e
  | some o =>
    rw [q] at e
    have e':(b,o)=p:=Option.some.inj e
    subst e'
    exact ⟨hb,q⟩
theorem Inv.pinned {pins:List (Addr × Obj)} {σ:St} {H:Hp} {s:Shared} {fp:List Addr} (I:Inv X pins σ H s) (hf:∀ b ∈ fp,FpOk X pins H b) (ho:∀ b ∈ fp,∃ o,s.heap.get? b=some o∧∀ v,o.data≠.cell v):Inv X (pins ++ pinsAt fp s.heap) σ H s :=
  I.pins_of fun p hp=>(List.mem_append.mp hp).elim (fun z=>I.pin p (List.mem_append_right _ z)) fun z=>by
    obtain ⟨hb,e⟩:=of_pinsAt z
    obtain ⟨f0,f1,f2,_⟩:=hf p.1 hb
    obtain ⟨o,e',d⟩:=ho p.1 hb
    rw [e] at e'; cases e'
    exact ⟨e,f0,f1,f2,d⟩
theorem Inv.unpinned {pins pl:List (Addr × Obj)} {σ:St} {H:Hp} {s:Shared} (I:Inv X (pins ++ pl) σ H s):Inv X pins σ H s:=I.pins_of fun p hp=>I.pin p (List.mem_append_right _ (List.mem_append_left _ hp))
theorem ps_for {iter:Expr} {body:List Stmt} {wi:TI} {g:TG} {tb:TS} {pos:Pos} (hp:PassesOwn (model X.prog X.w) X.A X.env X.xe) (hc:X.calm=true) (hi:PI X tg iter wi) (hg:PG X tg g) (hb:PSs X body tb)
    (hs:∀ x,foldedSetIterable iter X.env x=pure x:=by intro _; rfl):PS X (.For tg iter body [] pos) (tFor wi g tb):=by
  intro pins s σ H D I h
  refine wpAny_For (thn (hi pins s σ H _ I h) fun v s1 h1=>thn h1 fun itv s2 h2=>?_) hs
  obtain ⟨it,fp,tn,J,H2,e,I2,T,st2,f2,W,⟨m0,w0⟩,turn⟩:=h2
  subst e
  -- what stays true of the iterator's objects through the loop
  have stat:∀ {H':Hp},(∀ b ∈ fp,H' b=none)→∀ b ∈ fp,FpOk X pins H' b:=fun hn b hb=>⟨hn b hb,(f2 b hb).2⟩
  refine codeAny_forLoop_any (fun n s'=>∃ i σ' H',Inv X pins σ' H' s'∧tn i s'.heap∧(∀ b ∈ fp,H' b=none)∧W i n σ' H') ?_ m0 ⟨0,σ,H2,I2,st2,fun b hb=>(f2 b hb).1,w0⟩
  rintro n s3 ⟨i,σ3,H3,I3,st3,fr3,w3⟩
  rcases turn i n σ3 H3 w3 with ⟨stop,qn⟩ | ⟨go,N,hN,step⟩
  · refine wpAny_passesOwn hp (thn (T.done X rfl rfl rfl hc i pins s3 σ3 H3 X.xe I3 (stat fr3) st3 stop) fun r s4 ⟨hr,I4⟩=>?_)
    subst hr
    exact wpAny_execs_nil ⟨σ3,H3,I4,qn⟩
  · refine wpAny_passesOwn hp (thn (T.item X rfl rfl rfl hc i pins s3 σ3 H3 X.xe I3 (stat fr3) st3 go) fun r s4 ⟨u,hr,h4⟩=>?_)
    subst hr
    refine wpAny_passesOwn hp (thn h4 fun _ s5 ⟨x,H5,I5,r5,y5,st5,fr5⟩=>?_)
    have I5':=I5.pinned (stat fr5) (T.obj _ _ st5)
    refine wpAny_passesOwn hp (thn (hg _ s5 σ3 H5 x u _ I5' r5 (step x H5 y5)) fun _ s6 ⟨σ6,H6,I6,q6⟩=>?_)
    refine wpAny_passesOwn hp (thn (hb _ s6 σ6 H6 _ I6 q6) fun f s7 q7=>?_)
    have again:∀ {σ7:St} {H7:Hp},Inv X (pins ++ pinsAt fp s5.heap) σ7 H7 s7→N σ7 H7→∃ m,m < n∧∃ i σ' H',Inv X pins σ' H' s7∧tn i s7.heap∧(∀ b ∈ fp,H' b=none)∧W i m σ' H':=fun {σ7 H7} I7 n7=>by
      obtain ⟨m',hm,w7⟩:=hN σ7 H7 n7
      refine ⟨m',hm,i + 1,σ7,H7,I7.unpinned,T.keep _ _ _ st5 fun b hb o e=>(I7.pin (b,o) (List.mem_append_right _ (List.mem_append_right _ (mem_pinsAt hb e)))).1,fun b hb=>?_,w7⟩
      obtain ⟨o,e,d⟩:=T.obj _ _ st5 b hb
      exact (I7.pin (b,o) (List.mem_append_right _ (List.mem_append_right _ (mem_pinsAt hb e)))).2.1
    cases f with
    | next=>obtain ⟨σ7,H7,I7,n7⟩:=q7; exact again I7 n7
    | cont=>obtain ⟨σ7,H7,I7,n7⟩:=q7; exact again I7 n7
    | brk=>obtain ⟨σ7,H7,I7,q7⟩:=q7; exact ⟨σ7,H7,I7.unpinned,q7⟩
    | ret v=>obtain ⟨x7,σ7,H7,I7,r7,q7⟩:=q7; exact ⟨x7,σ7,H7,I7.unpinned,r7,q7⟩
end
theorem for_list {K:PySem.W.Frag} {a:Addr} {xs:List V} {g:TG} {tb:TS} {D:Ends} {σ:St} {H:Hp} (Pv:Nat→St→Hp→Prop) (h0:Pv 0 σ H) (hl:∀ i σ H,i≤xs.length→Pv i σ H→SqL K H a xs)
    (hs:∀ i x σ H,xs[i]?=some x→Pv i σ H→g x σ H fun σ2 H2=>tb { D with nx:=Pv (i + 1),ct:=Pv (i + 1),bk:=D.nx } σ2 H2) (hd:∀ σ H,Pv xs.length σ H→D.nx σ H) :
    ∃ W:Nat→Nat→St→Hp→Prop,(∃ m,W 0 m σ H)∧∀ i m σ H,W i m σ H →
      ((Itl K a).stop i H∧D.nx σ H)∨((Itl K a).go i H∧∃ N:St→Hp→Prop,(∀ σ' H',N σ' H'→∃ m',m' < m∧W (i + 1) m' σ' H')∧∀ x H',(Itl K a).yld i H x H'→g x σ H' fun σ2 H2=>tb { D with nx:=N,ct:=N,bk:=D.nx } σ2 H2):=by
  refine ⟨fun i m σ H=>m=xs.length - i∧i≤xs.length∧Pv i σ H,⟨xs.length,by simp,Nat.zero_le _,h0⟩,?_⟩
  rintro i m σ H ⟨rfl,hi,p⟩
  have q:=hl i σ H hi p
  by_cases hlt:i < xs.length
  · refine .inr ⟨⟨xs,xs[i],q,by simp [hlt]⟩,Pv (i + 1),fun σ' H' p'=>⟨xs.length - (i + 1),by omega,rfl,hlt,p'⟩,fun x H' y=>?_⟩
    obtain ⟨e,y⟩:=y
    subst e
    exact hs i x σ _ (y xs q) p
  · have e:i=xs.length:=by omega
    subst e
    exact .inl ⟨⟨xs,q,Nat.le_refl _⟩,hd σ H p⟩
theorem for_range {lo:Int} {n:Nat} {g:TG} {tb:TS} {D:Ends} {σ:St} {H:Hp} (Pv:Nat→St→Hp→Prop) (h0:Pv 0 σ H)
    (hs:∀ i σ H,i < n→Pv i σ H→g (.int (lo + i)) σ H fun σ2 H2=>tb { D with nx:=Pv (i + 1),ct:=Pv (i + 1),bk:=D.nx } σ2 H2) (hd:∀ σ H,Pv n σ H→D.nx σ H) :
    ∃ W:Nat→Nat→St→Hp→Prop,(∃ m,W 0 m σ H)∧∀ i m σ H,W i m σ H →
      ((Itr lo n).stop i H∧D.nx σ H)∨((Itr lo n).go i H∧∃ N:St→Hp→Prop,(∀ σ' H',N σ' H'→∃ m',m' < m∧W (i + 1) m' σ' H')∧∀ x H',(Itr lo n).yld i H x H'→g x σ H' fun σ2 H2=>tb { D with nx:=N,ct:=N,bk:=D.nx } σ2 H2):=by
  refine ⟨fun i m σ H=>m=n - i∧i≤n∧Pv i σ H,⟨n,by simp,Nat.zero_le _,h0⟩,?_⟩
  rintro i m σ H ⟨rfl,hi,p⟩
  by_cases hlt:i < n
  · refine .inr ⟨hlt,Pv (i + 1),fun σ' H' p'=>⟨n - (i + 1),by omega,rfl,hlt,p'⟩,fun x H' y=>?_⟩
    obtain ⟨e,y⟩:=y
    subst e y
    exact hs i σ _ hlt p
  · have e:i=n:=by omega
    subst e
    exact .inl ⟨Nat.le_refl _,hd σ H p⟩
end L2
namespace L2
open PySem PySem.Spec PyProof.Rows
abbrev R2:=V→V→Hp→VK→Prop
def OpR (X:Cx) (f:Value→Value→Sem Value) (r:R2):Prop :=
  ∀ (pins:List (Addr × Obj)) (s:Shared) (σ:St) (H:Hp) (x y:V) (v u:Value) (Q:VK),Inv X pins σ H s→RelV x v→RelV y u→r x y H Q →
    wpAny (model X.prog X.w) X.A (f v u) (EP X pins σ Q) X.xe s
def UnR (X:Cx) (f:Value→Sem Value) (r:V→Hp→VK→Prop):Prop :=
  ∀ (pins:List (Addr × Obj)) (s:Shared) (σ:St) (H:Hp) (x:V) (v:Value) (Q:VK),Inv X pins σ H s→RelV x v→r x H Q →
    wpAny (model X.prog X.w) X.A (f v) (EP X pins σ Q) X.xe s
def CallR (X:Cx) (f:Value) (r:List V→Hp→VK→Prop):Prop :=
  ∀ (pins:List (Addr × Obj)) (s:Shared) (σ:St) (H:Hp) (xs:List V) (us:List Value) (Q:VK),Inv X pins σ H s→Vals xs us→r xs H Q →
    wpAny (model X.prog X.w) X.A (call f us) (EP X pins σ Q) X.xe s
def tOp (r:R2) (ta tb:TE):TE:=fun σ H Q=>ta σ H fun x H1=>tb σ H1 fun y H2=>r x y H2 Q
def tUn (r:V→Hp→VK→Prop) (ta:TE):TE:=fun σ H Q=>ta σ H fun x H1=>r x H1 Q
def rI (C:Int→Int→Prop) (g:Int→Int→V):R2:=fun x y H Q=>∃ i j,x=.int i∧y=.int j∧C i j∧Q (g i j) H
def rI0 (g:Int→Int→V):R2:=fun x y H Q=>∃ i j,x=.int i∧y=.int j∧Q (g i j) H
def rU (g:Int→V):V→Hp→VK→Prop:=fun x H Q=>∃ i,x=.int i∧Q (g i) H
section
variable {X:Cx} {a b c:Expr} {ta tb tc:TE} {pos:Pos}
theorem binT (ha:PE X a ta) (hb:PE X b tb) {pins:List (Addr × Obj)} {s:Shared} {σ:St} {H:Hp} {R:V→V→Hp→Prop} (I:Inv X pins σ H s)
    (h:ta σ H fun x H1=>tb σ H1 fun y H2=>R x y H2) {Q:Value→Shared→Prop} {f:Value→Value→Sem Value}
    (hf:∀ v u s2 x y H2,Inv X pins σ H2 s2→RelV x v→RelV y u→R x y H2→wpAny (model X.prog X.w) X.A (f v u) Q X.xe s2) :
    wpAny (model X.prog X.w) X.A (eval a X.env) (fun v s₁=>wpAny (model X.prog X.w) X.A (eval b X.env) (fun u s₂=>wpAny (model X.prog X.w) X.A (f v u) Q X.xe s₂) X.xe s₁) X.xe s:=by
  refine thn (ha pins s σ H _ I h) fun v s1 ⟨x,H1,I1,r1,q1⟩=>?_
  refine thn (hb pins s1 σ H1 _ I1 q1) fun u s2 ⟨y,H2,I2,r2,q2⟩=>?_
  exact hf v u s2 x y H2 I2 r1 r2 q2
theorem pe_op {op:Operator} {r:R2} (ho:OpR X (binaryOp op) r) (ha:PE X a ta) (hb:PE X b tb):PE X (.BinOp a op b pos) (tOp r ta tb):=by
  intro pins s σ H Q I h
  exact wpAny_BinOp (binT ha hb I h fun v u s2 x y H2 I2 rx ry q=>ho pins s2 σ H2 x y v u Q I2 rx ry q)
theorem pe_un {op:UnaryOp} {r:V→Hp→VK→Prop} (ho:UnR X (unaryOp op) r) (ha:PE X a ta):PE X (.UnaryOp op a pos) (tUn r ta):=by
  intro pins s σ H Q I h
  exact UnaryOp_ (thn (ha pins s σ H _ I h) fun v s1 ⟨x,H1,I1,r1,q1⟩=>ho pins s1 σ H1 x v Q I1 r1 q1)
theorem opI {f:Value→Value→Sem Value} {C:Int→Int→Prop} {g:Int→Int→Int}
    (rule:∀ (i j:Int) (t u:Tok) (s:Shared) (Q:Value→Shared→Prop) (E:Value→Shared→Prop),C i j→Q (.int (g i j) s.toks) { s with toks:=s.toks + 1 }→wpAny (model X.prog X.w) X.A (f (.int i t) (.int j u)) Q E s) :
    OpR X f (rI C fun i j=>.int (g i j)):=by
  intro pins s σ H x y v u Q I rx ry h
  obtain ⟨i,j,rfl,rfl,hc,q⟩:=h
  obtain ⟨t,rfl⟩:=rx
  obtain ⟨t',rfl⟩:=ry
  exact rule i j t t' s _ _ hc ⟨.int (g i j),H,I.tok _,⟨_,rfl⟩,q⟩
theorem opI0 {f:Value→Value→Sem Value} {g:Int→Int→Int}
    (rule:∀ (i j:Int) (t u:Tok) (s:Shared) (Q:Value→Shared→Prop) (E:Value→Shared→Prop),Q (.int (g i j) s.toks) { s with toks:=s.toks + 1 }→wpAny (model X.prog X.w) X.A (f (.int i t) (.int j u)) Q E s) :
    OpR X f (rI0 fun i j=>.int (g i j)):=by
  intro pins s σ H x y v u Q I rx ry h
  obtain ⟨i,j,rfl,rfl,q⟩:=h
  obtain ⟨t,rfl⟩:=rx
  obtain ⟨t',rfl⟩:=ry
  exact rule i j t t' s _ _ ⟨.int (g i j),H,I.tok _,⟨_,rfl⟩,q⟩
theorem opB0 {f:Value→Value→Sem Value} {g:Int→Int→Bool}
    (rule:∀ (i j:Int) (t u:Tok) (s:Shared) (Q:Value→Shared→Prop) (E:Value→Shared→Prop),Q (.bool (g i j)) s→wpAny (model X.prog X.w) X.A (f (.int i t) (.int j u)) Q E s) :
    OpR X f (rI0 fun i j=>.bl (g i j)):=by
  intro pins s σ H x y v u Q I rx ry h
  obtain ⟨i,j,rfl,rfl,q⟩:=h
  obtain ⟨t,rfl⟩:=rx
  obtain ⟨t',rfl⟩:=ry
  exact rule i j t t' s _ _ ⟨.bl (g i j),H,I,rfl,q⟩
def CMul (i j:Int):Prop:=(-(2 ^ 64) < i∧i < 2 ^ 64)∨(-(2 ^ 64) < j∧j < 2 ^ 64)
theorem CMul.ok {i j:Int} (h:CMul i j):IntMulOk i j:=by
  rcases h with ⟨h1,h2⟩ | ⟨h1,h2⟩
  · exact .of_left (intBits_le_64 h1 h2)
  · exact .of_right (intBits_le_64 h1 h2)
theorem op_add:OpR X (binaryOp .Add) (rI0 fun i j=>.int (i + j)):=opI0 fun _ _ _ _ _ _ _ q=>add_int q
theorem op_sub:OpR X (binaryOp .Sub) (rI0 fun i j=>.int (i - j)):=opI0 fun _ _ _ _ _ _ _ q=>sub_int q
theorem op_mul:OpR X (binaryOp .Mult) (rI CMul fun i j=>.int (i * j)):=opI fun _ _ _ _ _ _ _ hc q=>mul_int q hc.ok
theorem unI {f:Value→Sem Value} {g:Int→Int}
    (rule:∀ (i:Int) (t:Tok) (s:Shared) (Q:Value→Shared→Prop) (E:Value→Shared→Prop),Q (.int (g i) s.toks) { s with toks:=s.toks + 1 }→wpAny (model X.prog X.w) X.A (f (.int i t)) Q E s) :
    UnR X f (rU fun i=>.int (g i)):=by
  intro pins s σ H x v Q I rx h
  obtain ⟨i,rfl,q⟩:=h
  obtain ⟨t,rfl⟩:=rx
  exact rule i t s _ _ ⟨.int (g i),H,I.tok _,⟨_,rfl⟩,q⟩
theorem un_neg:UnR X (unaryOp .USub) (rU fun i=>.int (-i)):=unI fun _ _ _ _ _ q=>neg_int q
end
def scal:V→V→Bool
  | .non,.non=>true | .non,.int _=>true | .int _,.non=>true | .non,.bl _=>true | .bl _,.non=>true | .non,.str _=>true | .str _,.non=>true
  | .int _,.int _=>true | .bl _,.bl _=>true | .str _,.str _=>true | .byt _,.byt _=>true
  | .int _,.str _=>true | .str _,.int _=>true | .bl _,.str _=>true | .str _,.bl _=>true
  | _,_=>false
def rEq:R2:=fun x y H Q=>scal x y=true∧Q (.bl (decide (x=y))) H
theorem dec_int {i j:Int}:decide (V.int i=V.int j)=(i == j):=by
  rw [Bool.eq_iff_iff]
  simp
theorem dec_bl {i j:Bool}:decide (V.bl i=V.bl j)=(i == j):=by
  rw [Bool.eq_iff_iff]
  simp
theorem dec_str {i j:Str}:decide (V.str i=V.str j)=(i == j):=by
  rw [Bool.eq_iff_iff]
  simp
theorem dec_byt {i j:Array UInt8}:decide (V.byt i=V.byt j)=(i.toList == j.toList):=by
  rw [Bool.eq_iff_iff]
  cases i
  cases j
  simp
section
variable {X:Cx} {a b c:Expr} {ta tb tc:TE} {pos:Pos}
theorem fin_bl {pins:List (Addr × Obj)} {σ:St} {H:Hp} {s:Shared} {Q:VK} {k k':Bool} (I:Inv X pins σ H s) (q:Q (.bl k) H) (e:k=k'):EP X pins σ Q (.bool k') s:=by
  subst e
  exact ⟨.bl k,H,I,rfl,q⟩
theorem op_eq:OpR X (compareOp .Eq) rEq:=by
  intro pins s σ H x y v u Q I rx ry h
  obtain ⟨hs,q⟩:=h
  cases x with
  | non =>
    cases rx
    cases y with
    | non=>cases ry; exact PySem.EqNone.eq_none_none (fin_bl I q (by simp))
    | bl j=>cases ry; exact PySem.EqNone.eq_none_bool (fin_bl I q (by simp))
    | int j=>obtain ⟨t',rfl⟩:=ry; exact PySem.EqNone.eq_none_int (fin_bl I q (by simp))
    | str j=>obtain ⟨t',rfl⟩:=ry; exact PySem.EqNone.eq_none_str (fin_bl I q (by simp))
    | _=>exact absurd (show false=true from hs) Bool.false_ne_true
  | bl i =>
    cases rx
    cases y with
    | non=>cases ry; exact PySem.EqNone.eq_bool_none (fin_bl I q (by simp))
    | bl j=>cases ry; exact eq_bool (fin_bl I q dec_bl)
    | str j=>obtain ⟨t',rfl⟩:=ry; exact PySem.EqMixed.eq_bool_str (fin_bl I q (by simp))
    | _=>exact absurd (show false=true from hs) Bool.false_ne_true
  | int i =>
    obtain ⟨t,rfl⟩:=rx
    cases y with
    | non=>cases ry; exact PySem.EqNone.eq_int_none (fin_bl I q (by simp))
    | int j=>obtain ⟨t',rfl⟩:=ry; exact eq_int (fin_bl I q dec_int)
    | str j=>obtain ⟨t',rfl⟩:=ry; exact PySem.EqMixed.eq_int_str (fin_bl I q (by simp))
    | _=>exact absurd (show false=true from hs) Bool.false_ne_true
  | str i =>
    obtain ⟨t,rfl⟩:=rx
    cases y with
    | non=>cases ry; exact PySem.EqNone.eq_str_none (fin_bl I q (by simp))
    | bl j=>cases ry; exact PySem.EqMixed.eq_str_bool (fin_bl I q (by simp))
    | int j=>obtain ⟨t',rfl⟩:=ry; exact PySem.EqMixed.eq_str_int (fin_bl I q (by simp))
    | str j=>obtain ⟨t',rfl⟩:=ry; exact eq_str (fin_bl I q dec_str)
    | _=>exact absurd (show false=true from hs) Bool.false_ne_true
  | byt i =>
    obtain ⟨t,rfl⟩:=rx
    cases y with
    | byt j=>obtain ⟨t',rfl⟩:=ry; exact PySem.W.eq_bytes (fin_bl I q dec_byt)
    | _=>exact absurd (show false=true from hs) Bool.false_ne_true
  | _=>cases y <;> exact absurd (show false=true from hs) Bool.false_ne_true
theorem op_lt:OpR X (compareOp .Lt) (rI0 fun i j=>.bl (decide (i < j))):=opB0 fun _ _ _ _ _ _ _ q=>lt_int q
theorem op_le:OpR X (compareOp .LtE) (rI0 fun i j=>.bl (decide (i≤j))):=opB0 fun _ _ _ _ _ _ _ q=>le_int q
theorem op_gt:OpR X (compareOp .Gt) (rI0 fun i j=>.bl (decide (j < i))):=opB0 fun _ _ _ _ _ _ _ q=>gt_int q
theorem op_ge:OpR X (compareOp .GtE) (rI0 fun i j=>.bl (decide (j≤i))):=opB0 fun _ _ _ _ _ _ _ q=>ge_int q
theorem op_isN:OpR X (compareOp .Is) (fun x y H Q=>y=.non∧Q (.bl (decide (x=.non))) H):=by
  intro pins s σ H x y v u Q I rx ry h
  obtain ⟨rfl,q⟩:=h
  cases ry
  refine is_none_gen (fin_bl I q ?_)
  cases x <;> first
    | (cases rx; rfl)
    | (obtain ⟨t,rfl⟩:=rx; rfl)
theorem op_notN:OpR X (compareOp .IsNot) (fun x y H Q=>y=.non∧Q (.bl (!decide (x=.non))) H):=by
  intro pins s σ H x y v u Q I rx ry h
  obtain ⟨rfl,q⟩:=h
  cases ry
  refine isnot_none_gen (fin_bl I q ?_)
  cases x <;> first
    | (cases rx; rfl)
    | (obtain ⟨t,rfl⟩:=rx; rfl)
theorem nomark (b:Expr) {op:CmpOp} (h:op≠.In:=by decide) (h2:op≠.NotIn:=by decide):behindInMarks op b=false:=by
  have e1:(op == CmpOp.In)=false:=by cases op <;> first | rfl | exact absurd rfl h
  have e2:(op == CmpOp.NotIn)=false:=by cases op <;> first | rfl | exact absurd rfl h2
  cases b <;> simp [behindInMarks,e1,e2]
theorem pe_cmpR {op:CmpOp} {r:R2} (ho:OpR X (compareOp op) r) (ha:PE X a ta) (hb:PE X b tb) (hm:behindInMarks op b=false):PE X (.Compare a [op] [b] pos) (tOp r ta tb):=by
  intro pins s σ H Q I h
  exact wpAny_Compare1 (binT ha hb I h fun v u s2 x y H2 I2 rx ry q=>ho pins s2 σ H2 x y v u Q I2 rx ry q) hm
def tTest (t:TE):TT:=fun σ H Q=>t σ H fun x H'=>∃ k,x=.bl k∧Q k H'
theorem pt_cmpR {op:CmpOp} {r:R2} (ho:OpR X (compareOp op) r) (ha:PE X a ta) (hb:PE X b tb) (hm:behindInMarks op b=false):PT X (.Compare a [op] [b] pos) (tTest (tOp r ta tb)):=by
  intro pins s σ H Q I h
  refine wpAny_isTrue_Compare1 (thn (ha pins s σ H _ I h) fun v s1 ⟨x,H1,I1,r1,q1⟩=>thn (hb pins s1 σ H1 _ I1 q1) fun u s2 ⟨y,H2,I2,r2,q2⟩ =>
    thn (ho pins s2 σ H2 x y v u _ I2 r1 r2 q2) fun c s3 ⟨z,H3,I3,r3,k,e,q3⟩=>?_) hm
  subst e
  cases r3
  exact wpAny_truthy_bool ⟨H3,I3,q3⟩
def tChain (r r':R2) (ta tb tc:TE):TE:=fun σ H Q=>ta σ H fun x H1=>tb σ H1 fun y H2=>r x y H2 fun z H3=>∃ k,z=.bl k ∧
  (if k=true then tc σ H3 fun w' H4=>r' y w' H4 Q else Q (.bl false) H3)
theorem pe_chain {op op':CmpOp} {r r':R2} (ho:OpR X (compareOp op) r) (ho':OpR X (compareOp op') r') (ha:PE X a ta) (hb:PE X b tb) (hc:PE X c tc)
    (hm:lastMarks [op,op'] [b,c]=false:=by with_unfolding_all rfl):PE X (.Compare a [op,op'] [b,c] pos) (tChain r r' ta tb tc):=by
  intro pins s σ H Q I h
  refine Compare_chain (thn (ha pins s σ H _ I h) fun v s1 ⟨x,H1,I1,r1,q1⟩=>chain_link (thn (hb pins s1 σ H1 _ I1 q1) fun u s2 ⟨y,H2,I2,r2,q2⟩ =>
    thn (ho pins s2 σ H2 x y v u _ I2 r1 r2 q2) fun d s3 ⟨z,H3,I3,r3,k,e,q3⟩=>?_)) hm
  subst e
  cases r3
  refine wpAny_truthy_bool ?_
  cases k with
  | false=>exact ite_ff ⟨.bl false,H3,I3,rfl,q3⟩
  | true=>exact ite_tt (chain_last (thn (hc pins s3 σ H3 _ I3 q3) fun w' s4 ⟨z',H4,I4,r4,q4⟩=>ho' pins s4 σ H4 y z' u w' Q I4 r2 r4 q4))
theorem line63:(sizeLine:Nat) < 2 ^ 63:=by rw [sizeLine_eq]; decide
theorem vals1 {x:V} {us:List Value} (r:Vals [x] us):∃ u,us=[u]∧RelV x u:=by
  cases r with
  | cons r1 r2=>cases r2; exact ⟨_,rfl,r1⟩
theorem vals2 {x y:V} {us:List Value} (r:Vals [x,y] us):∃ u w',us=[u,w']∧RelV x u∧RelV y w':=by
  cases r with
  | cons r1 r2 =>
    cases r2 with
    | cons r3 r4=>cases r4; exact ⟨_,_,rfl,r1,r3⟩
theorem call_max2 (hc:X.calm=true):CallR X (.builtin "max") (fun xs H Q=>∃ i j,xs=[.int i,.int j]∧Q (.int (if j > i then j else i)) H):=by
  intro pins s σ H xs us Q I r h
  obtain ⟨i,j,rfl,q⟩:=h
  obtain ⟨u,w',rfl,⟨t,rfl⟩,⟨t',rfl⟩⟩:=vals2 r
  refine max_two_ints (I.ok.hd hc) fun h' tk k=>⟨_,H,I.kept k,?_,q⟩
  by_cases hj:j > i
  · rw [if_pos hj,if_pos hj]; exact ⟨_,rfl⟩
  · rw [if_neg hj,if_neg hj]; exact ⟨_,rfl⟩
theorem call_min2 (hc:X.calm=true):CallR X (.builtin "min") (fun xs H Q=>∃ i j,xs=[.int i,.int j]∧Q (.int (if j < i then j else i)) H):=by
  intro pins s σ H xs us Q I r h
  obtain ⟨i,j,rfl,q⟩:=h
  obtain ⟨u,w',rfl,⟨t,rfl⟩,⟨t',rfl⟩⟩:=vals2 r
  refine min_two_ints (I.ok.hd hc) fun h' tk k=>⟨_,H,I.kept k,?_,q⟩
  by_cases hj:j < i
  · rw [if_pos hj,if_pos hj]; exact ⟨_,rfl⟩
  · rw [if_neg hj,if_neg hj]; exact ⟨_,rfl⟩
end
end L2
namespace L2
open PySem PySem.Spec PyProof.Rows
structure ObjM (h:Heap) (x dx C:Addr) (mA:Str→Option Value):Prop where
  obj:h.get? x=some (PySem.W.instObj C dx)
  ns:h.Ns1 dx mA
  ne:dx≠x
theorem lookIn_ns {h:Heap} {dx:Addr} {mA:Str→Option Value} (n:h.Ns1 dx mA):∃ od,h.get? dx=some od∧∀ name,PySem.W.lookIn name od=some (mA name):=by
  obtain ⟨o,es,ep,ho,hd,hk,_,hm⟩:=n
  refine ⟨o,ho,fun name=>?_⟩
  have e:=hm name
  unfold nsFind findBy at e
  rw [← Array.find?_toList] at e
  unfold PySem.W.lookIn
  rw [hd]
  dsimp only
  split
  · rename_i y q
    rw [q] at e
    exact congrArg some e
  · rename_i q
    rw [q] at e
    have a:es.toList.any (·.refKey)=false:=by
      rw [List.any_eq_false]
      intro y hy
      obtain ⟨z,t,hkey⟩:=hk y (Array.mem_toList_iff.mp hy)
      simp [DictEntry.refKey,hkey]
    have a':¬ es.toList.any (·.refKey)=true:=by rw [a]; exact Bool.false_ne_true
    rw [if_neg a']
    exact congrArg some e
theorem ObjM.look {h:Heap} {x dx C:Addr} {mA:Str→Option Value} (I:ObjM h x dx C mA):∃ od,PySem.W.InstAt h x (PySem.W.instObj C dx) C (some od)∧∀ name,PySem.W.lookIn name od=some (mA name) :=
  let ⟨od,ho,hl⟩:=lookIn_ns I.ns
  ⟨od,⟨I.obj,rfl,rfl,ho⟩,hl⟩
section
variable {prog:Program} {w:World} {A:Around} {E:Value→Shared→Prop} {s:Shared} {K:PySem.W.Frag} {x dx C f:Addr} {mA:Str→Option Value} {name:Str} {v:Value}
theorem get_map {expr:Bool} {Q:Value→Shared→Prop} (X:K.In s.heap) (I:ObjM s.heap x dx C mA) (hg:PySem.W.plainGet K C name=true) (hh:PySem.W.hasDictIn K C=true)
    (ha:PySem.W.findIn K (.ref C) name=some none) (hv:mA name=some v) (hv':PySem.W.handedIn v=true) (h:Q v { s with toks:=s.toks + 1 }) :
    wpAny (model prog w) A (getAttr (.ref x) name expr) Q E s:=by
  obtain ⟨od,J,hl⟩:=I.look
  exact PySem.W.get_value X J (PySem.W.plainGet_of hg).1 (PySem.W.findObj_own hh ha rfl (by rw [hl,hv])) hv' h
theorem set_map {ns:List Str} {Q:Unit→Shared→Prop} (X:K.In s.heap) (I:ObjM s.heap x dx C mA)
    (hs:PySem.W.findIn K (.ref C) "__setattr__" = some (some (.builtin "object.__setattr__"))) (hp:PySem.W.plainOver K C=true) (ht:PySem.W.takerIn K C name=some none) (hh:PySem.W.hasDictIn K C=true)
    (hw:PySem.Within mA ns) (hsz:ns.length≤sizeLine)
    (h:∀ h',ObjM h' x dx C (fun y=>if y=name then some v else mA y)→Heap.SameBut dx s.heap h'→Q () { s with heap:=h',toks:=s.toks + 2 }) :
    wpAny (model prog w) A (setAttr (.ref x) name v) Q E s:=by
  obtain ⟨od,J,hl⟩:=I.look
  refine PySem.W.set_plain X J hs (PySem.W.osa_open (s:={ s with toks:=s.toks + 1 }) (r:=none) X J hp ht fun b=>?_)
  obtain ⟨cd,hc,hd'⟩:=PySem.W.any_some hh
  have hx:s.heap.get? x=some ⟨.ref C,some dx,.plain,#[]⟩:=I.obj
  refine wpAny_bind (wpAny_pure (wpAny_bind (wpAny_bind (wpAny_loadPart hx (wpAny_bind (PySem.W.Looks.here (s:={ s with toks:=s.toks + 1 }) (PySem.W.looks_clsIn X hc) ?_))))))
  rw [hd']
  refine wpAny_pure (a:=some dx) (wpAny_bind (wpAny_pure (wpAny_bind ?_)))
  refine wpAny_nsSet1 (s:={ s with toks:=s.toks + 1 }) I.ns fun h' hn2 hs2=>?_
  obtain ⟨oD,esD,epD,hoD,hdD,hcD⟩:=hn2.count (PySem.Within.cons name v hw)
  refine wpAny_bind (wpAny_lookBehind hoD (by rw [hdD]; exact pastItsLine_dict (Nat.le_trans hcD (by rw [List.length_cons]; omega))) ?_)
  exact wpAny_pure (h _ ⟨(hs2.2 _ (Ne.symm I.ne)).trans I.obj,hn2,I.ne⟩ hs2)
theorem make_map {R:Result→Shared→Prop} {vs:List Value} {kw:List (Str × Value)} (X:K.In s.heap) (hm:PySem.W.makesIn K C=true)
    (hi:PySem.W.findIn K (.ref C) "__init__" = some (some (.ref f))) (hf:PySem.W.typeIn K (.ref f)=some (.type "function"))
    (h:codeAny (model prog w) (A.under (.builtin "type.__call__" ⟨.ref C::vs,kw⟩)) (.call (.ref f) ⟨.ref (s.heap.objs.size + 1)::vs,kw⟩) (PySem.W.InitBack (s.heap.objs.size + 1) R)
      { s with heap:=(s.heap.push PySem.W.emptyDict).push (PySem.W.instObj C s.heap.objs.size) }) :
    codeAny (model prog w) A (.call (.ref C) ⟨vs,kw⟩) R s:=by
  obtain ⟨hh,g,d,t,os⟩:=s
  exact PySem.W.make_core (PySem.W.makes_of X hm) (PySem.W.looks_findIn X hi) (fun self=>PySem.W.bind_fn X self hf) (.inl rfl) h
end
def putF (f:Str) (v:V):List (Str × V)→List (Str × V)
  | []=>[(f,v)]
  | (g,x)::r=>if g=f then (g,v)::r else (g,x)::putF f v r
theorem lookup_putF (f g:Str) (v:V):∀ fs:List (Str × V),(putF f v fs).lookup g=if g=f then some v else fs.lookup g
  | []=>by
    show List.lookup g [(f,v)]=_
    by_cases h:g=f
    · have hb:(g == f)=true:=beq_iff_eq.mpr h
      simp only [List.lookup,hb,if_pos h]
    · have hb:(g == f)=false:=beq_eq_false_iff_ne.mpr h
      simp only [List.lookup,hb,if_neg h]
  | (k,x)::r=>by
    have ih:=lookup_putF f g v r
    rw [show putF f v ((k,x)::r)=(if k=f then (k,v)::r else (k,x)::putF f v r) from rfl]
    by_cases hk:k=f
    · rw [if_pos hk]
      by_cases h:g=k
      · have hb:(g == k)=true:=beq_iff_eq.mpr h
        simp only [List.lookup,hb,if_pos (h.trans hk)]
      · have hb:(g == k)=false:=beq_eq_false_iff_ne.mpr h
        simp only [List.lookup,hb,if_neg (fun e:g=f=>h (e.trans hk.symm))]
    · rw [if_neg hk]
      by_cases h:g=k
      · have hb:(g == k)=true:=beq_iff_eq.mpr h
        simp only [List.lookup,hb,if_neg (fun e:g=f=>hk (h.symm.trans e))]
      · have hb:(g == k)=false:=beq_eq_false_iff_ne.mpr h
        simp only [List.lookup,hb]
        exact ih
theorem keys_putF (f:Str) (v:V):∀ fs:List (Str × V),f ∈ (putF f v fs).map (·.1)∧∀ g,g ∈ fs.map (·.1)→g ∈ (putF f v fs).map (·.1)
  | []=>⟨by simp [putF],fun g h=>by simp at h⟩
  | (k,x)::r=>by
    obtain ⟨i1,i2⟩:=keys_putF f v r
    rw [show putF f v ((k,x)::r)=(if k=f then (k,v)::r else (k,x)::putF f v r) from rfl]
    by_cases hk:k=f
    · rw [if_pos hk]
      subst hk
      exact ⟨by simp,fun g h=>by simpa using h⟩
    · rw [if_neg hk]
      refine ⟨?_,fun g h=>?_⟩
      · rw [List.map_cons]
        exact List.mem_cons_of_mem _ i1
      · rw [List.map_cons] at h ⊢
        rcases List.mem_cons.mp h with e | e
        · exact List.mem_cons.mpr (.inl e)
        · exact List.mem_cons_of_mem _ (i2 g e)
theorem length_putF (f:Str) (v:V):∀ fs:List (Str × V),(putF f v fs).length≤fs.length + 1
  | []=>by simp [putF]
  | (k,x)::r=>by
    have ih:=length_putF f v r
    rw [show putF f v ((k,x)::r)=(if k=f then (k,v)::r else (k,x)::putF f v r) from rfl]
    by_cases hk:k=f
    · rw [if_pos hk,List.length_cons,List.length_cons]; omega
    · rw [if_neg hk,List.length_cons,List.length_cons]; omega
theorem RelO.some_of {v:V} {o:Option Value} (r:RelO (some v) o):∃ u,o=some u∧RelV v u:=by
  cases o with
  | none=>exact (show False from r).elim
  | some u=>exact ⟨u,rfl,r⟩
theorem handed_of {v:V} {u:Value} (r:RelV v u):PySem.W.handedIn u=true:=by
  cases v with
  | non=>cases (show u=Value.none from r); rfl
  | bl b=>cases (show u=Value.bool b from r); rfl
  | int i=>obtain ⟨t,e⟩:=(show ∃ t,u=Value.int i t from r); cases e; rfl
  | str x=>obtain ⟨t,e⟩:=(show ∃ t,u=Value.str x t from r); cases e; rfl
  | byt b=>obtain ⟨t,e⟩:=(show ∃ t,u=Value.bytes b t from r); cases e; rfl
  | flt b=>obtain ⟨t,e⟩:=(show ∃ t,u=Value.float b t from r); cases e; rfl
  | ref a=>cases (show u=Value.ref a from r); rfl
  | ty n=>cases (show u=Value.type n from r); rfl
section
variable {P:Program} {w:World} {H H':Hp} {h h':Heap} {a C dx:Addr} {fs fs':List (Str × V)}
theorem ins_get (hok:HOk P w H h) (e:H a=some (.ins C dx fs)):∃ mA,ObjM h a dx C mA∧(∀ f,RelO (fs.lookup f) (mA f))∧PySem.Within mA (fs.map (·.1))∧fs.length≤1000∧H dx=some (.own a):=by
  obtain ⟨d,z,ne,ob,mA,n,r,q⟩:=(show ObjOk P w H h a (.ins C dx fs) from hok a _ e)
  exact ⟨mA,⟨ob,n,ne⟩,r,q,z,d⟩
end
structure Cls (K:PySem.W.Frag) (C:Addr):Prop where
  pg:PySem.W.plainGet K C Str.empty=true
  hd:PySem.W.hasDictIn K C=true
  po:PySem.W.plainOver K C=true
  sa:PySem.W.findIn K (.ref C) "__setattr__" = some (some (.builtin "object.__setattr__"))
theorem Cls.get {K:PySem.W.Frag} {C:Addr} (c:Cls K C) (f:Str):PySem.W.plainGet K C f=true:=c.pg
def NoAttr (K:PySem.W.Frag) (C:Addr) (f:Str):Prop:=PySem.W.findIn K (.ref C) f=some none
theorem NoAttr.taker {K:PySem.W.Frag} {C:Addr} {f:Str} (n:NoAttr K C f):PySem.W.takerIn K C f=some none:=by
  unfold PySem.W.takerIn
  rw [show PySem.W.findIn K (.ref C) f=some none from n]
  rfl
section
variable {X:Cx} {pins:List (Addr × Obj)} {σ:St} {H:Hp} {s:Shared} {a C dx:Addr} {fs:List (Str × V)} {f:Str} {v:V} {A:Around} {E:Value→Shared→Prop}
theorem getattr_ok {b:Bool} {Q:Value→Shared→Prop} (I:Inv X pins σ H s) (e:H a=some (.ins C dx fs)) (c:Cls X.K C) (n:NoAttr X.K C f) (l:fs.lookup f=some v)
    (h:∀ u s',Inv X pins σ H s'→RelV v u→Q u s'):wpAny (model X.prog X.w) A (getAttr (.ref a) f b) Q E s:=by
  obtain ⟨mA,O,r,_,_,_⟩:=ins_get I.hok e
  obtain ⟨u,hu,ru⟩:=RelO.some_of (v:=v) (o:=mA f) (by rw [← l]; exact r f)
  exact get_map I.kIn O (c.get f) c.hd n hu (handed_of ru) (h u _ (I.tok _) ru)
theorem setattr_ok {y:V} {u:Value} {Q:Unit→Shared→Prop} (I:Inv X pins σ H s) (e:H a=some (.ins C dx fs)) (c:Cls X.K C) (n:NoAttr X.K C f) (hl:fs.length < 1000) (ry:RelV y u)
    (h:∀ s',Inv X pins σ (upd H a (.ins C dx (putF f y fs))) s'→Q () s'):wpAny (model X.prog X.w) A (setAttr (.ref a) f u) Q E s:=by
  obtain ⟨mA,O,r,wi,_,ho⟩:=ins_get I.hok e
  have hz:(fs.map (·.1)).length≤sizeLine:=by rw [List.length_map,sizeLine_eq]; omega
  refine set_map I.kIn O c.sa c.po n.taker c.hd wi hz fun h' O' sb=>h _ ?_
  have hd:∃ o,h'.get? dx=some o:=let ⟨o,_,_,e',_⟩:=O'.ns; ⟨o,e'⟩
  refine I.write (x:=a) (e:=dx) (by rw [e]; exact True.intro) (.inr ho) (fun b q hb z=>(sb.2 b hb).trans z) hd ?_
  refine ⟨by rw [upd_ne O.ne]; exact ho,?_,O.ne,O'.obj,_,O'.ns,fun g=>?_,fun g hg=>?_⟩
  · have:=length_putF f y fs; omega
  · show RelO ((putF f y fs).lookup g) (if g=f then some u else mA g)
    rw [lookup_putF]
    by_cases q:g=f
    · rw [if_pos q,if_pos q]; exact ry
    · rw [if_neg q,if_neg q]; exact r g
  · by_cases q:g=f
    · rw [q]; exact (keys_putF f y fs).1
    · refine (keys_putF f y fs).2 g (wi g fun z=>hg ?_)
      show (if g=f then some u else mA g)=none
      rw [if_neg q]; exact z
theorem Inv.made (I:Inv X pins σ H s):Inv X pins σ (upd (upd H s.heap.objs.size (.own (s.heap.objs.size + 1))) (s.heap.objs.size + 1) (.ins C s.heap.objs.size []))
    { s with heap:=(s.heap.push PySem.W.emptyDict).push (PySem.W.instObj C s.heap.objs.size) }:=by
  have e1:(s.heap.push PySem.W.emptyDict).get? s.heap.objs.size=some PySem.W.emptyDict:=Heap.get?_push_size s.heap rfl
  have e2:((s.heap.push PySem.W.emptyDict).push (PySem.W.instObj C s.heap.objs.size)).get? (s.heap.objs.size + 1)=some (PySem.W.instObj C s.heap.objs.size):=by
    have:=Heap.get?_push_size (s.heap.push PySem.W.emptyDict) (o:=PySem.W.instObj C s.heap.objs.size) rfl
    rwa [Heap.size_push] at this
  have e3:(s.heap.push PySem.W.emptyDict).Ns s.heap.objs.size (fun _=>none):=⟨PySem.W.emptyDict,#[],_,e1,rfl,(fun e he=>absurd he (by simp)),fun _=>rfl⟩
  have I1:=I.laid (a:=s.heap.objs.size) (o:=.own (s.heap.objs.size + 1)) (h':=s.heap.push PySem.W.emptyDict) (t':=s.toks) (fun b u q=>Heap.get?_push_of_some _ q) (Nat.le_refl _) ⟨_,e1⟩
  refine I1.laid (a:=s.heap.objs.size + 1) (o:=.ins C s.heap.objs.size []) (t':=s.toks) (fun b u q=>Heap.get?_push_of_some _ q) (Nat.le_of_eq (Heap.size_push _ _)) ?_
  have ne:s.heap.objs.size≠s.heap.objs.size + 1:=Nat.ne_of_lt (Nat.lt_succ_self _)
  refine ⟨by rw [upd_ne ne,upd_same],Nat.zero_le _,ne,e2,fun _=>none,(Heap.Ns1.of_empty e3).at fun o q=>Heap.get?_push_of_some _ q,fun _=>True.intro,fun y hy=>absurd rfl hy⟩
theorem attr_of {prog:Program} {w:World} {env:Env} {e:Expr} {f:Str} {pos:Pos} {s:Shared} {Q:Value→Shared→Prop} (hb:attributeBase e f env (eval e env)=eval e env)
    (h:wpAny (model prog w) A (eval e env) (fun o s₁=>wpAny (model prog w) A (getAttr o f true) Q E s₁) E s):wpAny (model prog w) A (eval (.Attribute e f pos) env) Q E s :=
  Attribute_any_ h (by rw [arm_eval_Attribute,hb])
end
def tFld (K:PySem.W.Frag) (ta:TE) (f:Str):TE:=fun σ H Q=>ta σ H fun x H1=>∃ a C dx fs v,x=.ref a∧H1 a=some (.ins C dx fs)∧Cls K C∧NoAttr K C f∧fs.lookup f=some v∧Q v H1
def sFld (K:PySem.W.Frag) (ta tv:TE) (f:Str):TS:=fun D σ H=>tv σ H fun y H1=>ta σ H1 fun x H2=>∃ a C dx fs,x=.ref a∧H2 a=some (.ins C dx fs)∧Cls K C∧NoAttr K C f∧fs.length < 1000 ∧
  D.nx σ (upd H2 a (.ins C dx (putF f y fs)))
def InOp (X:Cx) (op:Operator) (rd:V→V→Hp→VK→Prop):Prop :=
  ∀ (pins:List (Addr × Obj)) (s:Shared) (σ:St) (H:Hp) (x y:V) (u v:Value) (Q:VK),Inv X pins σ H s→RelV x u→RelV y v→rd x y H Q→wpAny (model X.prog X.w) X.A (inplaceOp op u v) (EP X pins σ Q) X.xe s
def sFldAug (K:PySem.W.Frag) (ta tv:TE) (rd:V→V→Hp→VK→Prop) (f:Str):TS:=fun D σ H=>ta σ H fun x H1=>∃ a C dx fs v,x=.ref a∧H1 a=some (.ins C dx fs)∧Cls K C∧NoAttr K C f∧fs.lookup f=some v ∧
  tv σ H1 fun y H2=>rd v y H2 fun z H3=>∃ dx' fs',H3 a=some (.ins C dx' fs')∧fs'.length < 1000∧D.nx σ (upd H3 a (.ins C dx' (putF f z fs')))
section
variable {X:Cx} {o e value:Expr} {f:Str} {pos pos' tpos:Pos} {ta tv:TE}
theorem pe_fld (he:PE X e ta) (hb:attributeBase e f X.env (eval e X.env)=eval e X.env):PE X (.Attribute e f pos) (tFld X.K ta f):=by
  intro pins s σ H Q I h
  refine attr_of hb (thn (he pins s σ H _ I h) fun u s1 ⟨x,H1,I1,rx,a,C,dx,fs,v,ex,ea,c,n,l,q⟩=>?_)
  subst ex
  obtain rfl:u=Value.ref a:=rx
  exact getattr_ok I1 ea c n l fun u' s2 I2 ru=>⟨v,H1,I2,ru,q⟩
theorem ps_fld (ha:PE X o ta) (hv:PE X value tv) (hs:swapsWith value (some (.Attribute o f pos')) pos.line X.env=pure false):PS X (.Assign [.Attribute o f pos'] value pos) (sFld X.K ta tv f):=by
  intro pins s σ H D I h
  refine plainObj_wpAny_Assign_Attribute (thn (hv pins s σ H _ I h) fun u s1 ⟨y,H1,I1,ry,q⟩=>thn (ha pins s1 σ H1 _ I1 q) fun ov s2 ⟨x,H2,I2,rx,a,C,dx,fs,ex,ea,c,n,l,q2⟩=>?_) hs
  subst ex
  obtain rfl:ov=Value.ref a:=rx
  exact setattr_ok I2 ea c n l ry fun s3 I3=>⟨σ,_,I3,q2⟩
theorem ps_fldaug {op:Operator} {rd:V→V→Hp→VK→Prop} (ha:PE X o ta) (hv:PE X value tv) (hop:InOp X op rd):PS X (.AugAssign (.Attribute o f tpos) op value pos) (sFldAug X.K ta tv rd f):=by
  intro pins s σ H D I h
  refine wpAny_AugAssign_AttributeAny (thn (ha pins s σ H _ I h) fun ov s1 ⟨x,H1,I1,rx,a,C,dx,fs,v,ex,ea,c,n,l,q⟩=>?_)
  subst ex
  obtain rfl:ov=Value.ref a:=rx
  refine getattr_ok I1 ea c n l fun u s2 I2 ru=>thn (hv pins s2 σ H1 _ I2 q) fun w3 s3 ⟨y,H2,I3,ry,q3⟩=>thn (hop pins s3 σ H2 v y u w3 _ I3 ru ry q3) fun w4 s4 ⟨z,H3,I4,rz,dx',fs',ea',l',q4⟩=>?_
  exact setattr_ok I4 ea' c n l' rz fun s5 I5=>⟨σ,_,I5,q4⟩
def rAdd:V→V→Hp→VK→Prop:=fun x y H Q=>∃ i j,x=.int i∧y=.int j∧Q (.int (i + j)) H
theorem in_add:InOp X .Add rAdd:=by
  rintro pins s σ H x y u v Q I rx ry ⟨i,j,rfl,rfl,q⟩
  obtain ⟨t,rfl⟩:=(show ∃ t,u=Value.int i t from rx)
  obtain ⟨t',rfl⟩:=(show ∃ t',v=Value.int j t' from ry)
  exact PyProof.Rows.iadd_int ⟨.int (i + j),H,I.tok _,⟨_,rfl⟩,q⟩
end
end L2
namespace L2
open PySem PySem.Spec PyProof.Rows
structure Room (k:Nat) (A:Around):Prop where
  hd:A.handled=none
  dp:A.depth + 3 * k + 5 < recursionLimit
  un:A.units + 16 * k + 200 < cLine
theorem Room.mono {j k:Nat} {A:Around} (r:Room k A) (h:j≤k):Room j A:=⟨r.hd,by have:=r.dp; omega,by have:=r.un; omega⟩
theorem Room.deeper {k:Nat} {A:Around} (r:Room (k + 1) A) (env:Env):Room k (A.deeper env) :=
  ⟨r.hd,by have:=r.dp; show A.depth + 1 + 3 * k + 5 < _; omega,by have:=r.un; show A.units + 3 + 16 * k + 200 < _; omega⟩
theorem Room.in1 {k:Nat} {A:Around} (r:Room (k + 1) A):Room k A.in1 :=
  ⟨r.hd,by have:=r.dp; show A.depth + 3 * k + 5 < _; omega,by have:=r.un; show A.units + 1 + 16 * k + 200 < _; omega⟩
theorem make_depth {A:Around} {C:Addr} {us:List Value} {kw:List (Str × Value)}:(A.under (.builtin "type.__call__" ⟨.ref C::us,kw⟩)).depth=A.depth + 1:=by
  first | rfl | simp [Around.under,Code.weight,Code.isCreation,Code.isGuard,Code.isCaller,Code.frames,Code.isFrame,guardIds]
theorem make_units {A:Around} {C:Addr} {us:List Value} {kw:List (Str × Value)}:(A.under (.builtin "type.__call__" ⟨.ref C::us,kw⟩)).units=A.units + 1:=by
  first | rfl | simp [Around.under,Code.cUnits,Code.frames,Code.isFrame]
theorem Room.make {k:Nat} {A:Around} (r:Room (k + 1) A) (C:Addr) (us:List Value) (kw:List (Str × Value)):Room k (A.under (.builtin "type.__call__" ⟨.ref C::us,kw⟩)) :=
  ⟨r.hd,by have:=r.dp; rw [make_depth]; omega,by have:=r.un; rw [make_units]; omega⟩
theorem Room.depth {k:Nat} {A:Around} (r:Room k A):A.depth < recursionLimit:=by have:=r.dp; omega
theorem Room.units {k:Nat} {A:Around} (r:Room k A):A.units + 64 < cLine:=by have:=r.un; omega
def tNil:TA:=fun _ H Q=>Q [] H
def tCons (ta:TE) (tr:TA):TA:=fun σ H Q=>ta σ H fun x H1=>tr σ H1 fun xs H2=>Q (x::xs) H2
section
variable {X:Cx} {e:Expr} {es:List Expr} {te:TE} {t:TA} {pos:Pos}
theorem pa_nil:PA X [] tNil:=fun _ _ _ _ H Q I h=>Calls.spliced_nil ⟨[],H,I,.nil,h⟩
theorem pa_cons (ha:PE X e te) (hr:PA X es t) (hs:starEach (e::es) X.env=(false,eval e X.env)::starEach es X.env:=by rfl):PA X (e::es) (tCons te t):=by
  intro pos pins s σ H Q I h
  rw [hs]
  show wpAny _ _ (spliced ((false,eval e X.env)::backTo pos (starEach es X.env))) _ _ s
  refine Calls.spliced_cons (thn (ha pins s σ H _ I h) fun u s1 ⟨x,H1,I1,r1,q1⟩=>?_)
  exact thn (hr pos pins s1 σ H1 _ I1 q1) fun us s2 ⟨xs,H2,I2,r2,q2⟩=>⟨x::xs,H2,I2,.cons r1 r2,q2⟩
def tTup (t:TA):TE:=fun σ H Q=>t σ H fun xs H1=>xs.length≤sizeLine∧∀ p,H1 p=none→Q (.ref p) (upd H1 p (.tup xs))
def tLst (t:TA):TE:=fun σ H Q=>t σ H fun xs H1=>xs.length≤sizeLine∧∀ p,H1 p=none→Q (.ref p) (upd H1 p (.lst xs))
theorem pe_tup {x1} (h:PA X es t):PE X (.Tuple es x1 pos) (tTup t):=by
  intro pins s σ H Q I hq
  refine wpAny_Tuple_spliced (thn (h pos pins s σ H _ I hq) fun us s1 ⟨xs,H1,I1,r,z,q⟩=>⟨by rw [← r.length]; exact z,?_⟩)
  have hf:H1 s1.heap.objs.size=none:=I1.hok.fresh (Nat.le_refl _)
  refine ⟨.ref s1.heap.objs.size,upd H1 s1.heap.objs.size (.tup xs),I1.laid (t':=s1.toks) (fun b u e=>Heap.get?_push_of_some _ e) (Nat.le_refl _) ?_,rfl,q _ hf⟩
  exact ⟨z,us,r,⟨_,Heap.get?_push_size _ rfl,rfl,_,rfl⟩⟩
theorem pe_lst (h:PA X es t):PE X (.List es pos) (tLst t):=by
  intro pins s σ H Q I hq
  refine wpAny_List_spliced (thn (h pos pins s σ H _ I hq) fun us s1 ⟨xs,H1,I1,r,z,q⟩=>⟨by rw [← r.length]; exact z,?_⟩)
  have hf:H1 s1.heap.objs.size=none:=I1.hok.fresh (Nat.le_refl _)
  refine ⟨.ref s1.heap.objs.size,upd H1 s1.heap.objs.size (.lst xs),I1.laid (t':=s1.toks) (fun b u e=>Heap.get?_push_of_some _ e) (Nat.le_refl _) ?_,rfl,q _ hf⟩
  exact ⟨z,us,0,r,Heap.get?_push_size _ rfl⟩
end
abbrev Sp:=List V→Hp→VK→XK→Prop
abbrev CXT:=List Env→Hp→Shared→XK→Value→Shared→Prop
structure Env0 (P:Program) (w:World) (K:PySem.W.Frag) (mg:Str→Option Value) (base:Heap) (A:Around) (outer:List Env) (s:Shared) (H:Hp):Prop where
  frames:A.frames=some outer
  mod:Mod K mg base
  bs:∀ b o,base.get? b=some o→s.heap.get? b=some o∧H b=none
  bsz:base.objs.size≤s.heap.objs.size
  funs:s.heap.FunFrames base outer
  frf:∀ b ∈ frs outer,H b=none
  hok:HOk P w H s.heap
  bare:AllBare s.gens
def CE (outer:List Env) (P:Program) (w:World) (H:Hp) (s:Shared) (Q:VK) (u:Value) (s':Shared):Prop :=
  ∃ v H',s'.os=s.os∧AllBare s'.gens∧Un (frs outer) [] H H' s.heap s'.heap∧HOk P w H' s'.heap∧RelV v u∧Q v H'
def CR (CX:CXT) (outer:List Env) (P:Program) (w:World) (H:Hp) (s:Shared) (Q:VK) (E:XK) (r:Result) (s':Shared):Prop :=
  match r with
  | .ok (.ret u)=>CE outer P w H s Q u s'
  | .ok _=>False
  | .error e=>CX outer H s E e s'
structure FnOk (P:Program) (w:World) (K:PySem.W.Frag) (mg:Str→Option Value) (base:Heap) (CX:CXT) (k:Nat) (f:Addr) (fd:FuncData) (ps:List Str) (sp:Sp):Prop where
  len:∀ vs H Q E,sp vs H Q E→vs.length=ps.length
  run:∀ (A:Around) (outer:List Env) (s:Shared) (H:Hp) (args:Args) (us:List Value) (vs:List V) (Q:VK) (E:XK),Room k A→Env0 P w K mg base A outer s H→BindsTo s fd args (ps.zip us)→Vals vs us→sp vs H Q E →
    codeAny (model P w) A (.call (.ref f) args) (CR CX outer P w H s Q E) s
theorem Env0.make {P:Program} {w:World} {K:PySem.W.Frag} {mg:Str→Option Value} {base:Heap} {A:Around} {outer:List Env} {s:Shared} {H:Hp} (e:Env0 P w K mg base A outer s H) (C:Addr) (us:List Value) (kw:List (Str × Value)) :
    Env0 P w K mg base (A.under (.builtin "type.__call__" ⟨.ref C::us,kw⟩)) outer s H:=⟨by first | exact e.frames | (simpa [Around.under,Code.envs,Code.isFrame,pushEnvs] using e.frames),e.mod,e.bs,e.bsz,e.funs,e.frf,e.hok,e.bare⟩
theorem Env0.in1 {P:Program} {w:World} {K:PySem.W.Frag} {mg:Str→Option Value} {base:Heap} {A:Around} {outer:List Env} {s:Shared} {H:Hp} (e:Env0 P w K mg base A outer s H) :
    Env0 P w K mg base A.in1 outer s H:=⟨e.frames,e.mod,e.bs,e.bsz,e.funs,e.frf,e.hok,e.bare⟩
section
variable {X:Cx} {pins:List (Addr × Obj)} {σ:St} {H:Hp} {s s':Shared}
theorem Inv.env0 (I:Inv X pins σ H s):Env0 X.prog X.w X.K X.mg X.base X.A X.stack s H :=
  ⟨I.ok.frames,I.ok.mod,I.bs,Nat.le_trans I.ok.bsz I.sz,I.stack,I.stkFree,I.hok,I.bare⟩
theorem Inv.after {Q:VK} {u:Value} (I:Inv X pins σ H s) (h:CE X.stack X.prog X.w H s Q u s'):EP X pins σ Q u s':=by
  obtain ⟨v,H',os,bare,un,hok,r,q⟩:=h
  obtain ⟨hh,g,d,t,os'⟩:=s'
  obtain rfl:os'=s.os:=os
  exact ⟨v,H',I.call (h':=hh) (g':=g) (d':=d) (t':=t) (ch:=[]) un hok bare (fun b z=>absurd z (by simp)),r,q⟩
end
def tCall (sp:Sp) (dvs:List V) (E:XK) (t:TA):TE:=fun σ H Q=>t σ H fun vs H1=>sp (vs ++ dvs) H1 Q E
def tMake (C:Addr) (sp:Sp) (dvs:List V) (E:XK) (t:TA):TE:=fun σ H Q=>t σ H fun vs H1=>∀ x dx,H1 x=none→H1 dx=none→dx≠x →
  sp (.ref x::(vs ++ dvs)) (upd (upd H1 dx (.own x)) x (.ins C dx [])) (fun v H2=>v=.non∧Q (.ref x) H2) E
def Binds (K:PySem.W.Frag) (fd:FuncData) (ps:List Str) (ds:List Value):Prop :=
  ∀ (s:Shared) (us:List Value),K.In s.heap→(us ++ ds).length=ps.length→BindsTo s fd ⟨us,[]⟩ (ps.zip (us ++ ds))
theorem Binds.all {K:PySem.W.Frag} {fd:FuncData} {ps:List Str} (h:∀ us:List Value,us.length=ps.length→bindArgs fd ⟨us,[]⟩=pure (ps.zip us)):Binds K fd ps []:=fun s us _ hl=>by
  rw [List.append_nil] at hl ⊢
  exact .of_eq (h us hl)
def Passes (CX:CXT) (X:Cx) (E:XK):Prop:=∀ (pins:List (Addr × Obj)) (σ:St) (H:Hp) (s:Shared) (e:Value) (s':Shared),Inv X pins σ H s→CX X.stack H s E e s'→X.xe e s'
section
variable {X:Cx} {CX:CXT} {k:Nat} {f C:Addr} {fd:FuncData} {ps:List Str} {sp:Sp} {dvs:List V} {ds:List Value} {E:XK} {x m:Str} {p pos apos:Pos} {e o:Expr} {es:List Expr} {ta:TE} {t:TA}
theorem run_fn {pins:List (Addr × Obj)} {σ:St} {H:Hp} {s:Shared} {Q:VK} {us:List Value} {vs:List V} (F:FnOk X.prog X.w X.K X.mg X.base CX k f fd ps sp) (hr:Room k X.A) (hb:Binds X.K fd ps ds) (hd:Vals dvs ds) (hx:Passes CX X E)
    (I:Inv X pins σ H s) (r:Vals vs us) (h:sp (vs ++ dvs) H Q E):wpAny (model X.prog X.w) X.A (call (.ref f) us) (EP X pins σ Q) X.xe s:=by
  have r2:Vals (vs ++ dvs) (us ++ ds):=r.append hd
  have hl:(us ++ ds).length=ps.length:=by rw [← r2.length]; exact F.len _ _ _ _ h
  refine wpAny_call (codeAny_mono (F.run X.A X.stack s H ⟨us,[]⟩ (us ++ ds) (vs ++ dvs) Q E hr I.env0 (hb s us I.kIn hl) r2 h) fun r s' hq=>?_)
  cases r with
  | error e=>exact hx pins σ H s e s' I hq
  | ok fl =>
    cases fl with
    | ret u=>exact I.after hq
    | next=>exact False.elim hq
    | brk=>exact False.elim hq
    | cont=>exact False.elim hq
theorem pe_call (F:FnOk X.prog X.w X.K X.mg X.base CX k f fd ps sp) (hr:Room k X.A) (hg:Gl X x) (hm:X.mg x=some (.ref f)) (hk:PySem.W.keepIn X.K (.ref f)=true) (hb:Binds X.K fd ps ds) (hd:Vals dvs ds) (hx:Passes CX X E)
    (ha:PA X (e::es) t) (hdb:(x == ("__debug__":Str))=false:=by decide) (he:starEach (e::es) X.env=(false,eval e X.env)::starEach es X.env:=by rfl) (hpl:(backTo pos (starEach es X.env)).any (·.1)=false:=by rfl) :
    PE X (.Call (.Name x p) (e::es) [] pos) (tCall sp dvs E t):=by
  intro pins s σ H Q I h
  refine wpAny_Call_Name_kw (ld_glob I hg hm ?_ hdb)
  refine PySem.W.callWith_K (h₀:=X.base) I.ok.mod.kin hk (thn (ha pos pins s σ H _ I h) fun us s1 ⟨vs,H1,I1,r,q⟩=>⟨I1.kIn,?_⟩) he hpl
  exact run_fn F hr hb hd hx I1 r q
structure Mk (K:PySem.W.Frag) (C f:Addr):Prop where
  makes:PySem.W.makesIn K C=true
  init:PySem.W.findIn K (.ref C) "__init__" = some (some (.ref f))
  fn:PySem.W.isFn K (.ref f)=true
  kp:PySem.W.keepIn K (.ref C)=true
theorem run_make {pins:List (Addr × Obj)} {σ:St} {H:Hp} {s:Shared} {Q:VK} {us:List Value} {vs:List V} (M:Mk X.K C f) (F:FnOk X.prog X.w X.K X.mg X.base CX k f fd ps sp) (hr:Room (k + 1) X.A) (hb:Binds X.K fd ps ds) (hd:Vals dvs ds)
    (hx:Passes CX X E) (I:Inv X pins σ H s) (r:Vals vs us)
    (h:∀ x dx,H x=none→H dx=none→dx≠x→sp (.ref x::(vs ++ dvs)) (upd (upd H dx (.own x)) x (.ins C dx [])) (fun v H2=>v=.non∧Q (.ref x) H2) E) :
    wpAny (model X.prog X.w) X.A (call (.ref C) us) (EP X pins σ Q) X.xe s:=by
  have hq:=h (s.heap.objs.size + 1) s.heap.objs.size (I.hok.fresh (Nat.le_succ _)) (I.hok.fresh (Nat.le_refl _)) (Nat.ne_of_lt (Nat.lt_succ_self _))
  have I2:=Inv.made (C:=C) I
  have r2:Vals (V.ref (s.heap.objs.size + 1)::(vs ++ dvs)) (Value.ref (s.heap.objs.size + 1)::(us ++ ds)):=.cons rfl (r.append hd)
  have hl:(Value.ref (s.heap.objs.size + 1)::us ++ ds).length=ps.length:=by
    have e:=r2.length
    rw [F.len _ _ _ _ hq] at e
    exact e.symm
  refine wpAny_call (make_map (f:=f) I.kIn M.makes M.init (beq_iff_eq.mp M.fn) (codeAny_mono (F.run _ X.stack _ _ ⟨Value.ref (s.heap.objs.size + 1)::us,[]⟩ (Value.ref (s.heap.objs.size + 1)::(us ++ ds)) _ _ E (hr.make C us [])
    (I2.env0.make C us []) (hb _ (Value.ref (s.heap.objs.size + 1)::us) I2.kIn hl) r2 hq) fun r s' hq'=>?_))
  cases r with
  | error e=>exact hx pins σ _ _ e s' I2 hq'
  | ok fl =>
    cases fl with
    | ret u =>
      obtain ⟨v,H',I3,rv,ev,q3⟩:=I2.after hq'
      subst ev
      exact ⟨rv,⟨V.ref (s.heap.objs.size + 1),H',I3,rfl,q3⟩⟩
    | next=>exact False.elim hq'
    | brk=>exact False.elim hq'
    | cont=>exact False.elim hq'
theorem pe_make (M:Mk X.K C f) (F:FnOk X.prog X.w X.K X.mg X.base CX k f fd ps sp) (hr:Room (k + 1) X.A) (hg:Gl X x) (hm:X.mg x=some (.ref C)) (hb:Binds X.K fd ps ds) (hd:Vals dvs ds) (hx:Passes CX X E)
    (ha:PA X (e::es) t) (hdb:(x == ("__debug__":Str))=false:=by decide) (he:starEach (e::es) X.env=(false,eval e X.env)::starEach es X.env:=by rfl) (hpl:(backTo pos (starEach es X.env)).any (·.1)=false:=by rfl) :
    PE X (.Call (.Name x p) (e::es) [] pos) (tMake C sp dvs E t):=by
  intro pins s σ H Q I h
  refine wpAny_Call_Name_kw (ld_glob I hg hm ?_ hdb)
  refine PySem.W.callWith_K (h₀:=X.base) I.ok.mod.kin M.kp (thn (ha pos pins s σ H _ I h) fun us s1 ⟨vs,H1,I1,r,q⟩=>⟨I1.kIn,?_⟩) he hpl
  exact run_make M F hr hb hd hx I1 r q
theorem pe_make0 (M:Mk X.K C f) (F:FnOk X.prog X.w X.K X.mg X.base CX k f fd ps sp) (hr:Room (k + 1) X.A) (hg:Gl X x) (hm:X.mg x=some (.ref C)) (hb:Binds X.K fd ps ds) (hd:Vals dvs ds) (hx:Passes CX X E)
    (hdb:(x == ("__debug__":Str))=false:=by decide):PE X (.Call (.Name x p) [] [] pos) (tMake C sp dvs E tNil):=by
  intro pins s σ H Q I h
  refine wpAny_Call_Name_kw (ld_glob I hg hm ?_ hdb)
  exact PySem.W.callWith_K0 I.kIn M.kp (run_make (us:=[]) M F hr hb hd hx I .nil h)
end
structure FnScope (N P:List Str) (sc:Scope):Prop where
  kind:sc.kind=.function
  co:sc.isCoroutine=false
  gen:sc.isGenerator=false
  nd:N.Nodup
  pre:N.take P.length=P
  par:∀ x ∈ P,sc.names.lookup x=some .local∨sc.names.lookup x=some .cell
  nofree:∀ y ∈ sc.names,y.2≠.free
theorem bindL_out {kindOf:Str→Option NameKind} {x:Str}:∀ {binds:List (Str × Value)} {m:Str→Option Value},(∀ v,(x,v) ∉ binds)→bindL kindOf binds m x=m x
  | [],_,_=>rfl
  | (n,v)::r,m,h=>by
    unfold bindL
    rw [bindL_out fun w hw=>h w (List.mem_cons_of_mem _ hw)]
    split
    · have:x≠n:=by rintro rfl; exact h v List.mem_cons_self
      simp [this]
    · rfl
theorem bindC_out {kindOf:Str→Option NameKind} {x:Str}:∀ {binds:List (Str × Value)} {m:Str→Option Value},(∀ v,(x,v) ∉ binds)→bindC kindOf binds m x=m x
  | [],_,_=>rfl
  | (n,v)::r,m,h=>by
    unfold bindC
    rw [bindC_out fun w hw=>h w (List.mem_cons_of_mem _ hw)]
    split
    · rfl
    · have:x≠n:=by rintro rfl; exact h v List.mem_cons_self
      simp [this]
theorem bindL_get {kindOf:Str→Option NameKind} {x:Str} {v:Value}:∀ {P:List Str} {vs:List Value} {i:Nat} {m:Str→Option Value},P.Nodup→P[i]?=some x→vs[i]?=some v→kindOf x=some .local →
    bindL kindOf (P.zip vs) m x=some v
  | [],_,_,_,_,h,_,_=>by simp at h
  | _::_,[],_,_,_,_,h,_=>by simp at h
  | p::P,w::vs,0,m,nd,h1,h2,hk=>by
    simp at h1 h2; subst h1; subst h2
    show bindL kindOf ((p,w)::P.zip vs) m p=_
    unfold bindL
    rw [bindL_out fun v hv=>(List.nodup_cons.mp nd).1 (List.of_mem_zip hv).1,if_pos hk]
    simp
  | p::P,w::vs,i + 1,m,nd,h1,h2,hk=>by
    show bindL kindOf ((p,w)::P.zip vs) m x=_
    unfold bindL
    exact bindL_get (i:=i) (List.nodup_cons.mp nd).2 (by simpa using h1) (by simpa using h2) hk
theorem bindC_get {kindOf:Str→Option NameKind} {x:Str} {v:Value}:∀ {P:List Str} {vs:List Value} {i:Nat} {m:Str→Option Value},P.Nodup→P[i]?=some x→vs[i]?=some v→kindOf x≠some .local →
    bindC kindOf (P.zip vs) m x=some v
  | [],_,_,_,_,h,_,_=>by simp at h
  | _::_,[],_,_,_,_,h,_=>by simp at h
  | p::P,w::vs,0,m,nd,h1,h2,hk=>by
    simp at h1 h2; subst h1; subst h2
    show bindC kindOf ((p,w)::P.zip vs) m p=_
    unfold bindC
    rw [bindC_out fun v hv=>(List.nodup_cons.mp nd).1 (List.of_mem_zip hv).1,if_neg hk]
    simp
  | p::P,w::vs,i + 1,m,nd,h1,h2,hk=>by
    show bindC kindOf ((p,w)::P.zip vs) m x=_
    unfold bindC
    exact bindC_get (i:=i) (List.nodup_cons.mp nd).2 (by simpa using h1) (by simpa using h2) hk
def start (N:List Str) (vs:List V):St:=vs.map some ++ List.replicate (N.length - vs.length) none
def cxOf (CX:CXT) (P:Program) (w:World) (K:PySem.W.Frag) (mg:Str→Option Value) (base:Heap) (N:List Str) (qual:Str) (scope:Scope) (f:Addr) (cd:Value) (A:Around) (outer:List Env) (s:Shared) (H:Hp) (E:XK):Cx where
  prog:=P
  w:=w
  K:=K
  mg:=mg
  base:=base
  A:=A.deeper (envOfC qual scope s.heap.objs.size f cd)
  N:=N
  s_0:=s
  H_0:=H
  env:=envOfC qual scope s.heap.objs.size f cd
  outer:=outer
  stack:=envOfC qual scope s.heap.objs.size f cd::outer
  ex:=[]
  calm:=true
  fn:=fun _=>true
  pn:=[]
  xe:=fun e s'=>wpAny (model P w) (A.deeper (envOfC qual scope s.heap.objs.size f cd)) (leaving (envOfC qual scope s.heap.objs.size f cd) e) (fun _ s''=>CX outer H s E e s'') (fun e' s''=>CX outer H s E e' s'') s'
theorem cell_has {sc:Scope} {n:Nat} {x:Str} (h:sc.names.lookup x=some .cell):∃ c,(cellsFrom n sc.names []).lookup x=some c:=by
  have q:=PySem.W.cellsFrom_some sc.names n [] (.inl h)
  exact Option.isSome_iff_exists.mp q
theorem inv_start {CX:CXT} {P:Program} {w:World} {K:PySem.W.Frag} {mg:Str→Option Value} {base:Heap} {N ps:List Str} {qual:Str} {scope:Scope} {f:Addr} {cd:Value} {A:Around} {outer:List Env} {s s1:Shared} {H:Hp} {E:XK} {us:List Value} {vs:List V}
    (S:FnScope N ps scope) (hd:A.handled=none) (e0:Env0 P w K mg base A outer s H) (hl:vs.length=ps.length) (r:Vals vs us)
    (x:InCallC s s.heap.objs.size (bindL (envOfC qual scope s.heap.objs.size f cd).kindOf (ps.zip us) fun _=>none) (cellsFrom (s.heap.objs.size + 1) scope.names []) (bindC (envOfC qual scope s.heap.objs.size f cd).kindOf (ps.zip us) fun _=>none) s1) :
    Inv (cxOf CX P w K mg base N qual scope f cd A outer s H E) [] (start N vs) H s1:=by
  have hpl:ps.length≤N.length:=by have:=congrArg List.length S.pre; rw [List.length_take] at this; omega
  obtain ⟨h1,tk,rfl,hk⟩:=x.done
  have noA:∀ b:Addr,b ∉ (cxOf CX P w K mg base N qual scope f cd A outer s H E).ex:=fun b z=>absurd (show b ∈ ([]:List Addr) from z) (by simp)
  refine ⟨⟨e0.mod,S.kind,rfl,rfl,Nat.le_refl _,fun y z c h1 h2=>?_,fun y hy=>?_,fun y c _ h=>?_,fun _=>hd,Around.frames_deeper e0.frames,.inr ⟨rfl,rfl⟩,fun b z=>absurd z (noA b),e0.bs,e0.bsz,fun b _ _=>noA b,fun b z=>absurd z (noA b),e0.funs,e0.frf⟩,
    rfl,e0.bare,Un.kept hk,⟨_,x.toInCall.ns,fun i y v h1 h2 h3=>?_⟩,fun y c h=>⟨_,x.cell y c h⟩,e0.hok.fresh (Nat.le_refl _),fun y c h=>?_,fun p hp=>absurd (show p ∈ ([]:List (Addr × Obj)) from hp) (by simp),e0.hok.kept hk,?_⟩
  · exact name_of_addr x.apart (PySem.mem_of_lookup h1) (PySem.mem_of_lookup h2)
  · have hy:scope.names.lookup y=some .cell∨scope.names.lookup y=some .free:=hy
    rcases hy with hy | hy
    · exact cell_has hy
    · exact absurd rfl (S.nofree _ (PySem.mem_of_lookup hy))
  · exact Nat.le_of_lt (x.above y c (PySem.mem_of_lookup h))
  · have hi:i < vs.length:=by
      unfold start at h2
      by_cases hi:i < vs.length
      · exact hi
      · rw [List.getElem?_append_right (by simpa using hi)] at h2
        rw [List.getElem?_replicate] at h2
        split at h2 <;> cases h2
    have ha:vs[i]?=some v:=by
      unfold start at h2
      rw [List.getElem?_append_left (by simpa using hi),List.getElem?_map] at h2
      cases e:vs[i]? with
      | none=>rw [e] at h2; cases h2
      | some a=>rw [e] at h2; cases h2; rfl
    obtain ⟨u,hu,rv⟩:=r.get ha
    have hp:ps[i]?=some y:=by
      rw [← S.pre,List.getElem?_take_of_lt (by omega)]; exact h1
    have ndP:ps.Nodup:=by rw [← S.pre]; exact S.nd.sublist (List.take_sublist _ _)
    refine ⟨u,rv,?_⟩
    rcases S.par y (List.mem_of_getElem? hp) with k | k
    · exact .inl ⟨k,bindL_get ndP hp hu k⟩
    · obtain ⟨c,e⟩:=cell_has (n:=s.heap.objs.size + 1) k
      refine .inr ⟨.inl k,c,e,?_⟩
      have q:=x.cell y c e
      rw [bindC_get ndP hp hu (by show scope.names.lookup y≠_; rw [k]; decide)] at q
      exact q
  · exact e0.hok.fresh (Nat.le_of_lt (x.above y c (PySem.mem_of_lookup h)))
  · unfold start
    show _=N.length
    rw [List.length_append,List.length_map,List.length_replicate]
    omega
theorem fn_of {CX:CXT} {P:Program} {w:World} {K:PySem.W.Frag} {mg:Str→Option Value} {base:Heap} {k:Nat} {f:Addr} {name qual:Str} {params:Arguments} {body:List Stmt} {scope:Scope} {dV kV doc pm cdv ct oc:Value} {an od:Option Addr}
    {osl:Array (Option Value)} {N ps:List Str} {sp:Sp} (lk:K.lookup f=some ⟨oc,od,.func (PySem.W.fnOf name qual params body scope dV kV doc pm an cdv ct),osl⟩) (hcd:PySem.W.codeIn K cdv qual=true) (S:FnScope N ps scope)
    (len:∀ vs H Q E,sp vs H Q E→vs.length=ps.length)
    (hbody:∀ (A:Around) (outer:List Env) (s:Shared) (H:Hp) (vs:List V) (Q:VK) (E:XK),Room k (A.deeper (envOfC qual scope s.heap.objs.size f cdv))→sp vs H Q E →
      ∃ t,PSs (cxOf CX P w K mg base N qual scope f cdv A outer s H E) body t∧t { nx:=fun _ H'=>Q .non H',rt:=Q } (start N vs) H) :
    FnOk P w K mg base CX (k + 1) f (PySem.W.fnOf name qual params body scope dV kV doc pm an cdv ct) ps sp:=by
  refine ⟨len,fun A outer s H args us vs Q E hr e0 hb r hsp=>?_⟩
  have hl:=len _ _ _ _ hsp
  have KX:K.In s.heap:=e0.mod.kin.keeps fun b o e=>(e0.bs b o e).1
  have lim:s.heap.NoLimit:=e0.mod.nolimit.keeps fun b o e=>(e0.bs b o e).1
  have hkind:∀ y ∈ ps.zip us,scope.names.lookup y.1=some .local∨(scope.names.lookup y.1=some .cell∧((cellsFrom (s.heap.objs.size + 1) scope.names []).lookup y.1).isSome=true):=fun ⟨n,v⟩ hy=>by
    rcases S.par n (List.of_mem_zip hy).1 with q | q
    · exact .inl q
    · exact .inr ⟨q,PySem.W.cellsFrom_some _ _ _ (.inl q)⟩
  refine codeAny_call_function hr.depth (KX _ _ lk) rfl S.co S.gen rfl (PySem.W.codeRec_of KX hcd) (hb _ _ _ _ ?_)
  refine wpAny_newFunctionEnv_cells S.kind hkind fun env he s1 x=>?_
  subst he
  refine ⟨lim.keeps x.toInCall.keep,codeAny_func ?_⟩
  obtain ⟨t,ht,hq⟩:=hbody A outer s H vs Q E (hr.deeper _) hsp
  have I:Inv (cxOf CX P w K mg base N qual scope f cdv A outer s H E) [] (start N vs) H s1:=inv_start S hr.hd e0 hl r x
  refine wpAny_mono (ht [] s1 (start N vs) H _ I hq) (fun fl s' hs=>?_) fun e s' hs=>hs
  have fin:∀ {σ':St} {H':Hp} {v:V} {u:Value},Inv (cxOf CX P w K mg base N qual scope f cdv A outer s H E) [] σ' H' s'→RelV v u→Q v H'→CE outer P w H s Q u s' :=
    fun {σ' H' v u} J rv q=>⟨v,H',J.os,J.bare,J.base,J.hok,rv,q⟩
  cases fl with
  | ret u =>
    obtain ⟨v,σ',H',J,rv,q⟩:=hs
    exact fin J rv q
  | next =>
    obtain ⟨σ',H',J,q⟩:=hs
    exact fin (v:=V.non) (u:=Value.none) J rfl q
  | brk =>
    obtain ⟨_,_,_,q⟩:=hs
    exact False.elim q
  | cont =>
    obtain ⟨_,_,_,q⟩:=hs
    exact False.elim q
end L2
namespace L2
open PySem PySem.Spec PyProof.Rows
section
variable {X:Cx} {x:Str} {p pos:Pos} {e:Expr} {es:List Expr} {t:TA} {id T:String} {r:List V→Hp→VK→Prop}
def tCB (r:List V→Hp→VK→Prop) (t:TA):TE:=fun σ H Q=>t σ H fun vs H1=>r vs H1 Q
theorem pe_callB (hc:CallR X (.builtin id) r) (hg:Gl X x) (hm:X.mg x=none) (hv:bootBuiltins x=some (.builtin id)) (ha:PA X (e::es) t) (hn:x≠"__name__":=by decide) (hdb:(x == ("__debug__":Str))=false:=by decide)
    (he:starEach (e::es) X.env=(false,eval e X.env)::starEach es X.env:=by rfl) (hpl:(backTo pos (starEach es X.env)).any (·.1)=false:=by rfl):PE X (.Call (.Name x p) (e::es) [] pos) (tCB r t):=by
  intro pins s σ H Q I h
  refine wpAny_Call_Name_kw (ld_blt I hg hm hv ?_ hn hdb)
  exact PyProof.Rows.callWith_builtin1 (thn (ha pos pins s σ H _ I h) fun us s1 ⟨vs,H1,I1,r1,q1⟩=>hc pins s1 σ H1 vs us Q I1 r1 q1) he hpl
theorem pe_callTy (hc:CallR X (.type T) r) (hg:Gl X x) (hm:X.mg x=none) (hv:bootBuiltins x=some (.type T)) (ha:PA X (e::es) t) (hn:x≠"__name__":=by decide) (hdb:(x == ("__debug__":Str))=false:=by decide)
    (he:starEach (e::es) X.env=(false,eval e X.env)::starEach es X.env:=by rfl) (hpl:(backTo pos (starEach es X.env)).any (·.1)=false:=by rfl):PE X (.Call (.Name x p) (e::es) [] pos) (tCB r t):=by
  intro pins s σ H Q I h
  refine wpAny_Call_Name_kw (ld_blt I hg hm hv ?_ hn hdb)
  exact PyProof.Rows.callWith_type1 (thn (ha pos pins s σ H _ I h) fun us s1 ⟨vs,H1,I1,r1,q1⟩=>hc pins s1 σ H1 vs us Q I1 r1 q1) he hpl
end
end L2
namespace HT
open PySem PyProof.Rows
section
variable {prog:Program} {w:World} {A:Around} {E:Value→Shared→Prop} {s:Shared}
def sIx (n d:Nat):Option Int→Nat
  | none=>d
  | some v=>if v < 0 then (v + (n:Int)).toNat else min v.toNat n
theorem sIx_nat (n d k:Nat):sIx n d (some (k:Int))=min k n:=by
  show (if (k:Int) < 0 then ((k:Int) + (n:Int)).toNat else min (k:Int).toNat n)=min k n
  rw [if_neg (by omega),Int.toNat_natCast]
end
end HT
namespace L2
open PySem PySem.Spec PyProof.Rows
abbrev TO:=St→Hp→(Option Int→Hp→Prop)→Prop
def PO (X:Cx) (e:Option Expr) (t:TO):Prop :=
  ∀ (pins:List (Addr × Obj)) (s:Shared) (σ:St) (H:Hp) (Q:Option Int→Hp→Prop),Inv X pins σ H s→t σ H Q →
    wpAny (model X.prog X.w) X.A (evalPart e X.env) (fun u s'=>∃ o H',Inv X pins σ H' s'∧IsPart u o∧Q o H') X.xe s
def tNoPart:TO:=fun _ H Q=>Q none H
def tPart (t:TE):TO:=fun σ H Q=>t σ H fun x H1=>∃ i,x=.int i∧Q (some i) H1
section
variable {X:Cx} {e:Expr} {te:TE} {lo hi:Option Expr} {tl th:TO} {pos p2:Pos}
theorem po_none:PO X none tNoPart:=by
  intro pins s σ H Q I h
  rw [evalPart_none]
  exact wpAny_pure ⟨none,H,I,.none,h⟩
theorem po_some (h:PE X e te):PO X (some e) (tPart te):=by
  intro pins s σ H Q I hw
  rw [evalPart_some]
  refine thn (h pins s σ H _ I hw) fun u s1 ⟨x,H1,I1,r1,q1⟩=>?_
  obtain ⟨i,rfl,q⟩:=q1
  obtain ⟨t,rfl⟩:=r1
  exact ⟨some i,H1,I1,.int i t,q⟩
def SlR (X:Cx) (r:V→Option Int→Option Int→Hp→VK→Prop):Prop :=
  ∀ (pins:List (Addr × Obj)) (s:Shared) (σ:St) (H:Hp) (x:V) (v vl vu:Value) (lo hi:Option Int) (sl:Addr) (Q:VK),Inv X pins σ H s→RelV x v→s.heap.IsSliceOf sl vl vu .none→IsPart vl lo→IsPart vu hi→r x lo hi H Q →
    ∃ T id,typeLookup (.type T) "__getitem__" = pure (some (.builtin id))∧s.TypeIs v T∧wpAny (model X.prog X.w) X.A (getItem v (.ref sl)) (EP X pins σ Q) X.xe s
def tSl (r:V→Option Int→Option Int→Hp→VK→Prop) (te:TE) (tl th:TO):TE:=fun σ H Q=>te σ H fun x H1=>tl σ H1 fun l H2=>th σ H2 fun u H3=>r x l u H3 Q
theorem pe_slice {r:V→Option Int→Option Int→Hp→VK→Prop} (hr:SlR X r) (he:PE X e te) (hl:PO X lo tl) (hu:PO X hi th):PE X (.Subscript e (.Slice lo hi none p2) pos) (tSl r te tl th):=by
  intro pins s σ H Q I h
  refine Subscript_ (thn (he pins s σ H _ I h) fun v s1 ⟨x,H1,I1,r1,q1⟩=>?_)
  refine wpAny_Slice (thn (hl pins s1 σ H1 _ I1 q1) fun vl s2 ⟨l,H2,I2,pl,q2⟩=>thn (hu pins s2 σ H2 _ I2 q2) fun vu s3 ⟨u,H3,I3,pu,q3⟩=>?_)
  rw [evalPart_none]
  refine wpAny_pure ?_
  have I4:Inv X pins σ H3 { s3 with heap:=s3.heap.push { cls:=.type "slice",data:=.fields #[vl,vu,.none] } }:=I3.kept (t':=s3.toks) fun b ob q=>Heap.get?_push_of_some _ q
  obtain ⟨T,id,hT,ht,hg⟩:=hr pins { s3 with heap:=s3.heap.push { cls:=.type "slice",data:=.fields #[vl,vu,.none] } } σ H3 x v vl vu l u s3.heap.objs.size Q I4 r1 (Heap.IsSliceOf.new ..) pl pu q3
  show wpAny (model X.prog X.w) X.A (subscriptTail e (.Slice lo hi none p2) v (.ref s3.heap.objs.size)) (EP X pins σ Q) X.xe { s3 with heap:=s3.heap.push { cls:=.type "slice",data:=.fields #[vl,vu,.none] } }
  exact tail_any (ops:=[.ref s3.heap.objs.size,v]) ht hT hg (by with_unfolding_all rfl)
def cutV (xs:List V) (lo hi:Option Int):List V:=(xs.drop (HT.sIx xs.length 0 lo)).take (HT.sIx xs.length xs.length hi - HT.sIx xs.length 0 lo)
theorem cutV_length (xs:List V) (lo hi:Option Int):(cutV xs lo hi).length≤xs.length:=by
  unfold cutV
  rw [List.length_take,List.length_drop]
  omega
end
end L2
namespace L2
open PySem PySem.Spec PyProof.Rows
def ixN (n:Nat) (i:Int):Option Nat:=if 0≤i then (if i < n then some i.toNat else none) else if -(n:Int)≤i then some (i + n).toNat else none
def atI {α:Type} (xs:List α) (i:Int):Option α:=(ixN xs.length i).bind fun j=>xs[j]?
theorem ixN_seq {n:Nat} {i:Int} {j:Nat} (h:ixN n i=some j):seqIndex? i n=some j∧j < n∧-(n:Int)≤i∧i < n:=by
  unfold ixN at h
  by_cases h0:0≤i
  · rw [if_pos h0] at h
    by_cases h1:i < n
    · rw [if_pos h1] at h
      have e:i.toNat=j:=Option.some.inj h
      exact ⟨by rw [seqIndex_of h0 h1,e],by omega,by omega,h1⟩
    · rw [if_neg h1] at h; cases h
  · rw [if_neg h0] at h
    by_cases h1:-(n:Int)≤i
    · rw [if_pos h1] at h
      have e:(i + n).toNat=j:=Option.some.inj h
      exact ⟨by rw [seqIndex_neg (by omega) h1,e],by omega,h1,by omega⟩
    · rw [if_neg h1] at h; cases h
theorem atI_get {α:Type} {xs:List α} {i:Int} {v:α} (h:atI xs i=some v):∃ j,seqIndex? i xs.length=some j∧xs[j]?=some v∧j < xs.length∧-(xs.length:Int)≤i∧i < xs.length:=by
  unfold atI at h
  cases e:ixN xs.length i with
  | none=>rw [e] at h; cases h
  | some j =>
    rw [e] at h
    obtain ⟨h1,h2,h3,h4⟩:=ixN_seq e
    exact ⟨j,h1,h,h2,h3,h4⟩
theorem atI_nat {α:Type} {xs:List α} {j:Nat} {v:α} (h:xs[j]?=some v):atI xs (j:Int)=some v:=by
  have hj:j < xs.length:=(List.getElem?_eq_some_iff.mp h).1
  have e:ixN xs.length (j:Int)=some j:=by
    unfold ixN
    rw [if_pos (by omega),if_pos (by omega)]; simp
  unfold atI; rw [e]; exact h
theorem atI_last {α:Type} (xs:List α) (v:α):atI (xs ++ [v]) (-1)=some v:=by
  have hl:(xs ++ [v]).length=xs.length + 1:=by simp
  have e:ixN (xs ++ [v]).length (-1)=some xs.length:=by
    unfold ixN
    rw [hl,if_neg (by decide),if_pos (by omega)]
    congr 1
    omega
  unfold atI
  rw [e]
  show (xs ++ [v])[xs.length]?=some v
  simp
def PlainIx (b:Expr):Prop:=∀ o i,subscripted b false o i=operate [o,i] (getItem o i)
def IxR (X:Cx) (r:R2):Prop :=
  ∀ (value slice:Expr) (pins:List (Addr × Obj)) (s:Shared) (σ:St) (H:Hp) (x y:V) (v u:Value) (Q:VK),Inv X pins σ H s→RelV x v→RelV y u→r x y H Q →
    subscripted slice false v u=operate [v,u] (getItem v u)→wpAny (model X.prog X.w) X.A (subscriptTail value slice v u) (EP X pins σ Q) X.xe s
def MtR (X:Cx) (id:String) (r:V→List V→Hp→VK→Prop):Prop :=
  ∀ (pins:List (Addr × Obj)) (s:Shared) (σ:St) (H:Hp) (x:V) (xs:List V) (v:Value) (us:List Value) (Q:VK),Inv X pins σ H s→RelV x v→Vals xs us→r x xs H Q →
    wpAny (model X.prog X.w) X.A (call (.builtin id) (v::us)) (EP X pins σ Q) X.xe s
section
variable {X:Cx} {a b:Expr} {ta tb:TE} {pos:Pos}
theorem pe_ix {r:R2} (hr:IxR X r) (ha:PE X a ta) (hb:PE X b tb) (hs:PlainIx b):PE X (.Subscript a b pos) (tOp r ta tb):=by
  intro pins s σ H Q I h
  exact Subscript_ (binT ha hb I h fun v u s2 x y H2 I2 rx ry q=>hr a b pins s2 σ H2 x y v u Q I2 rx ry q (hs _ _))
def rIxL (K:PySem.W.Frag):R2:=fun x y H Q=>∃ p xs i v,x=.ref p∧y=.int i∧SqL K H p xs∧atI xs i=some v∧Q v H
def rIxT (K:PySem.W.Frag):R2:=fun x y H Q=>∃ p xs i v,x=.ref p∧y=.int i∧SqT K H p xs∧atI xs i=some v∧Q v H
theorem ix_list:IxR X (rIxL X.K):=by
  intro value slice pins s σ H x y v u Q I rx ry h hs
  obtain ⟨p,xs,i,z,rfl,rfl,hq,he,q⟩:=h
  cases rx
  obtain ⟨t,rfl⟩:=ry
  obtain ⟨its,r,pl,hz⟩:=I.list hq
  obtain ⟨j,h1,h2,h3,h4,h5⟩:=atI_get he
  obtain ⟨w,ew,rw'⟩:=r.get h2
  have hl:=r.length
  have hn:=line63
  have fin:EP X pins σ Q w s:=⟨z,H,I,rw',q⟩
  by_cases h0:0≤i
  · have hj:i.toNat=j:=by
      rw [seqIndex_of h0 h5] at h1
      exact Option.some.inj h1
    exact item_listR pl.isList h0 (by omega) (by rw [hj]; simpa using ew) fin hs
  · have hj:(i + (its.toArray.size:Int)).toNat=j:=by
      rw [seqIndex_neg (by omega) h4] at h1
      rw [List.size_toArray,← hl]
      exact Option.some.inj h1
    exact subscriptTail_builtinR (x:=w) pl.isList.typeIs slot_list_getitem.lookup
      (wpAny_getItem_list_neg (Q:=fun r s'=>r=w∧EP X pins σ Q r s') pl.isList (by omega) (by rw [List.size_toArray] <;> omega) (by omega) (by rw [hj]; simpa using ew) ⟨rfl,fin⟩) hs
theorem ix_tup:IxR X (rIxT X.K):=by
  intro value slice pins s σ H x y v u Q I rx ry h hs
  obtain ⟨p,xs,i,z,rfl,rfl,hq,he,q⟩:=h
  cases rx
  obtain ⟨t,rfl⟩:=ry
  obtain ⟨its,r,pl,hz⟩:=I.tuple hq
  obtain ⟨j,h1,h2,h3,h4,h5⟩:=atI_get he
  obtain ⟨w,ew,rw'⟩:=r.get h2
  have hl:=r.length
  have hn:=line63
  have fin:EP X pins σ Q w s:=⟨z,H,I,rw',q⟩
  exact subscriptTail_builtinR (x:=w) pl.typeIs slot_tuple_getitem.lookup
    (getItem_tuple (j:=j) (Q:=fun r s'=>r=w∧EP X pins σ Q r s') pl (by omega) (by omega) (by rw [List.size_toArray,← hl]; exact h1) (by simpa using ew) ⟨rfl,fin⟩) hs
theorem slice_bounds (lo hi:Option Int) (n:Nat):(sliceBounds lo hi none n).1=((HT.sIx n 0 lo:Nat):Int)∧(sliceBounds lo hi none n).2.1=((HT.sIx n n hi:Nat):Int)∧(sliceBounds lo hi none n).2.2=1:=by
  refine ⟨?_,?_,rfl⟩
  · cases lo with
    | none=>simp [sliceBounds,HT.sIx]
    | some i =>
      simp only [sliceBounds,HT.sIx,Option.getD_none,show (1:Int) > 0 by decide,if_true]
      by_cases h:i < 0
      · simp only [h,if_true] <;> omega
      · simp only [h,if_false] <;> omega
  · cases hi with
    | none=>simp [sliceBounds,HT.sIx]
    | some i =>
      simp only [sliceBounds,HT.sIx,Option.getD_none,show (1:Int) > 0 by decide,if_true]
      by_cases h:i < 0
      · simp only [h,if_true] <;> omega
      · simp only [h,if_false] <;> omega
theorem slicePick_cut (its:List Value) (lo hi:Option Int):slicePick its.toArray lo hi none=((its.drop (HT.sIx its.length 0 lo)).take (HT.sIx its.length its.length hi - HT.sIx its.length 0 lo)).toArray:=by
  obtain ⟨h1,h2,h3⟩:=slice_bounds lo hi its.toArray.size
  unfold slicePick
  rw [h1,h2,h3]
  simp only [sliceRange_one,pick_run,List.size_toArray] <;> rfl
def rSlL (K:PySem.W.Frag):V→Option Int→Option Int→Hp→VK→Prop:=fun x lo hi H Q=>∃ a xs,x=.ref a∧SqL K H a xs∧∀ p,H p=none→Q (.ref p) (upd H p (.lst (cutV xs lo hi)))
theorem sl_list:SlR X (rSlL X.K):=by
  intro pins s σ H x v vl vu lo hi sl Q I rx hs pl pu h
  obtain ⟨a,xs,rfl,hx,q⟩:=h
  cases rx
  obtain ⟨its,r,ht,hz⟩:=I.list hx
  have hlen:=r.length
  refine ⟨"list",_,slot_list_getitem.lookup,ht.isList.typeIs,?_⟩
  refine wpAny_getItem_list_slice ht.isList hs pl pu .none (by simp) ?_ (by rw [List.size_toArray] <;> omega)
  rw [slicePick_cut,← hlen]
  refine ⟨.ref s.heap.objs.size,_,I.laid (t':=s.toks) (o:=.lst (cutV xs lo hi)) (fun b ob q=>Heap.get?_push_of_some _ q) (Nat.le_refl _) ?_,rfl,q _ (I.hok.fresh (Nat.le_refl _))⟩
  exact ⟨Nat.le_trans (cutV_length xs lo hi) hz,_,0,(r.drop (HT.sIx xs.length 0 lo)).take (HT.sIx xs.length xs.length hi - HT.sIx xs.length 0 lo),Heap.get?_push_size _ rfl⟩
theorem call_len_seq:CallR X (.builtin "len") (fun xs H Q=>∃ p ys,xs=[.ref p]∧(SqL X.K H p ys∨SqT X.K H p ys)∧Q (.int ys.length) H):=by
  intro pins s σ H xs us Q I r h
  obtain ⟨p,ys,rfl,hq,q⟩:=h
  obtain ⟨u,rfl,rx⟩:=vals1 r
  cases rx
  have hn:=line63
  rcases hq with hq | hq
  · obtain ⟨its,r',pl,hz⟩:=I.list hq
    have hlen:=r'.length
    exact Calls.call_len_list pl.isList (by simp only [List.size_toArray] <;> omega) ⟨.int ys.length,H,I.tok _,⟨s.toks + 1,by rw [List.size_toArray,hlen]⟩,q⟩
  · obtain ⟨its,r',pl,hz⟩:=I.tuple hq
    have hlen:=r'.length
    exact len_tuple pl (by simp only [List.size_toArray] <;> omega) ⟨.int ys.length,H,I.tok _,⟨s.toks + 1,by rw [List.size_toArray,hlen]⟩,q⟩
theorem call_list_of:CallR X (.type "list") (fun xs H Q=>∃ p ys,xs=[.ref p]∧(SqL X.K H p ys∨SqT X.K H p ys)∧∀ l,H l=none→Q (.ref l) (upd H l (.lst ys))):=by
  intro pins s σ H xs us Q I r h
  obtain ⟨p,ys,rfl,hq,q⟩:=h
  obtain ⟨u,rfl,rx⟩:=vals1 r
  cases rx
  have fin:∀ (its:List Value),Vals ys its→ys.length≤sizeLine→∀ (h':Heap) (c':Nat),(∀ b o',s.heap.get? b=some o'→h'.get? b=some o') →
      h'.get? s.heap.objs.size=some { cls:=.type "list",dict:=none,data:=.seq its.toArray c',slots:=#[] }→EP X pins σ Q (.ref s.heap.objs.size) { s with heap:=h' }:=fun its r' hz h' c' kp e =>
    ⟨.ref s.heap.objs.size,_,I.laid (t':=s.toks) kp (Nat.le_refl _) (show ObjOk X.prog X.w _ h' _ (.lst ys) from ⟨hz,its,c',r',e⟩),rfl,q _ (I.hok.fresh (Nat.le_refl _))⟩
  rcases hq with hq | hq
  · obtain ⟨its,r',pl,hz⟩:=I.list hq
    have hlen:=r'.length
    obtain ⟨o,ho,hc,n,hd⟩:=pl.isList
    exact call_list_seq p (.inl rfl) ho hc hd (fun h' c' kp e=>fin its r' hz h' c' kp e) (by simp only [List.size_toArray] <;> omega)
  · obtain ⟨its,r',pl,hz⟩:=I.tuple hq
    have hlen:=r'.length
    obtain ⟨o,ho,hc,n,hd⟩:=pl
    exact call_list_seq p (.inr rfl) ho hc hd (fun h' c' kp e=>fin its r' hz h' c' kp e) (by simp only [List.size_toArray] <;> omega)
def tyV (K:PySem.W.Frag) (T:String) (x:V) (H:Hp):Prop:=match x with
  | .str _=>T = "str"
  | .int _=>T = "int"
  | .ref p=>(T = "list"∧∃ xs,SqL K H p xs)∨(T = "tuple"∧∃ o,K.lookup p=some o∧o.cls=.type "tuple"∧o.dict=none) ∨
      (T = "dict"∧((∃ kvs,H p=some (.dK kvs))∨∃ kvs,H p=some (.dT kvs)))∨(T = "set"∧∃ S n,H p=some (.set S n))
  | _=>False
theorem tyV_is {pins:List (Addr × Obj)} {σ:St} {H:Hp} {s:Shared} {T:String} {x:V} {v:Value} (I:Inv X pins σ H s) (r:RelV x v) (ty:tyV X.K T x H) :
    s.TypeIs v T∧∀ a,v=.ref a→∃ ob,s.heap.get? a=some ob∧ob.dict=none:=by
  cases x with
  | str z =>
    obtain ⟨t,rfl⟩:=r
    cases (show T = "str" from ty)
    exact ⟨typeIs_str s z t,fun _ e=>nomatch e⟩
  | int i =>
    obtain ⟨t,rfl⟩:=r
    cases (show T = "int" from ty)
    exact ⟨typeIs_int s i t,fun _ e=>nomatch e⟩
  | ref p =>
    cases r
    rcases ty with ⟨rfl,xs,hq⟩ | ⟨rfl,o,hk,hc,hd⟩ | ⟨rfl,hk⟩ | ⟨rfl,S,n,hk⟩
    · obtain ⟨its,_,pl,_⟩:=I.list hq
      refine ⟨pl.isList.typeIs,fun a e=>?_⟩
      cases e
      obtain ⟨o,n,e,c,hd,_⟩:=pl
      exact ⟨o,e,hd⟩
    · refine ⟨⟨o,I.kIn p o hk,hc⟩,fun a e=>?_⟩
      cases e
      exact ⟨o,I.kIn _ o hk,hd⟩
    · have z:∃ o,s.heap.get? p=some o∧o.ExactDict:=by
        rcases hk with ⟨kvs,hk⟩ | ⟨kvs,hk⟩
        · obtain ⟨_,_,_,_,o,_,_,e,ex,_⟩:=I.hok p _ hk
          exact ⟨o,e,ex⟩
        · obtain ⟨_,_,_,_,o,_,_,e,ex,_⟩:=I.hok p _ hk
          exact ⟨o,e,ex⟩
      obtain ⟨o,e,ex⟩:=z
      refine ⟨⟨o,e,ex.1⟩,fun a e2=>?_⟩
      cases e2
      exact ⟨o,e,ex.2.1⟩
    · obtain ⟨o,_,_,_,e,ex,_⟩:=I.hok p _ hk
      refine ⟨⟨o,e,ex.1⟩,fun a e2=>?_⟩
      cases e2
      exact ⟨o,e,ex.2.1⟩
  | _=>exact False.elim ty
def tBM (K:PySem.W.Frag) (T:String) (r:V→List V→Hp→VK→Prop) (to:TE) (t:TA):TE:=fun σ H Q=>to σ H fun x H1=>tyV K T x H1∧t σ H1 fun xs H2=>r x xs H2 Q
variable {o e:Expr} {es:List Expr} {to:TE} {t:TA} {name:Str} {apos cpos:Pos} {T id:String} {r:V→List V→Hp→VK→Prop}
theorem pe_bm (pa:PlainAttrs T) (slot:Slot T name id) (hty:typeOf (.builtin id)=pure (.type "method_descriptor")) (hm:MtR X id r) (ho:PE X o to) (ha:PA X (e::es) t)
    (hbase:attributeBase o name X.env (eval o X.env)=eval o X.env:=by rfl)
    (hfew:((backTo cpos (starEach (e::es) X.env)).all (fun x=>!x.1) && (backToKw cpos (keywordEach [] X.env)).all (fun x=>x.1.isSome)
      && decide ((e::es).length + ([]:List Keyword).length + (if ([]:List Keyword).isEmpty then 0 else 1) < 30))=true:=by rfl)
    (hline:(apos.endLine == cpos.line)=true:=by rfl) (hs:starEach (e::es) X.env=(false,eval e X.env)::starEach es X.env:=by rfl) (hplain:(backTo cpos (starEach es X.env)).any (·.1)=false:=by rfl) :
    PE X (.Call (.Attribute o name apos) (e::es) [] cpos) (tBM X.K T r to t):=by
  intro pins s σ H Q I h
  refine wpAny_Call_method_late hbase hfew hline rfl (thn (ho pins s σ H _ I h) fun v s1 ⟨x,H1,I1,r1,ty,q1⟩=>?_)
  obtain ⟨h1,h2⟩:=tyV_is I1 r1 ty
  refine ⟨T,id,pa,slot,hty,h1,h2,?_⟩
  have hA:=ha cpos pins s1 σ H1 _ I1 q1
  rw [hs] at hA ⊢
  refine Calls.callWith_builtin (by show (false || (backTo cpos (starEach es X.env)).any (·.1))=false; rw [hplain] <;> rfl) (Calls.evalArgs_plain ?_)
  exact thn hA fun us s2 ⟨vs,H2,I2,r2,q2⟩=>hm pins s2 σ H2 x vs v us Q I2 r1 r2 q2
end
end L2
namespace L2
open PySem PySem.Spec PyProof.Rows
def MtM (X:Cx) (id:String) (r:V→List V→Hp→VK→Prop):Prop :=
  ∀ (pins:List (Addr × Obj)) (s:Shared) (σ:St) (H:Hp) (x:V) (xs:List V) (v:Value) (us:List Value) (Q:VK),Inv X pins σ H s→RelV x v→Vals xs us→r x xs H Q →
    wpAny (model X.prog X.w) X.A (call (.builtin id) (v::us)) (EP X pins σ Q) X.xe s
theorem Vals.one:∀ {x:V} {us:List Value},Vals [x] us→∃ u,us=[u]∧RelV x u
  | _,_,.cons r .nil=>⟨_,rfl,r⟩
theorem Vals.eraseIdx:∀ {xs:List V} {us:List Value} (i:Nat),Vals xs us→Vals (xs.eraseIdx i) (us.eraseIdx i)
  | _,_,_,.nil=>.nil
  | _,_,0,.cons _ t=>t
  | _,_,i + 1,.cons r t=>.cons r (Vals.eraseIdx i t)
theorem len_erase {α:Type}:∀ (l:List α) (i:Nat),(l.eraseIdx i).length≤l.length
  | [],_=>Nat.le_refl _
  | _::_,0=>Nat.le_succ _
  | _::r,i + 1=>Nat.succ_le_succ (len_erase r i)
section
variable {X:Cx} {pins:List (Addr × Obj)} {σ:St} {H:Hp} {s:Shared} {l b:Addr} {xs ys zs:List V}
theorem Inv.lset {its its':List Value} {n:Nat} {f:Array Value→Array Value} {t':Nat} (I:Inv X pins σ H s) (hH:H l=some (.lst xs))
    (e:s.heap.get? l=some { cls:=.type "list",data:=.seq its.toArray n }) (hf:f its.toArray=its'.toArray) (hv:Vals ys its') (hz:ys.length≤sizeLine) :
    Inv X pins σ (upd H l (.lst ys)) { s with heap:=s.heap.update l (Obj.mapSeq f),toks:=t' }:=by
  have q:=PySem.IsL.update e f
  rw [hf] at q
  refine I.write (x:=l) (e:=l) (by rw [hH]; exact trivial) (.inl rfl) (fun b' u hb hu=>(Heap.get?_update_other s.heap (Obj.mapSeq f) (Ne.symm hb)).trans hu) ⟨_,q⟩ ?_
  exact ⟨hz,its',_,hv,q⟩
theorem Inv.lnew {its:List Value} {t':Nat} (I:Inv X pins σ H s) (hv:Vals ys its) (hz:ys.length≤sizeLine) :
    Inv X pins σ (upd H s.heap.objs.size (.lst ys)) { s with heap:=s.heap.push { cls:=.type "list",data:=.seq its.toArray },toks:=t' } :=
  I.laid (fun _ _ q=>Heap.get?_push_of_some _ q) (Nat.le_refl _) ⟨hz,its,0,hv,Heap.get?_push_size _ rfl⟩
theorem Inv.fresh (I:Inv X pins σ H s):H s.heap.objs.size=none:=I.hok.fresh (Nat.le_refl _)
theorem Inv.lstM (I:Inv X pins σ H s) (hH:H l=some (.lst xs)):xs.length≤sizeLine∧∃ (its:List Value) (n:Nat),Vals xs its∧xs.length=its.length∧s.heap.get? l=some { cls:=.type "list",data:=.seq its.toArray n }:=by
  obtain ⟨z,its,n,r,e⟩:=I.hok l _ hH
  exact ⟨z,its,n,r,r.length,e⟩
theorem notLongL {n:Nat} (h:n≤sizeLine):Builtin.List.listTooLong n=false:=by
  unfold Builtin.List.listTooLong
  exact decide_eq_false (by omega)
end
section
variable {X:Cx}
def rAppend:V→List V→Hp→VK→Prop:=fun x vs H Q=>∃ l xs y,x=.ref l∧vs=[y]∧H l=some (.lst xs)∧xs.length < sizeLine∧Q .non (upd H l (.lst (xs ++ [y])))
theorem mt_append:MtM X "list.append" rAppend:=by
  intro pins s σ H x vs v us Q I rx rv h
  obtain ⟨l,xs,y,rfl,rfl,hH,hz,q⟩:=h
  cases rx
  obtain ⟨u,rfl,ru⟩:=rv.one
  obtain ⟨z,its,n,r,hl,e⟩:=I.lstM hH
  refine call_meets F.slot_list_append ⟨_,e,rfl⟩ F.entry_list_append (F.args_list_append_2 _ _) (PySem.list_append l its.toArray n u (by rw [List.size_toArray]; omega)) ⟨e,?_⟩
  refine ⟨.non,_,I.lset (its':=its ++ [u]) hH e (by simp) (r.append (.cons ru .nil)) ?_,rfl,q⟩
  rw [List.length_append,List.length_singleton]
  omega
def rExtend:V→List V→Hp→VK→Prop:=fun x vs H Q=>∃ l b xs zs,x=.ref l∧vs=[.ref b]∧H l=some (.lst xs)∧H b=some (.lst zs)∧xs.length + zs.length≤sizeLine∧Q .non (upd H l (.lst (xs ++ zs)))
theorem mt_extend:MtM X "list.extend" rExtend:=by
  intro pins s σ H x vs v us Q I rx rv h
  obtain ⟨l,b,xs,zs,rfl,rfl,hH,hB,hz,q⟩:=h
  cases rx
  obtain ⟨u,rfl,ru⟩:=rv.one
  cases ru
  obtain ⟨z,its,n,r,hl,e⟩:=I.lstM hH
  obtain ⟨z2,its2,n2,r2,hl2,e2⟩:=I.lstM hB
  have hsz:its.toArray.size + its2.toArray.size≤sizeLine:=by rw [List.size_toArray,List.size_toArray]; omega
  have hlong:¬ (!its.toArray.isEmpty && Builtin.List.listTooLong (its.toArray.size + its2.toArray.size))=true:=by
    rw [notLongL hsz,Bool.and_false]
    exact Bool.false_ne_true
  refine call_meets F.slot_list_extend ⟨_,e,rfl⟩ F.entry_list_extend (F.args_list_extend_2 _ _)
    (AutoSeq1.list_extend_list_list_0 l its.toArray n b its2.toArray n2 hlong (by rw [List.size_toArray]; omega) (by omega)) ⟨e,e2,?_⟩
  refine ⟨.non,_,I.lset (its':=its ++ its2) hH e (by simp) (r.append r2) ?_,rfl,q⟩
  rw [List.length_append]
  omega
def rPopAt:V→List V→Hp→VK→Prop:=fun x vs H Q=>∃ l xs i k y,x=.ref l∧vs=[.int i]∧H l=some (.lst xs)∧-(2 ^ 63)≤i∧i < 2 ^ 63∧seqIndex? i xs.length=some k∧xs[k]?=some y∧Q y (upd H l (.lst (xs.eraseIdx k)))
theorem mt_popAt:MtM X "list.pop" rPopAt:=by
  intro pins s σ H x vs v us Q I rx rv h
  obtain ⟨l,xs,i,k,y,rfl,rfl,hH,h1,h2,hk,hy,q⟩:=h
  cases rx
  obtain ⟨u,rfl,ru⟩:=rv.one
  obtain ⟨t,rfl⟩:=ru
  obtain ⟨z,its,n,r,hl,e⟩:=I.lstM hH
  obtain ⟨w,hw,rw'⟩:=r.get hy
  refine call_meets F.slot_list_pop ⟨_,e,rfl⟩ F.entry_list_pop (F.args_list_pop_2 _ _)
    (MeetsSeq.list_pop_at l its.toArray n i t k w (fitsIndex_both h1 h2) (by rw [List.size_toArray,← hl]; exact hk) (by rw [← Array.getElem?_toList]; exact hw) (by rw [List.size_toArray]; omega)) ⟨e,?_⟩
  refine ⟨y,_,I.lset (its':=its.eraseIdx k) hH e ?_ (r.eraseIdx k) ?_,rw',q⟩
  · show its.toArray.eraseIdxIfInBounds k=(its.eraseIdx k).toArray
    rw [List.eraseIdxIfInBounds_toArray]
  · have:=len_erase xs k
    omega
def rCat:R2:=fun x y H Q=>∃ l b xs zs,x=.ref l∧y=.ref b∧H l=some (.lst xs)∧H b=some (.lst zs)∧xs.length + zs.length≤sizeLine∧∀ p,H p=none→Q (.ref p) (upd H p (.lst (xs ++ zs)))
theorem op_cat:OpR X (binaryOp .Add) rCat:=by
  intro pins s σ H x y v u Q I rx ry h
  obtain ⟨l,b,xs,zs,rfl,rfl,hH,hB,hz,q⟩:=h
  cases rx
  cases ry
  obtain ⟨z,its,n,r,hl,e⟩:=I.lstM hH
  obtain ⟨z2,its2,n2,r2,hl2,e2⟩:=I.lstM hB
  refine PySem.P.add_list e e2 ?_ (by rw [List.size_toArray,List.size_toArray]; omega)
  have ea:its.toArray ++ its2.toArray=(its ++ its2).toArray:=by simp
  rw [ea]
  exact ⟨.ref _,_,I.lnew (t':=s.toks) (r.append r2) (by rw [List.length_append]; omega),rfl,q _ I.fresh⟩
end
end L2
namespace L2
open PySem PySem.Spec PyProof.Rows
theorem Vals.ints:∀ {ns:List Int} {us:List Value},Vals (ns.map V.int) us→IntsAre us ns
  | [],us,h=>by
    rw [List.map_nil] at h
    cases h
    exact IntsAre.nil
  | n::ns,us,h=>by
    rw [List.map_cons] at h
    cases h with
    | cons r t =>
      obtain ⟨k,rfl⟩:=r
      exact IntsAre.cons n k (Vals.ints t)
theorem Vals.bls:∀ {bs:List Bool} {us:List Value},Vals (bs.map V.bl) us→us=bs.map Value.bool
  | [],us,h=>by
    rw [List.map_nil] at h
    cases h
    rfl
  | b::bs,us,h=>by
    rw [List.map_cons] at h
    cases h with
    | cons r t =>
      cases r
      rw [Vals.bls t,List.map_cons]
theorem Vals.ref1 {a:Addr} {us:List Value} (r:Vals [V.ref a] us):us=[Value.ref a]:=by
  cases r with
  | cons r t =>
    cases t
    cases r
    rfl
section
variable {prog:Program} {w:World} {A:Around} {E:Value→Shared→Prop} {s:Shared} {l:Addr} {its:List Value} {ns:List Int} {Q:Value→Shared→Prop}
theorem sum_raw (hh:A.handled=none) (hl:s.heap.IsList l its.toArray) (hi:IntsAre its ns)
    (h:∀ h' tk t',(∀ b o,s.heap.get? b=some o→h'.get? b=some o)→Q (.int ns.sum t') { s with heap:=h',toks:=tk }):wpAny (model prog w) A (call (.builtin "sum") [.ref l]) Q E s:=by
  obtain ⟨xs,e⟩:=hi.allInts.items
  have hn:numsOf (intItems xs).toList=ns:=by rw [← e]; exact hi.numsOf
  rw [nums_intItems] at hn
  rw [e] at hl
  refine PySem.sum_intListG hh hl fun h' tk t' hk=>?_
  have:=h h' tk t' hk
  rw [preSum_eq,List.take_of_length_le (by simp),hn]; exact this
theorem max_raw (hh:A.handled=none) (hl:s.heap.IsList l its.toArray) (hi:IntsAre its ns) (hne:0 < ns.length)
    (h:∀ h' tk M t',(∀ b o,s.heap.get? b=some o→h'.get? b=some o)→M ∈ ns→(∀ a,a ∈ ns→a≤M)→Q (.int M t') { s with heap:=h',toks:=tk }):wpAny (model prog w) A (call (.builtin "max") [.ref l]) Q E s:=by
  obtain ⟨xs,e⟩:=hi.allInts.items
  have hn:numsOf (intItems xs).toList=ns:=by rw [← e]; exact hi.numsOf
  rw [nums_intItems] at hn
  subst hn
  rw [e] at hl
  have hsz:0 < xs.size:=by simpa using hne
  refine PySem.max_intList hh hl hsz fun v h' tk hv hk=>?_
  obtain ⟨t,rfl⟩:=intItems_at hv
  obtain ⟨h1,h2⟩:=argBest_gt (numAt xs) (xs.size - 1)
  refine h h' tk _ t hk ?_ fun a ha=>?_
  · rw [numAt_eq]; exact PySem.getD_mem (by rw [List.length_map,Array.length_toList]; omega)
  · obtain ⟨j,hj,rfl⟩:=mem_getD ha
    rw [List.length_map,Array.length_toList] at hj
    rw [← numAt_eq]; exact h2 j (by omega)
end
section
variable {X:Cx}
def rSum (K:PySem.W.Frag):List V→Hp→VK→Prop:=fun vs H Q=>∃ (a:Addr) (ns:List Int),vs=[V.ref a]∧SqL K H a (ns.map V.int)∧Q (.int ns.sum) H
def rMax (K:PySem.W.Frag):List V→Hp→VK→Prop:=fun vs H Q=>∃ (a:Addr) (ns:List Int),vs=[V.ref a]∧SqL K H a (ns.map V.int)∧0 < ns.length∧∀ m,m ∈ ns→(∀ y,y ∈ ns→y≤m)→Q (.int m) H
theorem cr_sum (hc:X.calm=true):CallR X (.builtin "sum") (rSum X.K):=by
  intro pins s σ H vs us Q I r h
  obtain ⟨a,ns,rfl,hs,q⟩:=h
  obtain ⟨its,rv,hl,_⟩:=I.list hs
  rw [Vals.ref1 r]
  exact sum_raw (I.ok.hd hc) hl.isList rv.ints fun h' tk t' hk=>⟨.int _,H,I.kept hk,⟨_,rfl⟩,q⟩
theorem cr_max (hc:X.calm=true):CallR X (.builtin "max") (rMax X.K):=by
  intro pins s σ H vs us Q I r h
  obtain ⟨a,ns,rfl,hs,hne,q⟩:=h
  obtain ⟨its,rv,hl,_⟩:=I.list hs
  rw [Vals.ref1 r]
  exact max_raw (I.ok.hd hc) hl.isList rv.ints hne fun h' tk m t' hk h1 h2=>⟨.int _,H,I.kept hk,⟨_,rfl⟩,q m h1 h2⟩
end
theorem iter_any {prog:Program} {w:World} {A:Around} {E:Value→Shared→Prop} {s:Shared} {l:Addr} {items:Array Value} {Q:Value→Shared→Prop} (hl:s.heap.IsList l items)
    (h:∀ s₂:Shared,s₂={ s with heap:=s.heap.push { cls:=.type "list_iterator",data:=.fields #[.ref l,.int 0 0] } } →
      (s₂.heap.IsListIter s.heap.objs.size l 0∧s₂.heap.IsList l items)→l≠s.heap.objs.size→Q (.ref s.heap.objs.size) s₂):wpAny (model prog w) A (pyIter (.ref l)) Q E s:=by
  have hlt:l < s.heap.objs.size:=by obtain ⟨_,e,_⟩:=hl; exact Heap.lt_size e
  exact wpAny_pyIter_list hl (h _ rfl ⟨⟨_,Heap.get?_push_size _ rfl,rfl,rfl⟩,hl.push _⟩ (Nat.ne_of_lt hlt))
theorem truth_bools {prog:Program} {w:World} {A:Around} {bs:List Bool} {its:List Value} (e:its=bs.map Value.bool) :
    TruthOf prog w A (fun i v=>its.toArray[i]?=some v) (fun i=>bs.getD i false):=fun i v s Q E hv hq=>by
  have hv':its[i]?=some v:=by simpa using hv
  rw [e,List.getElem?_map] at hv'
  obtain ⟨b,hb,rfl⟩:=Option.map_eq_some_iff.mp hv'
  have hg:bs.getD i false=b:=by rw [List.getD_eq_getElem?_getD,hb] <;> rfl
  have hq':Q (bs.getD i false) s:=hq
  rw [hg] at hq'
  exact wpAny_truthy_bool hq'
theorem any_range:∀ bs:List Bool,(List.range bs.length).any (fun i=>bs.getD i false)=bs.any id
  | []=>rfl
  | b::bs=>by
    rw [List.length_cons,List.range_succ_eq_map,List.any_cons,List.any_map,List.any_cons,← any_range bs]
    all_goals rfl
theorem all_range:∀ bs:List Bool,(List.range bs.length).all (fun i=>bs.getD i false)=bs.all id
  | []=>rfl
  | b::bs=>by
    rw [List.length_cons,List.range_succ_eq_map,List.all_cons,List.all_map,List.all_cons,← all_range bs]
    all_goals rfl
section
variable {X:Cx}
def rAll (K:PySem.W.Frag):List V→Hp→VK→Prop:=fun vs H Q=>∃ (a:Addr) (bs:List Bool),vs=[V.ref a]∧SqL K H a (bs.map V.bl)∧Q (.bl (bs.all id)) H
theorem cr_all (hc:X.calm=true):CallR X (.builtin "all") (rAll X.K):=by
  intro pins s σ H vs us Q I r h
  obtain ⟨a,bs,rfl,hs,q⟩:=h
  obtain ⟨its,rv,hl,_⟩:=I.list hs
  rw [Vals.ref1 r]
  have hb:=rv.bls
  refine call_all_walk (iter_any hl.isList fun s₂ e2 st hne=>?_)
  subst e2
  refine ⟨_,_,_,_,_,_,_,rfl,Walks.list (A:=X.A.in1) (I.ok.hd hc) _ a hne its.toArray,st,truth_bools hb,fun h' tk hk=>?_⟩
  refine ⟨.bl _,H,I.kept fun b o eo=>hk b o (fun hmem=>?_) (Heap.get?_push_of_some _ eo),?_,q⟩
  · rcases List.mem_cons.mp hmem with e1 | hmem
    · exact absurd (e1 ▸ Heap.lt_size eo) (Nat.lt_irrefl _)
    · cases hmem
  · show Value.bool _=Value.bool _
    rw [← all_range,hb,List.size_toArray,List.length_map]
end
end L2
namespace L2
open PySem PySem.Spec PyProof.Rows
abbrev CellAt (h:Heap) (c:Addr) (v:Option Value):Prop:=h.IsCell c v
def relS (scope sc:Scope):Scope :=
  { scope with names:=scope.names.map fun (n,k)=>if (k == .free && sc.kind == .function && sc.names.lookup n == some .cell) then (n,.cell) else (n,k) }
def cloFrom (cells:List (Str × Addr)):List (Str × NameKind)→List (Str × Addr)→List (Str × Addr)
  | [],acc=>acc
  | (n,k)::r,acc=>if k == .free then cloFrom cells r ((n,(cells.lookup n).getD 0)::acc) else cloFrom cells r acc
theorem closure_loop (env:Env) (f:Str × NameKind→List (Str × Addr)→Sem (ForInStep (List (Str × Addr))))
    (hf:∀ n k c,f (n,k) c=if k == .free then (do let a ← cellOf env n; pure (.yield ((n,a)::c))) else pure (.yield c)) :
    ∀ (names:List (Str × NameKind)) (acc:List (Str × Addr)),(∀ y ∈ names,y.2=.free→∃ c,env.cells.lookup y.1=some c)→forIn names acc f=pure (cloFrom env.cells names acc)
  | [],acc,_=>by rw [List.forIn_nil]; rfl
  | (n,k)::r,acc,h=>by
    rw [List.forIn_cons,hf]
    have ih:=fun acc=>closure_loop env f hf r acc fun y hy=>h y (List.mem_cons_of_mem _ hy)
    unfold cloFrom
    by_cases hk:(k == NameKind.free)=true
    · rw [if_pos hk,if_pos hk]
      obtain ⟨c,hc⟩:=h (n,k) List.mem_cons_self (by simpa using hk)
      have e:cellOf env n=pure c:=by unfold cellOf; rw [hc]
      rw [e]
      have e2:(env.cells.lookup n).getD 0=c:=by rw [hc]; rfl
      rw [e2]
      exact ih _
    · rw [if_neg hk,if_neg hk]
      exact ih _
theorem closure_ok {scope:Scope} {env:Env} (h:∀ y ∈ scope.names,y.2=.free→∃ c,env.cells.lookup y.1=some c):closureFor scope env=pure (cloFrom env.cells scope.names []):=by
  simp only [closureFor]
  rw [closure_loop env _ (fun n k c=>rfl) scope.names [] h]
  rfl
theorem mem_lookup {α:Type}:∀ {l:List (Str × α)} {n:Str} {c:α},(n,c) ∈ l→∃ c',l.lookup n=some c'
  | (k,v)::r,n,c,h=>by
    rw [List.lookup_cons]
    cases hb:n == k with
    | true=>exact ⟨_,rfl⟩
    | false =>
      rcases List.mem_cons.mp h with e | h
      · cases e; simp at hb
      · exact mem_lookup h
theorem cloFrom_mem {cells:List (Str × Addr)}:∀ {names:List (Str × NameKind)} {acc:List (Str × Addr)} {n:Str} {c:Addr},(n,c) ∈ cloFrom cells names acc→(n,c) ∈ acc∨((n,.free) ∈ names∧c=(cells.lookup n).getD 0)
  | [],_,_,_,h=>.inl h
  | (m,k)::r,acc,n,c,h=>by
    unfold cloFrom at h
    split at h
    · rename_i hk
      have hk:k=.free:=by simpa using hk
      rcases cloFrom_mem h with h | ⟨h1,h2⟩
      · rcases List.mem_cons.mp h with e | h
        · cases e; exact .inr ⟨hk ▸ List.mem_cons_self,rfl⟩
        · exact .inl h
      · exact .inr ⟨List.mem_cons_of_mem _ h1,h2⟩
    · rcases cloFrom_mem h with h | ⟨h1,h2⟩
      · exact .inl h
      · exact .inr ⟨List.mem_cons_of_mem _ h1,h2⟩
theorem cloFrom_acc {cells:List (Str × Addr)}:∀ {names:List (Str × NameKind)} {acc:List (Str × Addr)} {p:Str × Addr},p ∈ acc→p ∈ cloFrom cells names acc
  | [],_,_,h=>h
  | (m,k)::r,acc,p,h=>by
    unfold cloFrom
    split
    · exact cloFrom_acc (List.mem_cons_of_mem _ h)
    · exact cloFrom_acc h
theorem cloFrom_has {cells:List (Str × Addr)}:∀ {names:List (Str × NameKind)} {acc:List (Str × Addr)} {n:Str},(n,.free) ∈ names→(n,(cells.lookup n).getD 0) ∈ cloFrom cells names acc
  | (m,k)::r,acc,n,h=>by
    unfold cloFrom
    rcases List.mem_cons.mp h with e | h
    · cases e
      exact cloFrom_acc List.mem_cons_self
    · split
      · exact cloFrom_has h
      · exact cloFrom_has h
theorem cells_mem:∀ {names:List (Str × NameKind)} {h:Heap} {acc:List (Str × Addr)} {x:Str} {c:Addr},(x,c) ∈ cellsFrom h.objs.size names acc →
    (x,c) ∈ acc∨((x,.cell) ∈ names∧h.objs.size≤c∧CellAt (pushCells h names) c none)
  | [],_,_,_,_,h=>.inl h
  | (n,k)::r,h,acc,x,c,hm=>by
    unfold cellsFrom at hm
    unfold pushCells
    split at hm
    · rename_i hk
      rw [if_pos hk]
      have hk:k=.cell:=by simpa using hk
      rw [← Heap.size_push h { cls:=.type "cell",data:=.cell none }] at hm
      rcases cells_mem hm with hm | ⟨h1,h2,h3⟩
      · rcases List.mem_cons.mp hm with e | hm
        · cases e
          exact .inr ⟨hk ▸ List.mem_cons_self,Nat.le_refl _,_,pushCells_keeps r _ _ _ (Heap.get?_push_size _ rfl),rfl⟩
        · exact .inl hm
      · rw [Heap.size_push] at h2
        exact .inr ⟨List.mem_cons_of_mem _ h1,Nat.le_of_succ_le h2,h3⟩
    · rename_i hk
      rw [if_neg hk]
      rcases cells_mem hm with hm | ⟨h1,h2,h3⟩
      · exact .inl hm
      · exact .inr ⟨List.mem_cons_of_mem _ h1,h2,h3⟩
theorem cells_acc:∀ {names:List (Str × NameKind)} {n:Nat} {acc:List (Str × Addr)} {p:Str × Addr},p ∈ acc→p ∈ cellsFrom n names acc
  | [],_,_,_,h=>h
  | (m,k)::r,n,acc,p,h=>by
    unfold cellsFrom
    split
    · exact cells_acc (List.mem_cons_of_mem _ h)
    · exact cells_acc h
theorem cells_has:∀ {names:List (Str × NameKind)} {n:Nat} {acc:List (Str × Addr)} {x:Str},(x,.cell) ∈ names→∃ c,(x,c) ∈ cellsFrom n names acc
  | (m,k)::r,n,acc,x,h=>by
    unfold cellsFrom
    rcases List.mem_cons.mp h with e | h
    · cases e
      exact ⟨n,cells_acc List.mem_cons_self⟩
    · split
      · exact cells_has h
      · exact cells_has h
theorem cells_inj:∀ {names:List (Str × NameKind)} {h:Heap} {acc:List (Str × Addr)} {x y:Str} {c:Addr},(∀ p ∈ acc,p.2 < h.objs.size)→(∀ x y c,(x,c) ∈ acc→(y,c) ∈ acc→x=y) →
    (x,c) ∈ cellsFrom h.objs.size names acc→(y,c) ∈ cellsFrom h.objs.size names acc→x=y
  | [],_,_,_,_,_,_,hi,h1,h2=>hi _ _ _ h1 h2
  | (n,k)::r,h,acc,x,y,c,hl,hi,h1,h2=>by
    unfold cellsFrom at h1 h2
    split at h1
    · rename_i hk
      rw [if_pos hk] at h2
      rw [← Heap.size_push h { cls:=.type "cell",data:=.cell none }] at h1 h2
      refine cells_inj (h:=h.push _) (fun p hp=>?_) (fun x y c a b=>?_) h1 h2
      · rw [Heap.size_push]
        rcases List.mem_cons.mp hp with rfl | hp
        · exact Nat.lt_succ_self _
        · exact Nat.lt_succ_of_lt (hl p hp)
      · rcases List.mem_cons.mp a with e | a <;> rcases List.mem_cons.mp b with e' | b
        · cases e; cases e'; rfl
        · cases e; exact absurd (hl _ b) (Nat.lt_irrefl _)
        · cases e'; exact absurd (hl _ a) (Nat.lt_irrefl _)
        · exact hi _ _ _ a b
    · rename_i hk
      rw [if_neg hk] at h2
      exact cells_inj hl hi h1 h2
theorem newEnv_comp {M:Model} {A:Around} {E:Value→Shared→Prop} {s:Shared} {scope:Scope} {globals:Addr} {closure:List (Str × Addr)} {qual:Str} {func:Option Addr} {code:Value} {around:Env} {builtins:Addr} {Q:Env→Shared→Prop}
    (h:Q (newEnv scope s.heap.objs.size globals (cellsFrom (s.heap.objs.size + 1) scope.names closure) qual func code (some around) builtins)
      { s with heap:=pushCells (s.heap.push { cls:=.type "dict",data:=.dict #[] }) scope.names }) :
    wpAny M A (newFunctionEnv scope globals closure [] qual func code (some around) builtins) Q E s:=by
  simp only [newFunctionEnv,Option.isSome_some,if_true]
  refine wpAny_bind (wpAny_alloc ?_)
  refine wpAny_bind (wpAny_layCells _ (fun n k c=>rfl) scope.names closure _ _ ?_)
  rw [show ({ s with heap:=s.heap.push { cls:=.type "dict",data:=.dict #[] } }:Shared).heap.objs.size=s.heap.objs.size + 1 from Heap.size_push ..]
  rw [List.forIn_nil]
  exact wpAny_bind (wpAny_pure (wpAny_pure h))
theorem lookup_relS {sc:Scope}:∀ {names:List (Str × NameKind)} {x:Str} {k:NameKind},
    (names.map fun (n,k)=>if (k == NameKind.free && sc.kind == .function && sc.names.lookup n == some .cell) then (n,NameKind.cell) else (n,k)).lookup x=some k →
    ∃ k',names.lookup x=some k'∧(k=k'∨(k'=.free∧k=.cell))
  | [],_,_,h=>by simp at h
  | (n,k₀)::r,x,k,h=>by
    have ih:=@lookup_relS sc r x k
    have h':List.lookup x ((if (k₀ == NameKind.free && sc.kind == .function && sc.names.lookup n == some .cell)=true then (n,NameKind.cell) else (n,k₀))::(r.map _))=some k:=h
    cases hx:x == n with
    | true =>
      simp only [List.lookup_cons,hx]
      by_cases hc:(k₀ == NameKind.free && sc.kind == .function && sc.names.lookup n == some .cell)=true
      · rw [if_pos hc] at h'
        simp only [List.lookup_cons,hx] at h'
        cases h'
        simp only [Bool.and_eq_true,beq_iff_eq] at hc
        exact ⟨k₀,rfl,.inr ⟨hc.1.1,rfl⟩⟩
      · rw [if_neg hc] at h'
        simp only [List.lookup_cons,hx] at h'
        cases h'
        exact ⟨_,rfl,.inl rfl⟩
    | false =>
      simp only [List.lookup_cons,hx]
      by_cases hc:(k₀ == NameKind.free && sc.kind == .function && sc.names.lookup n == some .cell)=true
      · rw [if_pos hc] at h'
        simp only [List.lookup_cons,hx] at h'
        exact ih h'
      · rw [if_neg hc] at h'
        simp only [List.lookup_cons,hx] at h'
        exact ih h'
structure BlkOk (N:List Str) (sc scope:Scope) (own:List (Str × Nat)):Prop where
  kind:scope.kind=.function
  uniq:∀ y ∈ scope.names,scope.names.lookup y.1=some y.2
  ix:∀ p ∈ own,N[p.2]?=some p.1
  free:∀ y ∈ scope.names,y.2=.free→sc.names.lookup y.1=some .cell∨sc.names.lookup y.1=some .free
  own:∀ y ∈ scope.names,y.2=.local∨y.2=.cell→y.1 ∈ own.map (·.1)∨y.1 ∉ N
def wipe (σ:St):List Nat→St
  | []=>σ
  | v::vs=>(wipe σ vs).set v none
theorem wipe_length (σ:St):∀ vs:List Nat,(wipe σ vs).length=σ.length
  | []=>rfl
  | v::vs=>by unfold wipe; rw [List.length_set,wipe_length σ vs]
theorem wipe_some {σ:St} {i:Nat} {x:V}:∀ {vs:List Nat},(wipe σ vs)[i]?=some (some x)→σ[i]?=some (some x)∧i ∉ vs
  | [],h=>⟨h,by simp⟩
  | v::vs,h=>by
    unfold wipe at h
    by_cases hi:v=i
    · subst hi
      by_cases hv:v < (wipe σ vs).length
      · rw [List.getElem?_set_self hv] at h; cases h
      · rw [List.getElem?_eq_none (by simpa using hv)] at h; cases h
    · rw [List.getElem?_set_ne hi] at h
      obtain ⟨h1,h2⟩:=wipe_some h
      exact ⟨h1,by simp only [List.mem_cons,not_or]; exact ⟨fun e=>hi e.symm,h2⟩⟩
abbrev Cx.blk (X:Cx) (s:Shared) (H:Hp) (scope:Scope) (cenv:Env) (fp:List Addr):Cx:={ X with s_0:=s,H_0:=H,env:=cenv,outer:=X.stack,ex:=fp,fn:=fun x=>scope.names.lookup x == some .cell,pn:=[],xe:=fun _ _=>False }
section
variable {X:Cx} {pins:List (Addr × Obj)} {σ:St} {H:Hp} {s:Shared}
theorem block_start {scope:Scope} {own:List (Str × Nat)} {fp:List Addr} (I:Inv X pins σ H s) (ok:BlkOk X.N X.env.scope scope own) (hN:X.N.Nodup) (hfp:∀ b ∈ fp,FpOk X pins H b∧b < s.heap.objs.size) :
    Inv (X.blk s H scope (compEnvC scope (cellsFrom (s.heap.objs.size + 1) scope.names (cloFrom X.env.cells scope.names [])) s.heap.objs.size X.env) fp) [] (wipe σ (own.map (·.2))) H { s with heap:=pushCells (s.heap.push { cls:=.type "dict",data:=.dict #[] }) scope.names }:=by
  have hfree:∀ y ∈ scope.names,y.2=.free→∃ c,X.env.cells.lookup y.1=some c:=fun y hy e=>by
    rcases ok.free y hy e with k | k
    · exact I.ok.has _ (.inl k)
    · exact I.ok.has _ (.inr k)
  generalize hcenv:compEnvC scope (cellsFrom (s.heap.objs.size + 1) scope.names (cloFrom X.env.cells scope.names [])) s.heap.objs.size X.env=cenv
  have kp:∀ b o,s.heap.get? b=some o→(pushCells (s.heap.push { cls:=.type "dict",data:=.dict #[] }) scope.names).get? b=some o:=fun b o e=>pushCells_keeps _ _ _ _ (Heap.get?_push_of_some _ e)
  have hL:cenv.locals=s.heap.objs.size:=by rw [← hcenv]; rfl
  have hcl:cenv.cells=cellsFrom (s.heap.objs.size + 1) scope.names (cloFrom X.env.cells scope.names []):=by rw [← hcenv]; rfl
  have hsc:cenv.scope=relS scope X.env.scope:=by rw [← hcenv]; rfl
  rw [← Heap.size_push s.heap { cls:=.type "dict",data:=.dict #[] }] at hcl
  have cm:∀ {y c},(y,c) ∈ cloFrom X.env.cells scope.names []→X.env.cells.lookup y=some c∧c < s.heap.objs.size:=fun {y c} hm=>by
    rcases cloFrom_mem hm with hm | ⟨h1,rfl⟩
    · cases hm
    · obtain ⟨c,hc⟩:=hfree _ h1 rfl
      rw [hc]
      obtain ⟨w,z⟩:=I.cell _ _ hc
      exact ⟨rfl,z.lt⟩
  have mem:∀ {y c},cenv.cells.lookup y=some c→(X.env.cells.lookup y=some c∧c < s.heap.objs.size)∨(s.heap.objs.size + 1≤c∧CellAt (pushCells (s.heap.push { cls:=.type "dict",data:=.dict #[] }) scope.names) c none):=fun {y c} e=>by
    rw [hcl] at e
    rcases cells_mem (PySem.mem_of_lookup e) with hm | ⟨_,h2,h3⟩
    · exact .inl (cm hm)
    · rw [Heap.size_push] at h2; exact .inr ⟨h2,h3⟩
  have look:∀ {y},scope.names.lookup y=some .free→∃ c,cenv.cells.lookup y=some c∧X.env.cells.lookup y=some c:=fun {y} hl=>by
    have hy:(y,NameKind.free) ∈ scope.names:=PySem.mem_of_lookup hl
    obtain ⟨c',e'⟩:=mem_lookup (cells_acc (names:=scope.names) (n:=(s.heap.push { cls:=.type "dict",data:=.dict #[] }).objs.size) (cloFrom_has (cells:=X.env.cells) (acc:=[]) hy))
    rw [← hcl] at e'
    refine ⟨c',e',?_⟩
    rw [hcl] at e'
    rcases cells_mem (PySem.mem_of_lookup e') with hm | ⟨h1,_,_⟩
    · exact (cm hm).1
    · have:=ok.uniq _ h1
      rw [hl] at this; cases this
  have okB:(X.blk s H scope cenv fp).Ok:=by
    refine ⟨I.ok.mod,by show cenv.scope.kind=_; rw [hsc]; exact ok.kind,by show cenv.globals=_; rw [← hcenv]; exact I.ok.glob,by show cenv.builtins=_; rw [← hcenv]; exact I.ok.blt,by show s.heap.objs.size≤cenv.locals; rw [hL]; exact Nat.le_refl _,
      fun y z c e1 e2=>?_,fun y hy=>?_,fun y c z e=>?_,I.ok.hd,I.ok.frames,.inl rfl,fun b hb=>⟨?_,fun y c e z=>?_⟩,I.bs,Nat.le_trans I.ok.bsz I.sz,fun b o e hb=>?_,fun b hb z=>?_,I.stack,I.stkFree⟩
    · have e1:cenv.cells.lookup y=some c:=e1
      have e2:cenv.cells.lookup z=some c:=e2
      rw [hcl] at e1 e2
      refine cells_inj (fun p hp=>?_) (fun y z c a b=>I.ok.inj y z c (cm a).1 (cm b).1) (PySem.mem_of_lookup e1) (PySem.mem_of_lookup e2)
      rw [Heap.size_push]
      exact Nat.lt_succ_of_lt (cm (y:=p.1) (c:=p.2) hp).2
    · show ∃ c,cenv.cells.lookup y=some c
      have key:∀ k,cenv.kindOf y=some k→(k=.cell∨k=.free)→∃ c,cenv.cells.lookup y=some c:=fun k hk hk'=>by
        unfold Env.kindOf at hk
        rw [hsc] at hk
        obtain ⟨k',e,r⟩:=lookup_relS hk
        have:k'=.cell∨k'=.free:=by
          rcases r with rfl | ⟨rfl,_⟩
          · exact hk'
          · exact .inr rfl
        rcases this with rfl | rfl
        · obtain ⟨c,hm⟩:=cells_has (n:=(s.heap.push { cls:=.type "dict",data:=.dict #[] }).objs.size) (acc:=cloFrom X.env.cells scope.names []) (PySem.mem_of_lookup e)
          obtain ⟨c',e'⟩:=mem_lookup hm
          exact ⟨c',by rw [hcl]; exact e'⟩
        · obtain ⟨c,h1,_⟩:=look e
          exact ⟨c,h1⟩
      rcases hy with hy | hy
      · exact key _ hy (.inl rfl)
      · exact key _ hy (.inr rfl)
    · have z:(scope.names.lookup y == some NameKind.cell)=true:=z
      have z:scope.names.lookup y=some .cell:=by simpa using z
      have e:cenv.cells.lookup y=some c:=e
      rw [hcl] at e
      rcases cells_mem (PySem.mem_of_lookup e) with hm | ⟨_,h2,_⟩
      · rcases cloFrom_mem hm with hm | ⟨h1,_⟩
        · cases hm
        · have q:=ok.uniq _ h1
          rw [z] at q; cases q
      · rw [Heap.size_push] at h2
        exact Nat.le_of_succ_le h2
    · show b≠cenv.locals
      rw [hL]; exact Nat.ne_of_lt (hfp b hb).2
    · have e:cenv.cells.lookup y=some c:=e
      rcases mem e with ⟨h1,_⟩ | ⟨h1,_⟩
      · exact (hfp b hb).1.2.2.2.2.1 y c h1 z
      · have h2:s.heap.objs.size + 1≤b:=by rw [← z]; exact h1
        exact absurd (Nat.lt_of_lt_of_le (hfp b hb).2 (Nat.le_of_succ_le h2)) (Nat.lt_irrefl _)
    · rcases (hfp b hb).1.2.2.2.1 with z | z
      · exact I.ok.noex b o e z
      · exact absurd (Nat.lt_of_lt_of_le (Heap.lt_size e) (Nat.le_trans I.ok.bsz z)) (Nat.lt_irrefl _)
    · rcases List.mem_cons.mp (I.stkSub b z) with z | z
      · exact (hfp b hb).1.2.1 z
      · exact (hfp b hb).1.2.2.1 z
  refine ⟨okB,rfl,I.bare,Un.kept kp,⟨fun _=>none,?_,fun i y av e1 e2 e3=>?_⟩,fun y c e=>?_,?_,fun y c e=>?_,fun p hp=>?_,I.hok.kept kp,by rw [wipe_length]; exact I.len⟩
  · show Heap.Ns _ cenv.locals _
    rw [hL]
    exact Heap.Ns.keeps (Heap.Ns.new ..) fun b o e=>pushCells_keeps _ _ _ _ e
  · obtain ⟨e2,hne⟩:=wipe_some e2
    have hfr:scope.names.lookup y=some .free∧(cenv.kindOf y=some .cell∨cenv.kindOf y=some .free):=by
      have key:∀ k,cenv.scope.names.lookup y=some k→k=.local∨k=.cell∨k=.free→scope.names.lookup y=some .free∧(cenv.kindOf y=some .cell∨cenv.kindOf y=some .free):=fun k hk hk'=>by
        have hk0:=hk
        rw [hsc] at hk
        obtain ⟨k',e,r⟩:=lookup_relS hk
        have no:¬ (k'=.local∨k'=.cell):=fun hh=>by
          rcases ok.own _ (PySem.mem_of_lookup e) hh with e' | e'
          · obtain ⟨p,hp,hpy⟩:=List.mem_map.mp e'
            have e3:=ok.ix p hp
            have:p.1=y:=hpy
            rw [this] at e3
            exact hne (List.mem_map.mpr ⟨p,hp,nodup_ix hN e3 e1⟩)
          · exact e' (List.mem_of_getElem? e1)
        rcases r with rfl | ⟨rfl,rfl⟩
        · rcases hk' with rfl | rfl | rfl
          · exact absurd (.inl rfl) no
          · exact absurd (.inr rfl) no
          · exact ⟨e,.inr hk0⟩
        · exact ⟨e,.inl hk0⟩
      have e3:Vis cenv.scope y:=e3
      rcases e3 with e3 | e3 | e3
      · exact key _ e3 (.inl rfl)
      · exact key _ e3 (.inr (.inl rfl))
      · exact key _ e3 (.inr (.inr rfl))
    obtain ⟨m,hn,hl⟩:=I.loc
    have hvis:Vis X.env.scope y:=(ok.free _ (PySem.mem_of_lookup hfr.1) rfl).elim (fun k=>.inr (.inl k)) (fun k=>.inr (.inr k))
    obtain ⟨w,r,q⟩:=hl i y av e1 e2 hvis
    refine ⟨w,r,.inr ⟨hfr.2,?_⟩⟩
    obtain ⟨c,h1,h2⟩:=look hfr.1
    rcases q with ⟨k,_⟩ | ⟨_,c',e',z⟩
    · have k:X.env.scope.names.lookup y=some .local:=k
      rcases ok.free _ (PySem.mem_of_lookup hfr.1) rfl with k' | k' <;> rw [show X.env.scope.names.lookup y=_ from k'] at k <;> cases k
    · rw [h2] at e'; cases e'
      exact ⟨c,h1,z.keeps kp⟩
  · have e:cenv.cells.lookup y=some c:=e
    rcases mem e with ⟨h1,_⟩ | ⟨_,z⟩
    · obtain ⟨w,z⟩:=I.cell y c h1
      exact ⟨w,z.keeps kp⟩
    · exact ⟨_,z⟩
  · show H cenv.locals=none
    rw [hL]; exact I.hok.fresh (Nat.le_refl _)
  · have e:cenv.cells.lookup y=some c:=e
    rcases mem e with ⟨h1,_⟩ | ⟨h1,_⟩
    · exact I.freeC y c h1
    · exact I.hok.fresh (Nat.le_of_succ_le h1)
  · exact absurd (show p ∈ ([]:List (Addr × Obj)) ++ [] from hp) (by simp)
theorem app_ok {E:Value→Shared→Prop} {D:Addr} {xs:List V} {y:V} {v:Value} {Q:Value→Shared→Prop} (I:Inv X pins σ H s) (hD:H D=some (.lst xs)) (hz:xs.length < sizeLine) (r:RelV y v)
    (h:∀ s',Inv X pins σ (upd H D (.lst (xs ++ [y]))) s'→Q .none s'):wpAny (model X.prog X.w) X.A (call (.builtin "list.append") [.ref D,v]) Q E s:=by
  obtain ⟨hz',its,n,ri,e⟩:=I.hok D _ hD
  have hl:=ri.length
  refine append_at (hsz:=by rw [List.size_toArray]; omega) e fun h' sb ho'=>?_
  refine h { s with heap:=h' } (I.write (t':=s.toks) (by rw [hD]; trivial) (.inl rfl) (fun b u hb q=>(sb.2 b hb).trans q) ⟨_,ho'⟩ ⟨by rw [List.length_append]; exact hz,its ++ [v],n + 1,ri.append (.cons r .nil),?_⟩)
  rw [ho']
  simp
def PTs (X:Cx) (ifs:List Expr) (t:TT):Prop :=
  ∀ (pins:List (Addr × Obj)) (s:Shared) (σ:St) (H:Hp) (Q:Bool→Hp→Prop),Inv X pins σ H s→t σ H Q →
    wpAny (model X.prog X.w) X.A (forIn ifs true fun c r=>if r=true then do let ok ← isTrue c X.env (eval c X.env); pure (ForInStep.yield ok) else pure (ForInStep.yield r)) (TP X pins σ Q) X.xe s
def tYes:TT:=fun _ H Q=>Q true H
theorem pts_nil:PTs X [] tYes:=fun _ _ _ H _ I h=>wpAny_tests_nil ⟨H,I,h⟩
theorem pts_one {c:Expr} {t:TT} (h:PT X c t):PTs X [c] t:=fun pins s σ H Q I hw=>wpAny_tests_one (h pins s σ H Q I hw)
end
theorem thnF {α:Type} {t:Sem α} {Q Q':α→Shared→Prop} {M:Model} {A:Around} {E:Value→Shared→Prop} {s:Shared} (h:wpAny M A t Q (fun _ _=>False) s) (hQ:∀ a s,Q a s→Q' a s):wpAny M A t Q' E s:=wpAny_mono h hQ fun _ _ z=>False.elim z
theorem compLoop_any {prog:Program} {w:World} {A:Around} {R:Result→Shared→Prop} {s:Shared} {elt target iter:Expr} {ifs:List Expr} {scope:Scope} {pos:Pos} {it acc:Value} {env:Env} (I:Nat→Shared→Prop)
    (turn:∀ n s,I n s→wpAny (model prog w) A (pyNext it) (fun r s₁=>match r with
      | none=>R (.ok .next) s₁
      | some v=>wpAny (model prog w) A (letOwnedTupleGo target it v) (fun _ s₁'=>wpAny (model prog w) A (assign target env v) (fun _ s₂ =>
          wpAny (model prog w) A (forIn ifs true fun c r=>if r=true then do let ok ← isTrue c env (eval c env); pure (ForInStep.yield ok) else pure (ForInStep.yield r)) (fun ok s₃ =>
            if ok=true then wpAny (model prog w) A (eval elt env) (fun x s₄ =>
              wpAny (model prog w) A (call (.builtin "list.append") [acc,x]) (fun _ s₅=>∃ m,m < n∧I m s₅) (notedBy (model prog w) A env fun e s'=>R (.error e) s') s₄) (notedBy (model prog w) A env fun e s'=>R (.error e) s') s₃
            else ∃ m,m < n∧I m s₃) (notedBy (model prog w) A env fun e s'=>R (.error e) s') s₂) (notedBy (model prog w) A env fun e s'=>R (.error e) s') s₁') (notedBy (model prog w) A env fun e s'=>R (.error e) s') s₁) (notedBy (model prog w) A env fun e s'=>R (.error e) s') s)
    (n:Nat) (h:I n s) :
    codeAny (model prog w) A (.compLoop (.ListComp elt [⟨target,iter,ifs,0⟩] scope pos) 0 it acc env) R s:=by
  refine codeAny_loop rfl I (fun n s hI=>?_) n h
  show wpAny _ A ((compTurn (.ListComp elt [⟨target,iter,ifs,0⟩] scope pos) 0 it acc env).onRaise (fun x=>do noteFrame x env; theTreesLotGoes x)) _ _ s
  refine wpAny_noted ?_
  rw [compTurn_list]
  refine wpAny_bind (wpAny_standAt (wpAny_bind (wpAny_mono (turn n s hI) (fun r s₁ h₁=>?_) fun _ _ h'=>h')))
  cases r with
  | none=>exact wpAny_pure h₁
  | some v =>
    refine wpAny_bind (wpAny_mono h₁ (fun _ s₁' h₁'=>?_) fun _ _ h'=>h')
    refine wpAny_bind (wpAny_mono h₁' (fun _ s₂ h₂=>wpAny_bind (wpAny_mono h₂ (fun ok s₃ h₃=>?_) fun _ _ h'=>h')) fun _ _ h'=>h')
    cases ok with
    | false=>exact wpAny_pure ⟨rfl,h₃⟩
    | true =>
      exact wpAny_bind (wpAny_bind (wpAny_mono h₃ (fun x s₄ h₄=>wpAny_bind (wpAny_mono h₄ (fun _ s₅ h₅=>wpAny_pure (wpAny_pure ⟨rfl,h₅⟩)) fun _ _ h'=>h')) fun _ _ h'=>h'))
section
variable {X:Cx}
def tLc (wi:TI) (g:TG) (tt:TT) (te:TE) (vs:List Nat):TE:=fun σ H Q=>wi σ H fun J H1=>∀ D,H1 D=none→∃ W:Nat→Nat→Hp→Prop,(∃ m,W 0 m (upd H1 D (.lst [])))∧∀ i m H,W i m H →
  (J.stop i H∧Q (.ref D) H)∨(J.go i H∧∃ Nx:Hp→Prop,(∀ H',Nx H'→∃ m',m' < m∧W (i + 1) m' H')∧∀ x H',J.yld i H x H'→g x (wipe σ vs) H' fun σ2 H2=>wipe σ2 vs=wipe σ vs∧tt σ2 H2 fun b H3 =>
    if b=true then te σ2 H3 fun y H4=>∃ acc,H4 D=some (.lst acc)∧acc.length < sizeLine∧Nx (upd H4 D (.lst (acc ++ [y]))) else Nx H3)
theorem lc_core {pins:List (Addr × Obj)} {s:Shared} {σ:St} {H:Hp} {Q:VK} {elt tg iter:Expr} {ifs:List Expr} {scope:Scope} {own:List (Str × Nat)} {pos pos':Pos} {wi:TI} {g:TG} {tt:TT} {te:TE} {use:Option (Value→Sem Unit)} {Qf:Value→Shared→Prop}
    (hc:X.calm=true) (hN:X.N.Nodup) (I:Inv X pins σ H s) (hi:PI X tg iter wi) (ok:BlkOk X.N X.env.scope scope own)
    (hg:∀ (s:Shared) (H:Hp) (C:Addr) (cl:List (Str × Addr)) (fp:List Addr),PG (X.blk s H scope (compEnvC scope cl C X.env) fp) tg g) (ht:∀ (s:Shared) (H:Hp) (C:Addr) (cl:List (Str × Addr)) (fp:List Addr),PTs (X.blk s H scope (compEnvC scope cl C X.env) fp) ifs tt)
    (he:∀ (s:Shared) (H:Hp) (C:Addr) (cl:List (Str × Addr)) (fp:List Addr),PE (X.blk s H scope (compEnvC scope cl C X.env) fp) elt te) (hs:∀ x,foldedSetIterable iter X.env x=pure x)
    (h:tLc wi g tt te (own.map (·.2)) σ H Q)
    (hRR:∀ D C s' m H',Inv X pins σ H' s'→Q (.ref D) H'→s'.heap.Ns C m→FpOk X pins H' C→compPost (model X.prog X.w) X.A X.xe use Qf (.ref D) C (.ok .next) s') :
    wpAny (model X.prog X.w) X.A (comprehension (.ListComp elt [⟨tg,iter,ifs,0⟩] scope pos) scope X.env pos' (newList []) false (eval iter X.env) use) Qf X.xe s:=by
  have hfree:∀ y ∈ scope.names,y.2=.free→∃ c,X.env.cells.lookup y.1=some c:=fun y hy e=>by
    rcases ok.free y hy e with k | k
    · exact I.ok.has _ (.inl k)
    · exact I.ok.has _ (.inr k)
  refine wpAny_comprehension_free (use:=use) rfl hs (closure_ok hfree) ok.kind (fun y hy e=>by rw [ok.uniq y hy,e])
    (thn (hi pins s σ H _ I h) fun xv s1 hx=>thn hx fun itv s2 h2=>?_)
  obtain ⟨it,fp,tn,J,H2,e,I2,T,st2,f2,q⟩:=h2
  subst e
  refine wpAny_newObj_type (newEnv_comp ?_) (by show 0≤sizeLine; decide)
  generalize hD:s2.heap.objs.size=D
  have hDn:H2 D=none:=I2.hok.fresh (Nat.le_of_eq hD)
  obtain ⟨W,⟨m0,w0⟩,turn⟩:=q D hDn
  -- the new list
  generalize hs3:({ s2 with heap:=s2.heap.push { cls:=.type "list",data:=.seq ([]:List Value).toArray } }:Shared)=s3
  have I3:Inv X pins σ (upd H2 D (.lst [])) s3:=by
    rw [← hs3]
    refine I2.laid (t':=s2.toks) (fun b o e=>Heap.get?_push_of_some _ e) (Nat.le_of_eq hD) ⟨Nat.zero_le _,[],0,.nil,?_⟩
    rw [← hD]
    exact Heap.get?_push_size _ rfl
  have h3:s3.heap=s2.heap.push { cls:=.type "list",data:=.seq ([]:List Value).toArray }:=by rw [← hs3]
  have sz:∀ b ∈ fp,b < s2.heap.objs.size:=fun b hb=>by
    obtain ⟨o,e,_⟩:=T.obj _ _ st2 b hb
    exact Heap.lt_size e
  have f3:∀ b ∈ fp,FpOk X pins (upd H2 D (.lst [])) b∧b < s3.heap.objs.size:=fun b hb=>by
    have hlt:=sz b hb
    refine ⟨⟨?_,(f2 b hb).2⟩,by rw [h3,Heap.size_push]; exact Nat.lt_succ_of_lt hlt⟩
    rw [upd_ne (by rw [← hD]; exact Nat.ne_of_lt hlt)]
    exact (f2 b hb).1
  have st3:tn 0 s3.heap:=T.keep _ _ _ st2 fun b _ o e=>by rw [h3]; exact Heap.get?_push_of_some _ e
  have I4:=block_start I3 ok hN f3
  have pg:=hg s3 (upd H2 D (.lst [])) s3.heap.objs.size (cellsFrom (s3.heap.objs.size + 1) scope.names (cloFrom X.env.cells scope.names [])) fp
  have pt:=ht s3 (upd H2 D (.lst [])) s3.heap.objs.size (cellsFrom (s3.heap.objs.size + 1) scope.names (cloFrom X.env.cells scope.names [])) fp
  have pe:=he s3 (upd H2 D (.lst [])) s3.heap.objs.size (cellsFrom (s3.heap.objs.size + 1) scope.names (cloFrom X.env.cells scope.names [])) fp
  show codeAny _ _ (.compStart (.ListComp elt [⟨tg,iter,ifs,0⟩] scope pos) 0 (.ref it) (.ref D) (compEnvC scope (cellsFrom (s3.heap.objs.size + 1) scope.names (cloFrom X.env.cells scope.names [])) s3.heap.objs.size X.env)) (compPost (model X.prog X.w) X.A X.xe use Qf (.ref D) s3.heap.objs.size) { s3 with heap:=pushCells (s3.heap.push { cls:=.type "dict",data:=.dict #[] }) scope.names }
  have nfp:∀ b ∈ fp,(upd H2 D (.lst [])) b=none:=fun b hb=>(f3 b hb).1.1
  generalize hce:compEnvC scope (cellsFrom (s3.heap.objs.size + 1) scope.names (cloFrom X.env.cells scope.names [])) s3.heap.objs.size X.env=ce at I4 pg pt pe ⊢
  have cL:ce.locals=s3.heap.objs.size:=by subst hce; rfl
  generalize hH3:upd H2 D (.lst [])=H3 at I3 I4 pg pt pe w0 nfp f3
  generalize hs4:({ s3 with heap:=pushCells (s3.heap.push { cls:=.type "dict",data:=.dict #[] }) scope.names }:Shared)=s4 at I4 ⊢
  have st4:tn 0 s4.heap:=T.keep _ _ _ st3 fun b _ o e=>by rw [← hs4]; exact pushCells_keeps _ _ _ _ (Heap.get?_push_of_some _ e)
  have stat:∀ {σ':St} {H':Hp} {s':Shared},Inv (X.blk s3 H3 scope ce fp) [] σ' H' s'→(∀ b ∈ fp,H' b=none)→∀ b ∈ fp,FpOk (X.blk s3 H3 scope ce fp) [] H' b:=fun {σ' H' s'} I' hn b hb =>
    ⟨hn b hb,(I'.ok.exf b hb).1,I'.ok.exfs b hb,.inl hb,fun x c e=>(I'.ok.exf b hb).2 x c e,fun p hp=>absurd (show p ∈ ([]:List (Addr × Obj)) ++ [] from hp) (by simp)⟩
  have loop:codeAny (model X.prog X.w) X.A (.compLoop (.ListComp elt [⟨tg,iter,ifs,0⟩] scope pos) 0 (.ref it) (.ref D) ce) (compPost (model X.prog X.w) X.A X.xe use Qf (.ref D) s3.heap.objs.size) s4:=by
    refine compLoop_any (fun n s'=>∃ i H',Inv (X.blk s3 H3 scope ce fp) [] (wipe σ (own.map (·.2))) H' s'∧tn i s'.heap∧(∀ b ∈ fp,H' b=none)∧W i n H') ?_ m0 ⟨0,H3,I4,st4,nfp,w0⟩
    rintro n s5 ⟨i,H5,I5,st5,n5,w5⟩
    rcases turn i n H5 w5 with ⟨stop,qq⟩ | ⟨go,Nx,hNx,step⟩
    · have td:=T.done (X.blk s3 H3 scope ce fp) rfl rfl rfl hc i [] s5 _ H5 (fun _ _=>False) I5 (stat I5 n5) st5 stop
      refine thnF td fun r s6 ⟨hr,I6⟩=>?_
      subst hr
      -- back in the def's context
      have I7:Inv X pins σ H5 s6:=I3.call' (ch:=fp) I6.os I6.base I6.hok I6.bare fun b hb=>⟨(f3 b hb).1.2.2.2.1,(f3 b hb).1.2.1,(f3 b hb).1.2.2.2.2.1,(f3 b hb).1.2.2.2.2.2⟩
      have nC:H5 s3.heap.objs.size=none:=by
        have z:H5 ce.locals=none:=I6.free
        rw [cL] at z
        exact z
      obtain ⟨m,hn,_⟩:=I6.loc
      have hn:s6.heap.Ns ce.locals m:=hn
      rw [cL] at hn
      exact hRR D s3.heap.objs.size s6 m H5 I7 qq hn (I3.fpOk (Nat.le_refl _) nC)
    · have ti:=T.item (X.blk s3 H3 scope ce fp) rfl rfl rfl hc i [] s5 _ H5 (fun _ _=>False) I5 (stat I5 n5) st5 go
      refine thnF ti fun r s6 ⟨u,hr,h6⟩=>?_
      subst hr
      refine thnF h6 fun _ s7 ⟨x,H7,I7,r7,y7,st7,n7⟩=>?_
      have I7':=I7.pinned (stat I7 n7) (T.obj _ _ st7)
      refine thnF (pg _ s7 _ H7 x u _ I7' r7 (step x H7 y7)) fun _ s8 ⟨σ8,H8,I8,hw8,q8⟩=>?_
      refine thnF (pt _ s8 σ8 H8 _ I8 q8) fun b s9 ⟨H9,I9,q9⟩=>?_
      -- the turn's end
      have fin:∀ {s':Shared} {H':Hp},Inv (X.blk s3 H3 scope ce fp) ([] ++ pinsAt fp s7.heap) σ8 H' s'→Nx H'→∃ m,m < n∧∃ i H',Inv (X.blk s3 H3 scope ce fp) [] (wipe σ (own.map (·.2))) H' s'∧tn i s'.heap∧(∀ b ∈ fp,H' b=none)∧W i m H':=fun {s' H'} I' nx=>by
        obtain ⟨m',hm,w'⟩:=hNx H' nx
        have pin':∀ b ∈ fp,∀ o,s7.heap.get? b=some o→s'.heap.get? b=some o∧H' b=none:=fun b hb o e =>
          let z:=I'.pin (b,o) (List.mem_append_right _ (List.mem_append_right _ (mem_pinsAt hb e)))
          ⟨z.1,z.2.1⟩
        have hl:(wipe σ (own.map (·.2))).length=σ8.length:=by rw [← hw8,wipe_length]
        refine ⟨m',hm,i + 1,H',(I'.unpinned (pins:=[])).weak hl (fun j v e=>?_),T.keep _ _ _ st7 fun b hb o e=>(pin' b hb o e).1,fun b hb=>?_,w'⟩
        · rw [← hw8] at e
          exact (wipe_some e).1
        · obtain ⟨o,e,_⟩:=T.obj _ _ st7 b hb
          exact (pin' b hb o e).2
      cases b with
      | false =>
        simp only [Bool.false_eq_true,if_false] at q9 ⊢
        exact fin I9 q9
      | true =>
        simp only [if_true] at q9 ⊢
        refine thnF (pe _ s9 σ8 H9 _ I9 q9) fun z s10 ⟨yv,H10,I10,r10,acc,hD10,hz10,nx⟩=>?_
        exact app_ok (X:=X.blk s3 H3 scope ce fp) I10 hD10 hz10 r10 fun s11 I11=>fin I11 nx
  exact codeAny_compStart_list loop (T.self X.A 0 _ _ _ st4 loop)
theorem pe_lc {elt tg iter:Expr} {ifs:List Expr} {scope:Scope} {own:List (Str × Nat)} {pos:Pos} {wi:TI} {g:TG} {tt:TT} {te:TE} (hc:X.calm=true) (hN:X.N.Nodup) (hi:PI X tg iter wi) (ok:BlkOk X.N X.env.scope scope own)
    (hg:∀ (s:Shared) (H:Hp) (C:Addr) (cl:List (Str × Addr)) (fp:List Addr),PG (X.blk s H scope (compEnvC scope cl C X.env) fp) tg g) (ht:∀ (s:Shared) (H:Hp) (C:Addr) (cl:List (Str × Addr)) (fp:List Addr),PTs (X.blk s H scope (compEnvC scope cl C X.env) fp) ifs tt)
    (he:∀ (s:Shared) (H:Hp) (C:Addr) (cl:List (Str × Addr)) (fp:List Addr),PE (X.blk s H scope (compEnvC scope cl C X.env) fp) elt te) (hs:∀ x,foldedSetIterable iter X.env x=pure x:=by intro _; rfl) :
    PE X (.ListComp elt [⟨tg,iter,ifs,0⟩] scope pos) (tLc wi g tt te (own.map (·.2))):=by
  intro pins s σ H Q I h
  rw [eval_ListComp]
  refine lc_core hc hN I hi ok hg ht he hs h fun D C s' m H' I' q hn f=>⟨m,hn,fun h'' sb=>?_⟩
  obtain ⟨f0,f1,f2,f3,f4,f5⟩:=f
  exact ⟨.ref D,H',I'.turned (t':=s'.toks) (fun b o hb e=>(sb.2 b hb).trans e) f0 f1 f3 f4 f5,rfl,q⟩
end
theorem lc_range {lo:Int} {n:Nat} {g:TG} {tt:TT} {te:TE} {vs:List Nat} {σ:St} {H1:Hp} {D:Addr} {Qd:Hp→Prop} (Pv:Nat→Hp→Prop) (h0:Pv 0 (upd H1 D (.lst [])))
    (hs:∀ i H,i < n→Pv i H→g (.int (lo + i)) (wipe σ vs) H fun σ2 H2=>wipe σ2 vs=wipe σ vs∧tt σ2 H2 fun b H3 =>
      if b=true then te σ2 H3 fun y H4=>∃ acc,H4 D=some (.lst acc)∧acc.length < sizeLine∧Pv (i + 1) (upd H4 D (.lst (acc ++ [y]))) else Pv (i + 1) H3) (hd:∀ H,Pv n H→Qd H) :
    ∃ W:Nat→Nat→Hp→Prop,(∃ m,W 0 m (upd H1 D (.lst [])))∧∀ i m H,W i m H →
      ((Itr lo n).stop i H∧Qd H)∨((Itr lo n).go i H∧∃ Nx:Hp→Prop,(∀ H',Nx H'→∃ m',m' < m∧W (i + 1) m' H')∧∀ x H',(Itr lo n).yld i H x H'→g x (wipe σ vs) H' fun σ2 H2=>wipe σ2 vs=wipe σ vs∧tt σ2 H2 fun b H3 =>
        if b=true then te σ2 H3 fun y H4=>∃ acc,H4 D=some (.lst acc)∧acc.length < sizeLine∧Nx (upd H4 D (.lst (acc ++ [y]))) else Nx H3):=by
  refine ⟨fun i m H=>m=n - i∧i≤n∧Pv i H,⟨n,by simp,Nat.zero_le _,h0⟩,?_⟩
  rintro i m H ⟨rfl,hi,p⟩
  by_cases hlt:i < n
  · refine .inr ⟨hlt,Pv (i + 1),fun H' p'=>⟨n - (i + 1),by omega,rfl,hlt,p'⟩,fun x H' y=>?_⟩
    obtain ⟨e,y⟩:=y
    subst e y
    exact hs i _ hlt p
  · have e:i=n:=by omega
    subst e
    exact .inl ⟨Nat.le_refl _,hd H p⟩
theorem lc_list {K:PySem.W.Frag} {a:Addr} {xs:List V} {g:TG} {tt:TT} {te:TE} {vs:List Nat} {σ:St} {H1:Hp} {D:Addr} {Qd:Hp→Prop} (Pv:Nat→Hp→Prop) (h0:Pv 0 (upd H1 D (.lst []))) (hl:∀ i H,i≤xs.length→Pv i H→SqL K H a xs)
    (hs:∀ i x H,xs[i]?=some x→Pv i H→g x (wipe σ vs) H fun σ2 H2=>wipe σ2 vs=wipe σ vs∧tt σ2 H2 fun b H3 =>
      if b=true then te σ2 H3 fun y H4=>∃ acc,H4 D=some (.lst acc)∧acc.length < sizeLine∧Pv (i + 1) (upd H4 D (.lst (acc ++ [y]))) else Pv (i + 1) H3) (hd:∀ H,Pv xs.length H→Qd H) :
    ∃ W:Nat→Nat→Hp→Prop,(∃ m,W 0 m (upd H1 D (.lst [])))∧∀ i m H,W i m H →
      ((Itl K a).stop i H∧Qd H)∨((Itl K a).go i H∧∃ Nx:Hp→Prop,(∀ H',Nx H'→∃ m',m' < m∧W (i + 1) m' H')∧∀ x H',(Itl K a).yld i H x H'→g x (wipe σ vs) H' fun σ2 H2=>wipe σ2 vs=wipe σ vs∧tt σ2 H2 fun b H3 =>
        if b=true then te σ2 H3 fun y H4=>∃ acc,H4 D=some (.lst acc)∧acc.length < sizeLine∧Nx (upd H4 D (.lst (acc ++ [y]))) else Nx H3):=by
  refine ⟨fun i m H=>m=xs.length - i∧i≤xs.length∧Pv i H,⟨xs.length,by simp,Nat.zero_le _,h0⟩,?_⟩
  rintro i m H ⟨rfl,hi,p⟩
  have q:=hl i H hi p
  by_cases hlt:i < xs.length
  · refine .inr ⟨⟨xs,xs[i],q,by simp [hlt]⟩,Pv (i + 1),fun H' p'=>⟨xs.length - (i + 1),by omega,rfl,hlt,p'⟩,fun x H' y=>?_⟩
    obtain ⟨e,y⟩:=y
    subst e
    exact hs i x _ (y xs q) p
  · have e:i=xs.length:=by omega
    subst e
    exact .inl ⟨⟨xs,q,Nat.le_refl _⟩,hd H p⟩
end L2
namespace L2
open PySem PySem.Spec PyProof.Rows
end L2
namespace L2
open PySem PySem.Spec PyProof.Rows
section
variable {κ:Type} [DecidableEq κ]
def valV (kvs:List (κ × V)) (k:κ):Option V:=(kvs.find? fun kv=>decide (kv.1=k)).map (·.2)
def putK (kvs:List (κ × V)) (k:κ) (v:V):List (κ × V) :=
  if (kvs.any fun kv=>decide (kv.1=k))=true then kvs.map (fun kv=>if kv.1=k then (kv.1,v) else kv) else kvs ++ [(k,v)]
theorem valV_pos {p:κ × V} {r:List (κ × V)} {k:κ} (e:p.1=k):valV (p::r) k=some p.2:=by simp [valV,List.find?_cons,e]
theorem valV_neg {p:κ × V} {r:List (κ × V)} {k:κ} (e:¬ p.1=k):valV (p::r) k=valV r k:=by simp [valV,List.find?_cons,e]
theorem valV_any (k:κ):∀ kvs:List (κ × V),(kvs.any fun kv=>decide (kv.1=k))=(valV kvs k).isSome
  | []=>rfl
  | p::r=>by
    rw [List.any_cons]
    by_cases e:p.1=k
    · simp only [valV_pos e,decide_eq_true e,Bool.true_or,Option.isSome_some]
    · rw [valV_neg e,decide_eq_false e,Bool.false_or]; exact valV_any k r
theorem valV_snoc (k j:κ) (y:V):∀ kvs:List (κ × V),valV kvs k=none→valV (kvs ++ [(k,y)]) j=if j=k then some y else valV kvs j
  | [],_=>by
    by_cases e:k=j
    · rw [if_pos e.symm]; exact valV_pos (p:=(k,y)) e
    · rw [if_neg (fun z=>e z.symm)]; exact valV_neg (p:=(k,y)) e
  | p::r,hn=>by
    rw [List.cons_append]
    have hk:¬ p.1=k:=fun z=>by rw [valV_pos z] at hn; cases hn
    rw [valV_neg hk] at hn
    have ih:=valV_snoc k j y r hn
    by_cases e:p.1=j
    · rw [valV_pos e,valV_pos e,if_neg (fun z=>hk (e.trans z))]
    · rw [valV_neg e,valV_neg e,ih]
theorem length_putK (kvs:List (κ × V)) (k:κ) (v:V):(putK kvs k v).length≤kvs.length + 1:=by
  unfold putK
  split
  · rw [List.length_map]; omega
  · rw [List.length_append,List.length_cons,List.length_nil]; omega
theorem putK_new {kvs:List (κ × V)} {k:κ} (v:V) (h:valV kvs k=none):putK kvs k v=kvs ++ [(k,v)]:=by
  unfold putK
  rw [valV_any,h]
  exact if_neg (by decide)
theorem RelO.isSome_eq {o:Option V} {u:Option Value} (r:RelO o u):o.isSome=u.isSome:=by
  cases o with
  | none=>cases u with
    | none=>rfl
    | some _=>exact (show False from r).elim
  | some _=>cases u with
    | none=>exact (show False from r).elim
    | some _=>rfl
theorem KV.val {kvs:List (κ × V)} {vs:List (κ × Value)} (r:KV kvs vs) (k:κ):RelO (valV kvs k) (valueAt vs k):=by
  unfold KV at r
  induction r with
  | nil=>exact True.intro
  | @cons p q ps qs h t ih =>
    obtain ⟨h1,h2⟩:=h
    by_cases e:p.1=k
    · have e':q.1=k:=h1.symm.trans e
      have b:valueAt (q::qs) k=some q.2:=by simp [valueAt,List.find?_cons,e']
      rw [valV_pos e,b]; exact h2
    · have e':¬ q.1=k:=fun z=>e (h1.trans z)
      have b:valueAt (q::qs) k=valueAt qs k:=by simp [valueAt,List.find?_cons,e']
      rw [valV_neg e,b]; exact ih
theorem KV.any {kvs:List (κ × V)} {vs:List (κ × Value)} (r:KV kvs vs) (k:κ):(kvs.any fun kv=>decide (kv.1=k))=vs.any fun kv=>decide (kv.1=k):=by
  unfold KV at r
  induction r with
  | nil=>rfl
  | cons h t ih=>rw [List.any_cons,List.any_cons,ih,h.1]
theorem KV.repl {kvs:List (κ × V)} {vs:List (κ × Value)} (r:KV kvs vs) (k:κ) {y:V} {u:Value} (ry:RelV y u) :
    KV (kvs.map fun kv=>if kv.1=k then (kv.1,y) else kv) (vs.map fun kv=>if kv.1=k then (kv.1,u) else kv):=by
  unfold KV at r ⊢
  induction r with
  | nil=>exact .nil
  | @cons p q ps qs h t ih =>
    rw [List.map_cons,List.map_cons]
    refine .cons ?_ ih
    obtain ⟨h1,h2⟩:=h
    by_cases e:p.1=k
    · rw [if_pos e,if_pos (h1.symm.trans e)]; exact ⟨h1,ry⟩
    · rw [if_neg e,if_neg (fun z=>e (h1.trans z))]; exact ⟨h1,h2⟩
theorem KV.put {kvs:List (κ × V)} {vs:List (κ × Value)} (r:KV kvs vs) (k:κ) {y:V} {u:Value} (ry:RelV y u):KV (putK kvs k y) (stored vs k u):=by
  unfold putK stored
  rw [r.any k]
  by_cases e:(vs.any fun kv=>decide (kv.1=k))=true
  · rw [if_pos e,if_pos e]; exact r.repl k ry
  · rw [if_neg e,if_neg e]; exact Paired.snoc r ⟨rfl,ry⟩
theorem KV.length {kvs:List (κ × V)} {vs:List (κ × Value)} (r:KV kvs vs):kvs.length=vs.length:=Paired.length r
end
theorem kV_is {P:Program} {w:World} {k:Key} {u:Value} (r:RelV (kV k) u):(mixKind P w).is k u=true:=by
  cases k with
  | inl i=>obtain ⟨t,e⟩:=(show ∃ t,u=Value.int i t from r); subst e; exact mixKind_int P w i t
  | inr x=>obtain ⟨t,e⟩:=(show ∃ t,u=Value.str x t from r); subst e; exact mixKind_str P w x t
theorem items_are {P:Program} {w:World}:∀ {ks:List Key} {us:List Value},Vals (ks.map kV) us→ItemsAre (mixKind P w) ks us
  | [],_,r=>by rw [List.map_nil] at r; cases r; exact .nil
  | k::ks,_,r=>by
    rw [List.map_cons] at r
    cases r with
    | cons h t=>exact .cons (kV_is h) (items_are t)
abbrev KT (H:Hp):List (List Key × V)→List (List Key × Addr × Value)→Prop:=Paired fun p q=>p.1=q.1∧H q.2.1=some (.tup (p.1.map kV))∧RelV p.2 q.2.2
theorem KT.val {H:Hp} {kvs:List (List Key × V)} {xs:List (List Key × Addr × Value)} (r:KT H kvs xs) (k:List Key):RelO (valV kvs k) ((atKey xs k).map (·.2)):=by
  induction r with
  | nil=>exact True.intro
  | @cons p q ps qs h t ih =>
    obtain ⟨h1,_,h2⟩:=h
    by_cases e:p.1=k
    · have e':q.1=k:=h1.symm.trans e
      have b:atKey (q::qs) k=some q.2:=by simp [atKey,List.find?_cons,e']
      rw [valV_pos e,b]; exact h2
    · have e':¬ q.1=k:=fun z=>e (h1.trans z)
      have b:atKey (q::qs) k=atKey qs k:=by simp [atKey,List.find?_cons,e']
      rw [valV_neg e,b]; exact ih
theorem KT.repl {H:Hp} {kvs:List (List Key × V)} {xs:List (List Key × Addr × Value)} (r:KT H kvs xs) (k:List Key) {y:V} {u:Value} (ry:RelV y u) :
    KT H (kvs.map fun kv=>if kv.1=k then (kv.1,y) else kv) (xs.map (putAt k u)):=by
  induction r with
  | nil=>exact .nil
  | @cons p q ps qs h t ih =>
    rw [List.map_cons,List.map_cons]
    refine .cons ?_ ih
    obtain ⟨h1,h2,h3⟩:=h
    unfold putAt
    by_cases e:p.1=k
    · rw [if_pos e,if_pos (h1.symm.trans e)]; exact ⟨h1,h2,ry⟩
    · rw [if_neg e,if_neg (fun z=>e (h1.trans z))]; exact ⟨h1,h2,h3⟩
theorem KT.put {H:Hp} {kvs:List (List Key × V)} {xs:List (List Key × Addr × Value)} (r:KT H kvs xs) (k:List Key) {b:Addr} {y:V} {u:Value} (hb:H b=some (.tup (k.map kV))) (ry:RelV y u) :
    KT H (putK kvs k y) (storedH xs k b u):=by
  have e:(kvs.any fun kv=>decide (kv.1=k))=(atKey xs k).isSome:=by
    rw [valV_any,(r.val k).isSome_eq,Option.isSome_map]
  unfold putK storedH
  rw [e]
  by_cases q:(atKey xs k).isSome=true
  · rw [if_pos q,if_pos q]; exact r.repl k ry
  · rw [if_neg q,if_neg q]; exact Paired.snoc r ⟨rfl,hb,ry⟩
theorem KT.keeps {H H':Hp} {kvs:List (List Key × V)} {xs:List (List Key × Addr × Value)} (r:KT H kvs xs) (ht:∀ b ys,H b=some (.tup ys)→H' b=some (.tup ys)):KT H' kvs xs :=
  Paired.mapP r fun _ _ z=>⟨z.1,ht _ _ z.2.1,z.2.2⟩
section
variable {P:Program} {w:World} {H:Hp} {h:Heap} {a:Addr}
theorem rd_of {u:HO} (ok:HOk P w H h) (e:Rd H a u):ObjOk P w H h a u:=e.ok ok
theorem dk_rd {kvs:List (Key × V)} (ok:HOk P w H h) (e:Rd H a (.dK kvs)):kvs.length≤sizeLine∧(a == sysModules)=false∧∃ vs,KV kvs vs∧h.DictOf (mixKind P w) a vs :=
  show ObjOk P w H h a (.dK kvs) from rd_of ok e
theorem dk_of {kvs:List (Key × V)} (ok:HOk P w H h) (e:H a=some (.dK kvs)):kvs.length≤sizeLine∧(a == sysModules)=false∧∃ vs,KV kvs vs∧h.DictOf (mixKind P w) a vs:=dk_rd ok (.inl e)
theorem key_of {ks:List Key} (ok:HOk P w H h) (e:H a=some (.tup (ks.map kV))):(tupleKind (mixKind P w)).is h ks a:=by
  obtain ⟨_,its,r,o,h1,h2,n,h3⟩:=(show ObjOk P w H h a (.tup (ks.map kV)) from ok a _ e)
  exact ⟨o,its.toArray,n,h1,h2,h3,by simpa using items_are r⟩
theorem dt_rd {kvs:List (List Key × V)} (ok:HOk P w H h) (e:Rd H a (.dT kvs)):kvs.length≤sizeLine∧(a == sysModules)=false ∧
    ∃ xs,KT H kvs xs∧h.DictOfH (tupleKind (mixKind P w)) a xs:=by
  obtain ⟨z,y,xs,r,o,es,ep,h1,h2,h3,h4,h5⟩:=(show ObjOk P w H h a (.dT kvs) from rd_of ok e)
  refine ⟨z,y,xs,r,o,es,ep,h1,h2,h3,h4,fun x hx=>?_,h5⟩
  have all:∀ {l:List (List Key × V)} {m:List (List Key × Addr × Value)},KT H l m→∀ x ∈ m,(tupleKind (mixKind P w)).is h x.1 x.2.1:=by
    intro l m q
    induction q with
    | nil=>intro x hx; exact nomatch hx
    | @cons p q ps qs hq t ih =>
      intro x hx
      rcases List.mem_cons.mp hx with e | hx
      · subst e
        exact key_of ok (by rw [← hq.1]; exact hq.2.1)
      · exact ih x hx
  exact all r x hx
theorem dt_of {kvs:List (List Key × V)} (ok:HOk P w H h) (e:H a=some (.dT kvs)):kvs.length≤sizeLine∧(a == sysModules)=false ∧
    ∃ xs,KT H kvs xs∧h.DictOfH (tupleKind (mixKind P w)) a xs:=dt_rd ok (.inl e)
end
def DGet (H:Hp) (a:Addr) (y:V) (r:Option V):Prop :=
  (∃ kvs k,Rd H a (.dK kvs)∧y=kV k∧r=valV kvs k)∨∃ kvs k b,Rd H a (.dT kvs)∧y=.ref b∧H b=some (.tup (k.map kV))∧r=valV kvs k
def DPut (H:Hp) (a:Addr) (y v:V) (H':Hp):Prop :=
  (∃ kvs k,H a=some (.dK kvs)∧y=kV k∧kvs.length < sizeLine∧H'=upd H a (.dK (putK kvs k v))) ∨
  ∃ kvs k b,H a=some (.dT kvs)∧y=.ref b∧H b=some (.tup (k.map kV))∧kvs.length < sizeLine∧H'=upd H a (.dT (putK kvs k v))
theorem DGet.k {H:Hp} {a:Addr} {kvs:List (Key × V)} {k:Key} (e:H a=some (.dK kvs)):DGet H a (kV k) (valV kvs k):=.inl ⟨kvs,k,.inl e,rfl,rfl⟩
theorem DPut.k {H:Hp} {a:Addr} {kvs:List (Key × V)} {k:Key} {v:V} (e:H a=some (.dK kvs)) (hl:kvs.length < sizeLine):DPut H a (kV k) v (upd H a (.dK (putK kvs k v))):=.inl ⟨kvs,k,e,rfl,hl,rfl⟩
section
variable {X:Cx} {pins:List (Addr × Obj)} {σ:St} {H:Hp} {s:Shared} {a:Addr} {y v:V} {u r:Value} {o:Option V} {A:Around} {E:Value→Shared→Prop}
theorem Inv.big (I:Inv X pins σ H s):sysModules < s.heap.objs.size:=by
  have h:mainGlobals < s.heap.objs.size:=(I.mod.glob.keeps I.bk).lt
  exact Nat.lt_trans (by decide) h
theorem d_getItem {Q:Value→Shared→Prop} (hu:A.units + 1 < cLine) (I:Inv X pins σ H s) (g:DGet H a y (some v)) (ry:RelV y u) (h:∀ w' s',Inv X pins σ H s'→RelV v w'→Q w' s') :
    wpAny (model X.prog X.w) A (getItem (.ref a) u) Q E s:=by
  rcases g with ⟨kvs,k,e,ey,l⟩ | ⟨kvs,k,b,e,ey,eb,l⟩
  · subst ey
    obtain ⟨z,hd,vs,rel,dd⟩:=dk_rd I.hok e
    obtain ⟨w',hw,rw'⟩:=RelO.some_of (v:=v) (o:=valueAt vs k) (by rw [l]; exact rel.val k)
    exact wpAny_getItem_of (kV_is ry) dd.mapOf hw (h w' _ (I.tok _) rw')
  · subst ey
    cases (show u=Value.ref b from ry)
    obtain ⟨z,hd,xs,rel,dd⟩:=dt_rd I.hok e
    obtain ⟨w',hw,rw'⟩:=RelO.some_of (v:=v) (o:=(atKey xs k).map (·.2)) (by rw [l]; exact rel.val k)
    obtain ⟨p,hp,hp2⟩:=Option.map_eq_some_iff.mp hw
    refine wpAny_getItem_heap (tupleKind_room_in1 hu) (key_of I.hok eb) dd hp ?_
    rw [hp2]
    exact h w' _ (I.tok _) rw'
theorem d_notIn {Q:Value→Shared→Prop} (hu:A.units + 1 < cLine) (I:Inv X pins σ H s) (g:DGet H a y o) (ry:RelV y u) (h:∀ s',Inv X pins σ H s'→Q (.bool (!o.isSome)) s') :
    wpAny (model X.prog X.w) A (compareOp .NotIn u (.ref a)) Q E s:=by
  rcases g with ⟨kvs,k,e,ey,l⟩ | ⟨kvs,k,b,e,ey,eb,l⟩
  · subst ey
    obtain ⟨z,hd,vs,rel,dd⟩:=dk_rd I.hok e
    refine wpAny_notIn_of (kV_is ry) hd dd.mapOf ?_
    rw [← (rel.val k).isSome_eq,← l]
    exact h _ (I.tok _)
  · subst ey
    cases (show u=Value.ref b from ry)
    obtain ⟨z,hd,xs,rel,dd⟩:=dt_rd I.hok e
    refine wpAny_notIn_heap (tupleKind_room_in1 hu) (key_of I.hok eb) hd dd ?_
    have q:=(rel.val k).isSome_eq
    rw [Option.isSome_map] at q
    rw [← q,← l]
    exact h _ (I.tok _)
theorem d_write {h':Heap} {t':Nat} {ob:HO} (I:Inv X pins σ H s) (mu:Mut (H a)) (hs:Heap.SameBut a s.heap h') (he:∃ q,h'.get? a=some q) (new:ObjOk X.prog X.w (upd H a ob) h' a ob) :
    Inv X pins σ (upd H a ob) { s with heap:=h',toks:=t' } :=
  I.write (x:=a) (e:=a) mu (.inl rfl) (fun b q hb z=>(hs.2 b hb).trans z) he new
theorem dk_new {P:Program} {w:World} {H':Hp} {h':Heap} {kvs:List (Key × V)} {vs:List (Key × Value)} (z:kvs.length≤sizeLine) (hd:(a == sysModules)=false) (rel:KV kvs vs) (dd:h'.DictOf (mixKind P w) a vs) :
    ObjOk P w H' h' a (.dK kvs):=⟨z,hd,vs,rel,dd⟩
theorem d_setItem {H':Hp} {Q:Unit→Shared→Prop} (hu:A.units + 1 < cLine) (I:Inv X pins σ H s) (g:DPut H a y v H') (ry:RelV y u) (rv:RelV v r) (h:∀ s',Inv X pins σ H' s'→Q () s') :
    wpAny (model X.prog X.w) A (setItem (.ref a) u r) Q E s:=by
  rcases g with ⟨kvs,k,e,ey,l,eH⟩ | ⟨kvs,k,b,e,ey,eb,l,eH⟩
  · subst ey eH
    obtain ⟨z,hd,vs,rel,dd⟩:=dk_of I.hok e
    have hz:vs.length≤sizeLine:=by rw [← rel.length]; exact z
    have hl:(putK kvs k v).length≤sizeLine:=by have:=length_putK kvs k v; omega
    refine wpAny_setItem_pairs (hsz:=hz) (kV_is ry) dd fun h' dd' hs=>h _ ?_
    have he:∃ q,h'.get? a=some q:=let ⟨q,_,_,hq,_⟩:=dd'; ⟨q,hq⟩
    exact d_write I (by rw [e]; exact True.intro) hs he (dk_new hl hd (rel.put k rv) dd')
  · subst ey eH
    cases (show u=Value.ref b from ry)
    obtain ⟨z,hd,xs,rel,dd⟩:=dt_of I.hok e
    have hz:xs.length≤sizeLine:=by rw [← Paired.length rel]; exact z
    have hl:(putK kvs k v).length≤sizeLine:=by have:=length_putK kvs k v; omega
    refine wpAny_setItem_heap (hsz:=hz) (tupleKind_room_in1 hu) (key_of I.hok eb) dd fun h' dd' hs=>h _ ?_
    obtain ⟨q,es,ep,hq,h2,h3,h4,_,h5⟩:=dd'
    refine d_write I (by rw [e]; exact True.intro) hs ⟨q,hq⟩ ⟨hl,hd,_,(rel.put k eb rv).keeps fun c ys ec=>?_,q,es,ep,hq,h2,h3,h4,h5⟩
    rw [upd_ne (ne_of ec e (fun z=>nomatch z))]
    exact ec
end
section
variable {X:Cx} {pins:List (Addr × Obj)} {σ:St} {H:Hp} {s:Shared} {a:Addr} {kvs:List (Key × V)} {k:Key} {u:Value} {A:Around} {E:Value→Shared→Prop}
theorem d_len {Q:Value→Shared→Prop} (I:Inv X pins σ H s) (e:Rd H a (.dK kvs)) (h:∀ t s',Inv X pins σ H s'→Q (.int kvs.length t) s'):wpAny (model X.prog X.w) A (call (.builtin "len") [.ref a]) Q E s:=by
  obtain ⟨z,hd,vs,rel,dd⟩:=dk_rd I.hok e
  refine call_len_dict hd dd (by rw [← rel.length]; rw [sizeLine_eq] at z; omega) ?_
  rw [← rel.length]
  exact h _ _ (I.tok _)
end
def NoSl (i:Expr):Prop:=∀ ov iv,subscripted i false ov iv=operate [ov,iv] (getItem ov iv)
theorem subD_of {prog:Program} {w:World} {A:Around} {E:Value→Shared→Prop} {s:Shared} {env:Env} {value slice:Expr} {pos:Pos} {T id:String} {Q:Value→Shared→Prop}
    (hl:typeLookup (.type T) "__getitem__" = pure (some (.builtin id))) (hs:NoSl slice)
    (h:wpAny (model prog w) A (eval value env) (fun o s₁=>wpAny (model prog w) A (eval slice env) (fun i s₂=>s₂.TypeIs o T∧wpAny (model prog w) A (getItem o i) Q E s₂) E s₁) E s) :
    wpAny (model prog w) A (eval (.Subscript value slice pos) env) Q E s:=by
  refine Subscript_ (wpAny_mono h (fun o s₁ h₁=>wpAny_mono h₁ (fun i s₂ h₂=>?_) fun _ _ x=>x) fun _ _ x=>x)
  obtain ⟨hT,h₂⟩:=h₂
  unfold subscriptTail
  refine wpAny_bind ?_
  rw [getitemInPython_of_ne hT.not_modules]
  refine wpAny_bind (wpAny_specialOf hT hl ?_)
  have fin:wpAny (model prog w) A (subscripted slice false o i) (fun r s₃=>wpAny (model prog w) A (letTemporaryGo value o r >>= fun _=>pure r) Q E s₃) E s₂:=by
    rw [hs o i]
    exact wpAny_operating (wpAny_mono h₂ (fun r s₃ h₃=>wpAny_bind (wpAny_letTemporaryGo (wpAny_pure h₃))) fun _ _ x=>x)
  first
    | exact wpAny_pure (wpAny_bind fin)
    | exact wpAny_bind (wpAny_pure (wpAny_bind fin))
    | exact wpAny_bind fin
theorem dict_typeIs {X:Cx} {pins:List (Addr × Obj)} {σ:St} {H:Hp} {s:Shared} {a:Addr} {y:V} {o:Option V} (I:Inv X pins σ H s) (g:DGet H a y o):s.TypeIs (.ref a) "dict":=by
  rcases g with ⟨kvs,k,e,_,_⟩ | ⟨kvs,k,b,e,_,_,_⟩
  · obtain ⟨_,_,vs,_,dd⟩:=dk_rd I.hok e
    exact dd.typeIs
  · obtain ⟨_,_,xs,_,dd⟩:=dt_rd I.hok e
    exact dd.typeIs
def tDGet (td ty:TE):TE:=fun σ H Q=>td σ H fun x H1=>ty σ H1 fun y H2=>∃ a v,x=.ref a∧DGet H2 a y (some v)∧Q v H2
def tDNotIn (ty td:TE):TE:=fun σ H Q=>ty σ H fun y H1=>td σ H1 fun x H2=>∃ a o,x=.ref a∧DGet H2 a y o∧Q (.bl (!o.isSome)) H2
def sDPut (td ty tv:TE):TS:=fun D σ H=>tv σ H fun v H1=>td σ H1 fun x H2=>ty σ H2 fun y H3=>∃ a H4,x=.ref a∧DPut H3 a y v H4∧D.nx σ H4
def sDAug (td ty tv:TE) (rd:V→V→Hp→VK→Prop):TS:=fun D σ H=>td σ H fun x H1=>ty σ H1 fun y H2=>∃ a v,x=.ref a∧DGet H2 a y (some v) ∧
  tv σ H2 fun y2 H3=>rd v y2 H3 fun z H4=>∃ H5,DPut H4 a y z H5∧D.nx σ H5
section
variable {X:Cx} {o i e value:Expr} {pos pos' tpos:Pos} {td ty tv:TE}
theorem pe_dget (hu:X.A.units + 1 < cLine) (ho:PE X o td) (hi:PE X i ty) (hs:NoSl i):PE X (.Subscript o i pos) (tDGet td ty):=by
  intro pins s σ H Q I h
  refine subD_of PySem.F.slot_dict_getitem.lookup hs (thn (ho pins s σ H _ I h) fun u s1 ⟨x,H1,I1,rx,q1⟩=>thn (hi pins s1 σ H1 _ I1 q1) fun iv s2 ⟨y,H2,I2,ry,a,v,ex,g,q2⟩=>?_)
  subst ex
  obtain rfl:u=Value.ref a:=rx
  exact ⟨dict_typeIs I2 g,d_getItem hu I2 g ry fun w' s3 I3 rw'=>⟨v,H2,I3,rw',q2⟩⟩
theorem pc_dnotin (hu:X.A.units + 1 < cLine) (hi:PE X i ty) (ho:PE X o td):PC X .NotIn i o (tDNotIn ty td):=by
  intro pins s σ H Q I h
  refine thn (hi pins s σ H _ I h) fun iv s1 ⟨y,H1,I1,ry,q1⟩=>thn (ho pins s1 σ H1 _ I1 q1) fun u s2 ⟨x,H2,I2,rx,a,ov,ex,g,q2⟩=>?_
  subst ex
  obtain rfl:u=Value.ref a:=rx
  exact d_notIn hu I2 g ry fun s3 I3=>⟨.bl (!ov.isSome),H2,I3,rfl,q2⟩
theorem ps_dput (hu:X.A.units + 1 < cLine) (ho:PE X o td) (hi:PE X i ty) (hv:PE X value tv) (hs:swapsWith value (some (.Subscript o i pos')) pos.line X.env=pure false) :
    PS X (.Assign [.Subscript o i pos'] value pos) (sDPut td ty tv):=by
  intro pins s σ H D I h
  refine wpAny_Assign_Subscript (thn (hv pins s σ H _ I h) fun r s1 ⟨v,H1,I1,rv,q1⟩=>thn (ho pins s1 σ H1 _ I1 q1) fun u s2 ⟨x,H2,I2,rx,q2⟩=>thn (hi pins s2 σ H2 _ I2 q2) fun iv s3 ⟨y,H3,I3,ry,a,H4,ex,g,q3⟩=>?_) hs
  subst ex
  obtain rfl:u=Value.ref a:=rx
  exact d_setItem hu I3 g ry rv fun s4 I4=>⟨σ,H4,I4,q3⟩
theorem ps_daug {op:Operator} {rd:V→V→Hp→VK→Prop} (hu:X.A.units + 1 < cLine) (ho:PE X o td) (hi:PE X i ty) (hv:PE X value tv) (hop:InOp X op rd)
    (ha:∀ ov iv new,augStore i ov iv new=(do holding [new,ov,iv] (setItem ov iv new); release [new,ov,iv] []; pure .next)):PS X (.AugAssign (.Subscript o i tpos) op value pos) (sDAug td ty tv rd):=by
  intro pins s σ H D I h
  refine wpAny_AugAssign_SubscriptAny (thn (ho pins s σ H _ I h) fun u s1 ⟨x,H1,I1,rx,q1⟩=>thn (hi pins s1 σ H1 _ I1 q1) fun iv s2 ⟨y,H2,I2,ry,a,v,ex,g,q2⟩=>?_) ha
  subst ex
  obtain rfl:u=Value.ref a:=rx
  refine d_getItem hu I2 g ry fun w' s3 I3 rw'=>thn (hv pins s3 σ H2 _ I3 q2) fun w2 s4 ⟨y2,H3,I4,ry2,q3⟩=>thn (hop pins s4 σ H3 v y2 w' w2 _ I4 rw' ry2 q3) fun w3 s5 ⟨z,H4,I5,rz,H5,g5,q4⟩=>?_
  exact d_setItem hu I5 g5 ry rz fun s6 I6=>⟨σ,H5,I6,q4⟩
end
theorem dk_empty {P:Program} {w:World} {H:Hp} (h:Heap) (hb:sysModules < h.objs.size):ObjOk P w H (h.push { cls:=.type "dict",data:=.dict #[] }) h.objs.size (.dK []) :=
  ⟨Nat.zero_le _,beq_eq_false_iff_ne.mpr (Ne.symm (Nat.ne_of_lt hb)),[],.nil,Heap.DictOf.new h⟩
def tDNewK:TE:=fun _ H Q=>∀ p,H p=none→Q (.ref p) (upd H p (.dK []))
section
variable {X:Cx} {pos:Pos}
theorem pe_dnewK:PE X (.Dict [] [] pos) tDNewK:=fun pins s σ H Q I h =>
  wpAny_Dict_empty ⟨.ref s.heap.objs.size,_,I.laid (a:=s.heap.objs.size) (o:=.dK []) (t':=s.toks) (fun _ _ q=>Heap.get?_push_of_some _ q) (Nat.le_refl _) (dk_empty s.heap I.big),rfl,h _ (I.hok.fresh (Nat.le_refl _))⟩
end
end L2
namespace L2
open PySem PySem.Spec PyProof.Rows
end L2
namespace L2
open PySem PySem.Spec PyProof.Rows
theorem boot_reversed5:bootBuiltins "reversed" = some (.type "reversed"):=by decide +kernel
section
variable {X:Cx} {pins:List (Addr × Obj)} {σ:St} {H:Hp} {s:Shared} {h':Heap}
theorem Inv.turnedL {t':Nat} {ch:List Addr} (I:Inv X pins σ H s) (k:∀ b o,b ∉ ch→s.heap.get? b=some o→h'.get? b=some o) (hf:∀ b ∈ ch,FpOk X pins H b):Inv X pins σ H { s with heap:=h',toks:=t' }:=by
  have nit:∀ b u,H b=some u→b ∉ ch:=fun b u e z=>by
    have q:=(hf b z).1
    rw [q] at e; cases e
  refine I.step (g':=s.gens) (d':=s.drawn) (ch:=ch) (fun b hb=>⟨(hf b hb).2.2.2.1,(hf b hb).2.1,(hf b hb).2.2.2.2.1,(hf b hb).2.2.2.2.2⟩) (fun b o _ _ hc e _=>k b o hc e) (fun b o _ _ hc e _=>⟨o.slots,k b o hc e⟩)
    (fun _ _ _ _ n=>n) (fun b o hc e=>⟨o,k b o hc e⟩) (fun _ _ e=>e) (fun _ _ _ e=>e) (fun b ps e=>⟨#[],by rw [e]; simp⟩) (fun m hm=>?_) (fun b u e=>?_) I.bare
  · obtain ⟨o,es,ep,ho,r⟩:=hm
    exact ⟨o,es,ep,k _ o (fun z=>(hf _ z).2.1 rfl) ho,r⟩
  · refine (I.hok b u e).stay (fun c v hc q=>k c v ?_ q) (fun _ q=>q) fun _ _ q=>q
    rcases hc with z | z
    · rw [z]; exact nit b u e
    · exact nit c _ z
theorem Inv.turnedNew {t':Nat} {ch:List Addr} {T:Addr} {ob:HO} (I:Inv X pins σ H s) (k:∀ b o,b ∉ ch→s.heap.get? b=some o→h'.get? b=some o) (hf:∀ b ∈ ch,FpOk X pins H b) (hT:s.heap.objs.size≤T)
    (new:ObjOk X.prog X.w (upd H T ob) h' T ob):Inv X pins σ (upd H T ob) { s with heap:=h',toks:=t' }:=by
  have hn:H T=none:=I.hok.fresh hT
  have nit:∀ b u,H b=some u→b ∉ ch:=fun b u e z=>by
    have q:=(hf b z).1
    rw [q] at e; cases e
  refine I.step (g':=s.gens) (d':=s.drawn) (ch:=ch) (fun b hb=>⟨(hf b hb).2.2.2.1,(hf b hb).2.1,(hf b hb).2.2.2.2.1,(hf b hb).2.2.2.2.2⟩) (fun b o _ _ hc e _=>k b o hc e) (fun b o _ _ hc e _=>⟨o.slots,k b o hc e⟩)
    (fun b o _ e n=>?_) (fun b o hc e=>⟨o,k b o hc e⟩) (fun b xs e=>?_) (fun b o u e=>?_) (fun b ps e=>⟨#[],?_⟩) (fun m hm=>?_) (fun b u e=>?_) I.bare
  · rw [upd_ne (Nat.ne_of_lt (Nat.lt_of_lt_of_le (Heap.lt_size e) hT))]; exact n
  · rw [upd_ne (ne_of_none e hn)]; exact e
  · rw [upd_ne (ne_of_none e hn)]; exact e
  · rw [upd_ne (ne_of_none e hn),e]; simp
  · obtain ⟨o,es,ep,ho,r⟩:=hm
    exact ⟨o,es,ep,k _ o (fun z=>(hf _ z).2.1 rfl) ho,r⟩
  · by_cases hb:b=T
    · subst hb
      rw [upd_same] at e
      cases e
      exact new
    · rw [upd_ne hb] at e
      refine (I.hok b u e).stay (fun c v hc q=>k c v ?_ q) (fun c q=>by rw [upd_ne (ne_of_none q hn)]; exact q) fun c xs q=>by rw [upd_ne (ne_of_none q hn)]; exact q
      rcases hc with z | z
      · rw [z]; exact nit b u e
      · exact nit c _ z
theorem Inv.lock {d:Addr} {u:HO} (I:Inv X pins σ H s) (h:H d=some u) (mu:Mut (some u)):∃ od,Inv X pins σ (upd H d (.frz od u)) s:=by
  have x:=I.hok d u h
  have ex:∃ od,s.heap.get? d=some od:=by
    cases u with
    | lst xs=>obtain ⟨_,_,_,_,e⟩:=x; exact ⟨_,e⟩
    | dK kvs=>obtain ⟨_,_,_,_,o,_,_,e,_⟩:=x; exact ⟨o,e⟩
    | dT kvs=>obtain ⟨_,_,_,_,o,_,_,e,_⟩:=x; exact ⟨o,e⟩
    | set S n=>obtain ⟨o,_,_,_,e,_⟩:=x; exact ⟨o,e⟩
    | ins C dx fs=>obtain ⟨_,_,_,e,_⟩:=x; exact ⟨_,e⟩
    | ext φ=>obtain ⟨_,⟨_,e⟩,_⟩:=x; exact ⟨_,e⟩
    | _=>exact False.elim mu
  obtain ⟨od,e⟩:=ex
  have new:ObjOk X.prog X.w (upd H d (.frz od u)) s.heap d (.frz od u):=by
    refine ⟨e,x.stay (fun b v _ q=>q) (fun b q=>?_) fun b xs q=>?_⟩
    · rw [upd_ne (fun z=>by rw [z,h] at q; cases q; exact mu)]; exact q
    · rw [upd_ne (fun z=>by rw [z,h] at q; cases q; exact mu)]; exact q
  exact ⟨od,I.write (x:=d) (e:=d) (t':=s.toks) (h':=s.heap) (by rw [h]; exact mu) (.inl rfl) (fun b v _ q=>q) ⟨od,e⟩ new⟩
theorem Inv.nofrz {d:Addr} {u:HO} (I:Inv X pins σ H s) (h:H d=some u) (mu:Mut (some u)):∀ o' u',X.H_0 d≠some (.frz o' u'):=fun o' u' e=>by
  have q:=I.base.frzs d o' u' e
  rw [h] at q
  cases q
  exact mu
theorem Inv.unlock {d:Addr} {od:Obj} {u:HO} (I:Inv X pins σ H s) (h:H d=some (.frz od u)) (hn:∀ o' u',X.H_0 d≠some (.frz o' u')):Inv X pins σ (upd H d u) s:=by
  have neH:∀ b o,H b=some o→(∀ o' u',o≠.frz o' u')→b≠d:=fun b o e hne z=>by
    rw [z,h] at e
    cases e
    exact hne _ _ rfl
  have neN:∀ b,H b=none→b≠d:=fun b e z=>by rw [z,h] at e; cases e
  refine ⟨I.ok,I.os,I.bare,⟨I.base.keep,I.base.slot,fun b o e n hx=>?_,I.base.there,fun b xs e=>?_,fun b o x e=>?_,fun b ps e=>?_⟩,I.loc,I.cell,?_,fun x c e=>?_,fun p hp=>?_,fun b o e=>?_,I.len⟩
  · rw [upd_ne (neN b (I.base.free b o e n hx))]; exact I.base.free b o e n hx
  · have q:=I.base.tups b xs e
    rw [upd_ne (neH b _ q (fun _ _ z=>nomatch z))]; exact q
  · have q:=I.base.frzs b o x e
    rw [upd_ne (fun z=>by rw [z] at e; exact hn _ _ e)]; exact q
  · obtain ⟨m,q⟩:=I.base.tbls b ps e
    exact ⟨m,by rw [upd_ne (neH b _ q (fun _ _ z=>nomatch z))]; exact q⟩
  · rw [upd_ne (neN _ I.free)]; exact I.free
  · rw [upd_ne (neN c (I.freeC x c e))]; exact I.freeC x c e
  · obtain ⟨e,n,r⟩:=I.pin p hp
    exact ⟨e,by rw [upd_ne (neN _ n)]; exact n,r⟩
  · by_cases hb:b=d
    · rw [hb,upd_same] at e
      cases e
      rw [hb]
      obtain ⟨_,x⟩:=I.hok d _ h
      exact x.stay (fun c v _ q=>q) (fun c q=>by rw [upd_ne (neH c _ q (fun _ _ z=>nomatch z))]; exact q) fun c xs q=>by rw [upd_ne (neH c _ q (fun _ _ z=>nomatch z))]; exact q
    · rw [upd_ne hb] at e
      exact (I.hok b o e).stay (fun c v _ q=>q) (fun c q=>by rw [upd_ne (neH c _ q (fun _ _ z=>nomatch z))]; exact q) fun c xs q=>by rw [upd_ne (neH c _ q (fun _ _ z=>nomatch z))]; exact q
end
def tLock (t:TS):TS:=fun D σ H=>∃ d u,H d=some u∧Mut (some u)∧∀ od,t ⟨fun σ' H'=>H' d=some (.frz od u)∧D.nx σ' (upd H' d u),fun v H'=>H' d=some (.frz od u)∧D.rt v (upd H' d u),fun σ' H'=>H' d=some (.frz od u)∧D.bk σ' (upd H' d u),fun σ' H'=>H' d=some (.frz od u)∧D.ct σ' (upd H' d u)⟩ σ (upd H d (.frz od u))
section
variable {X:Cx}
theorem ps_lock {st:Stmt} {t:TS} (h:PS X st t):PS X st (tLock t):=by
  intro pins s σ H D I hw
  obtain ⟨d,u,hd,mu,hw⟩:=hw
  obtain ⟨od,I1⟩:=I.lock hd mu
  refine thn (h pins s σ _ _ I1 (hw od)) fun f s1 q=>?_
  cases f with
  | next=>obtain ⟨σ',H',I2,e,q⟩:=q; exact ⟨σ',_,I2.unlock e (I.nofrz hd mu),q⟩
  | brk=>obtain ⟨σ',H',I2,e,q⟩:=q; exact ⟨σ',_,I2.unlock e (I.nofrz hd mu),q⟩
  | cont=>obtain ⟨σ',H',I2,e,q⟩:=q; exact ⟨σ',_,I2.unlock e (I.nofrz hd mu),q⟩
  | ret v=>obtain ⟨x,σ',H',I2,r,e,q⟩:=q; exact ⟨x,σ',_,I2.unlock e (I.nofrz hd mu),r,q⟩
theorem pi_one {tg:Expr} {pins:List (Addr × Obj)} {σ:St} {H:Hp} {s:Shared} {R:It→Hp→Prop} {J:It} {tn:Nat→Heap→Prop} {tk:Nat} (I:Inv X pins σ H s) (o:Obj)
    (T:Turn X.prog X.w X.K tg J [s.heap.objs.size] s.heap.objs.size tn) (st:tn 0 (s.heap.push o)) (q:R J H):PIE X pins σ tg R (.ref s.heap.objs.size) { s with heap:=s.heap.push o,toks:=tk }:=by
  refine ⟨s.heap.objs.size,[s.heap.objs.size],tn,J,H,rfl,I.kept fun b ob e=>Heap.get?_push_of_some _ e,T,st,fun b hb=>?_,q⟩
  have e:b=s.heap.objs.size:=by simpa using hb
  subst e
  exact I.fpOk (Nat.le_refl _) (I.hok.fresh (Nat.le_refl _))
end
def Itv (K:PySem.W.Frag) (a:Addr) (n:Nat):It :=
  ⟨fun i H=>i < n∧∃ (xs:List V) (x:V),SqL K H a xs∧xs[n - 1 - i]?=some x,fun i H x H'=>H'=H∧∀ xs,SqL K H a xs→xs[n - 1 - i]?=some x,fun i _=>n≤i⟩
theorem turn_rev {P:Program} {w:World} {K:PySem.W.Frag} {tg:Expr} (a it:Addr) (n:Nat):Turn P w K tg (Itv K a n) [it] it (fun i h=>i≤n∧h.IsRevIter it a ((n:Int) - 1 - (i:Nat))) where
  mem:=by simp
  obj:=fun i h st b hb=>by
    have e:b=it:=by simpa using hb
    subst e
    obtain ⟨_,o,e,c,d⟩:=st
    exact ⟨o,e,fun v z=>by rw [d] at z; cases z⟩
  keep:=fun i h h' st k=>⟨st.1,st.2.at fun o e=>k it (by simp) o e⟩
  item:=by
    intro X hP hw hK hc i pins s σ H E I hf st hg
    subst hP hw hK
    obtain ⟨hin,xs,x,hq,hx⟩:=hg
    obtain ⟨its,rv,p,hz⟩:=I.list hq
    obtain ⟨u,hu,ru⟩:=rv.get hx
    obtain ⟨f0,f1,f2,f3,f4,f5⟩:=hf it (by simp)
    obtain ⟨_,hit⟩:=st
    have e1:(n:Int) - 1 - ((i:Nat):Int)=((n - 1 - i:Nat):Int):=by omega
    rw [e1] at hit
    refine wpAny_pyNext_rev_item hit p.isList (x:=u) (by simpa using hu) fun h' st' sb=>?_
    have e2:((n - 1 - i:Nat):Int) - 1=(n:Int) - 1 - ((i + 1:Nat):Int):=by omega
    rw [e2] at st'
    have I1:Inv X pins σ H { s with heap:=h' }:=I.turned (t':=s.toks) (fun b o hb e=>(sb.2 b hb).trans e) f0 f1 f3 f4 f5
    obtain ⟨o,e,c,d⟩:=id st'
    exact ⟨u,rfl,go_of (s:={ s with heap:=h' }) e c d (by decide) ⟨x,H,I1,ru,⟨rfl,fun ys hy=>by rw [I.list_inj hy hq]; exact hx⟩,⟨hin,st'⟩,fun b hb=>(hf b hb).1⟩⟩
  done:=by
    intro X hP hw hK hc i pins s σ H E I hf st hg
    subst hP hw hK
    obtain ⟨f0,f1,f2,f3,f4,f5⟩:=hf it (by simp)
    obtain ⟨hin,hit⟩:=st
    have hge:n≤i:=hg
    have e1:(n:Int) - 1 - ((i:Nat):Int)=-1:=by omega
    rw [e1] at hit
    exact wpAny_pyNext_rev_end (I.ok.hd hc) hit fun h' eb=>⟨rfl,I.turned (t':=s.toks) (fun b o hb e=>eb b o hb e) f0 f1 f3 f4 f5⟩
  self:=fun A i s Q E st h=>wpAny_pyIter_revIter st.2 h
def iRev (K:PySem.W.Frag) (ta:TA):TI:=fun σ H R=>ta σ H fun vs H1=>∃ (a:Addr) (xs:List V),vs=[.ref a]∧SqL K H1 a xs∧R (Itv K a xs.length) H1
section
variable {X:Cx} {tg:Expr}
theorem pi_reversed {e:Expr} {ta:TA} {p pos:Pos} (hg:Gl X "reversed") (hm:X.mg "reversed" = none) (ha:PA X [e] ta) (hs:starEach [e] X.env=[(false,eval e X.env)]:=by rfl):PI X tg (.Call (.Name "reversed" p) [e] [] pos) (iRev X.K ta):=by
  intro pins s σ H R I h
  refine Call_ (ld_blt I hg hm boot_reversed5 (PyProof.Rows.callWith_type1 (thn (ha pos pins s σ H _ I h) fun us s1 ⟨vs,H1,I1,r1,q1⟩=>?_) hs rfl))
  obtain ⟨a,xs,e,hq,q⟩:=q1
  subst e
  cases r1 with
  | cons r rr =>
    cases rr
    cases r
    obtain ⟨its,rv,p',hz⟩:=I1.list hq
    have hl:=rv.length
    have e1:((its.toArray.size:Nat):Int) - 1=(xs.length:Int) - 1 - ((0:Nat):Int):=by simp only [List.size_toArray]; omega
    refine call_reversed_list p'.isList (wpAny_pyIter_revIter (l:=a) (i:=((its.toArray.size:Nat):Int) - 1) ⟨_,Heap.get?_push_size _ rfl,rfl,rfl⟩ ?_)
    refine pi_one (tk:=s1.toks) I1 _ (turn_rev a _ xs.length) ⟨Nat.zero_le _,?_⟩ q
    rw [← e1]
    exact ⟨_,Heap.get?_push_size _ rfl,rfl,rfl⟩
end
section
variable {prog:Program} {w:World} {A:Around} {E:Value→Shared→Prop} {s:Shared}
theorem iter_keys {d:Addr} {o:Obj} {es:Array DictEntry} {ep:Nat} {Q:Value→Shared→Prop} (hd:(d == sysModules)=false) (ho:s.heap.get? d=some o) (hc:o.ExactDict) (hdat:o.data=.dict es ep)
    (hQ:Q (.ref s.heap.objs.size) { s with heap:=s.heap.push { cls:=.type "dict_keyiterator",data:=.fields #[.ref d,.int 0 0,.int es.size 0,.int ep 0] } }) :
    wpAny (model prog w) A (pyIter (.ref d)) Q E s:=by
  have hT:s.TypeIs (.ref d) "dict":=⟨o,ho,hc.1⟩
  refine wpAny_pyIter_slot hT F.slot_dict_iter (wpAny_call_entry F.slot_dict_iter hT F.entry_dict_iter ?_ (F.args_dict_iter_1 _))
  unfold Builtin.«dict.__iter__»
  refine wpAny_bind ?_
  unfold Builtin.Dict.dictSlotNone
  refine wpAny_bind (wpAny_notOrdered_dict hT ?_)
  show wpAny _ _ (pure (Value.ref d)) _ _ s
  refine wpAny_pure ?_
  show wpAny _ _ (Builtin.Dict.showsAll d >>= _) _ _ s
  unfold Builtin.Dict.showsAll
  rw [if_neg (by rw [hd]; exact Bool.false_ne_true)]
  refine wpAny_bind (wpAny_pure ?_)
  refine wpAny_bind (wpAny_dictEntries ho hdat ?_)
  refine wpAny_bind (wpAny_dictEpoch ho hdat ?_)
  refine wpAny_bind (wpAny_newObj_type (wpAny_pure ⟨_,rfl,"dict_keyiterator",_,⟨_,Heap.get?_push_size _ rfl,rfl⟩,F.slot_dict_keyiterator_next.lookup,?_⟩))
  simpa [rawInt] using hQ
theorem next_key_item {it d:Addr} {i n ep:Nat} {od:Obj} {es:Array DictEntry} {en:DictEntry} {Q:Option Value→Shared→Prop} (hit:s.heap.IsKeyIter it d i n ep) (hod:s.heap.get? d=some od) (hdd:od.data=.dict es ep)
    (hsz:es.size=n) (hx:es[i]?=some en) (hQ:∀ h',h'.IsKeyIter it d (i + 1) n ep→Heap.SameBut it s.heap h'→Q (some en.key) { s with heap:=h' }):wpAny (model prog w) A (pyNext (.ref it)) Q E s:=by
  obtain ⟨o,ho,hc,hd⟩:=id hit
  unfold pyNext
  refine wpAny_bind (wpAny_attempt (wpAny_callSpecial?_slot (name:=Str.ofString "__next__") hit.typeIs F.slot_dict_keyiterator_next
    (wpAny_call_entry F.slot_dict_keyiterator_next hit.typeIs F.entry_dict_keyiterator_next ?_ (F.args_dict_keyiterator_next_1 _))))
  refine wpAny_bind (wpAny_pure ?_)
  refine wpAny_bind ?_
  refine wpAny_bind ?_
  first | refine wpAny_bind (wpAny_typeNameOfWhole_keyiter hit.typeIs (wpAny_pure ?_)) | refine wpAny_bind (wpAny_typeNameOf_keyiter hit.typeIs (wpAny_pure ?_))
  refine wpAny_bind (wpAny_fieldsOf ho hd ?_)
  have hown:Builtin.Dict_items.ownsTuple "dict_keyiterator" = false:=by decide
  simp only [hown,Bool.false_eq_true,if_false]
  show wpAny _ _ (if (Value.ref d == Value.none)=true then _ else _) _ _ s
  rw [if_neg (show ¬ ((Value.ref d == Value.none)=true) from Bool.false_ne_true)]
  refine wpAny_bind (wpAny_pure ?_)
  refine wpAny_bind (wpAny_dictEntries hod hdd ?_)
  rw [if_neg (by rw [hsz]; simp)]
  refine wpAny_bind (wpAny_pure ?_)
  refine wpAny_bind (wpAny_dictEpoch hod hdd ?_)
  rw [if_neg (by simp)]
  refine wpAny_pure ?_
  obtain ⟨hlt',hen⟩:=Array.getElem?_eq_some_iff.mp hx
  simp only [show ¬ ((i:Int) < 0) from by omega,if_false,Int.toNat_natCast,Array.getElem?_eq_getElem hlt']
  refine wpAny_bind ?_
  first | refine wpAny_bind (wpAny_typeNameOfWhole_keyiter hit.typeIs (wpAny_pure ?_)) | refine wpAny_bind (wpAny_typeNameOf_keyiter hit.typeIs (wpAny_pure ?_))
  refine wpAny_bind (wpAny_isOneOf_keyiter hit.typeIs ?_)
  show wpAny _ _ (setField (.ref it) 1 (rawInt ((i:Int) + 1)) >>= _) _ _ s
  refine wpAny_bind (wpAny_setField ho hd (by simp) ?_)
  have hit':(s.heap.update it (Obj.mapFields (·.setIfInBounds 1 (rawInt ((i:Int) + 1))))).IsKeyIter it d (i + 1) n ep :=
    ⟨_,Heap.get?_update_self _ ho (Obj.isFreed_of_fields (Obj.data_mapFields hd _)),(Obj.cls_mapFields ..).trans hc,by rw [Obj.data_mapFields hd]; simp [rawInt]⟩
  refine wpAny_bind (wpAny_holding ?_)
  refine wpAny_bind (wpAny_isOneOf_keyiter (s:={ s with heap:=s.heap.update it (Obj.mapFields (·.setIfInBounds 1 (rawInt ((i:Int) + 1)))) }) hit'.typeIs ?_)
  show wpAny _ _ (pure es[i].key) _ _ _
  rw [hen]
  exact wpAny_pure (wpAny_pure ⟨_,rfl,wpAny_pure (hQ _ hit' (Heap.SameBut.update ..))⟩)
theorem next_key_end {it d:Addr} {i n ep:Nat} {od:Obj} {es:Array DictEntry} {Q:Option Value→Shared→Prop} (hh:A.handled=none) (hit:s.heap.IsKeyIter it d i n ep) (hod:s.heap.get? d=some od) (hdd:od.data=.dict es ep)
    (hsz:es.size=n) (hge:n≤i) (hQ:∀ h',Heap.ExtBut it s.heap h'→Q none { s with heap:=h' }):wpAny (model prog w) A (pyNext (.ref it)) Q E s:=by
  obtain ⟨o,ho,hc,hd⟩:=id hit
  unfold pyNext
  refine wpAny_bind (wpAny_attempt (wpAny_callSpecial?_slot (name:=Str.ofString "__next__") hit.typeIs F.slot_dict_keyiterator_next
    (wpAny_call_entry F.slot_dict_keyiterator_next hit.typeIs F.entry_dict_keyiterator_next ?_ (F.args_dict_keyiterator_next_1 _))))
  refine wpAny_bind (wpAny_pure ?_)
  refine wpAny_bind ?_
  refine wpAny_bind ?_
  first | refine wpAny_bind (wpAny_typeNameOfWhole_keyiter hit.typeIs (wpAny_pure ?_)) | refine wpAny_bind (wpAny_typeNameOf_keyiter hit.typeIs (wpAny_pure ?_))
  refine wpAny_bind (wpAny_fieldsOf ho hd ?_)
  have hown:Builtin.Dict_items.ownsTuple "dict_keyiterator" = false:=by decide
  simp only [hown,Bool.false_eq_true,if_false]
  show wpAny _ _ (if (Value.ref d == Value.none)=true then _ else _) _ _ s
  rw [if_neg (show ¬ ((Value.ref d == Value.none)=true) from Bool.false_ne_true)]
  refine wpAny_bind (wpAny_pure ?_)
  refine wpAny_bind (wpAny_dictEntries hod hdd ?_)
  rw [if_neg (by rw [hsz]; simp)]
  refine wpAny_bind (wpAny_pure ?_)
  refine wpAny_bind (wpAny_dictEpoch hod hdd ?_)
  rw [if_neg (by simp)]
  refine wpAny_pure ?_
  have hge':es.size≤i:=by rw [hsz]; exact hge
  simp only [show ¬ ((i:Int) < 0) from by omega,if_false,Int.toNat_natCast,Array.getElem?_eq_none hge']
  refine wpAny_bind ?_
  first | refine wpAny_bind (wpAny_typeNameOfWhole_keyiter hit.typeIs (wpAny_pure ?_)) | refine wpAny_bind (wpAny_typeNameOf_keyiter hit.typeIs (wpAny_pure ?_))
  show wpAny _ _ (setField (.ref it) 0 .none >>= _) _ _ s
  refine wpAny_bind (wpAny_setField ho hd (by simp) ?_)
  show wpAny _ _ (newExc (.type "StopIteration") [] >>= _) _ _ _
  refine wpAny_bind ?_
  simp only [newExc,newTuple]
  refine wpAny_bind (wpAny_newObj_type ?_ (by size_fits))
  refine wpAny_bind (m:=firstArgMember _ _) (wpAny_of_eq (a:=Value.none) (by first | rfl | (simp only [firstArgMember]; rfl)) ?_)
  refine wpAny_newObj_type ?_ (by size_fits)
  simp only [raiseNew]
  refine wpAny_bind (wpAny_handled ?_)
  rw [show A.in1.handled=none from hh]
  refine wpAny_bind (wpAny_pure (wpAny_throw ?_))
  refine wpAny_bind (wpAny_isInstance (T:="StopIteration") (b:=true) ⟨_,Heap.get?_push_size _ rfl,rfl⟩ isSubtype_stop ?_)
  exact wpAny_pure (hQ _ (((Heap.SameBut.update ..).extBut.push _).push _))
end
theorem kv_get {κ:Type} {kvs:List (κ × V)} {vs:List (κ × Value)} (h:KV kvs vs):∀ {i:Nat} {k:κ} {v:V},kvs[i]?=some (k,v)→∃ u,vs[i]?=some (k,u)∧RelV v u:=by
  unfold KV at h
  induction h with
  | nil=>intro i k v e; simp at e
  | @cons a b l₁ l₂ r t ih =>
    intro i k v e
    cases i with
    | zero =>
      simp only [List.getElem?_cons_zero,Option.some.injEq] at e
      subst e
      refine ⟨b.2,?_,r.2⟩
      simp only [List.getElem?_cons_zero]
      exact congrArg some (Prod.ext r.1.symm rfl)
    | succ j =>
      simp only [List.getElem?_cons_succ] at e ⊢
      exact ih e
theorem paired_get {α β:Type} {G:α→β→Prop} {l₁:List α} {l₂:List β} (h:Paired G l₁ l₂):∀ {i:Nat} {a:α},l₁[i]?=some a→∃ b,l₂[i]?=some b∧G a b:=by
  induction h with
  | nil=>intro i a e; simp at e
  | @cons a b l₁ l₂ r t ih =>
    intro i a' e
    cases i with
    | zero =>
      simp only [List.getElem?_cons_zero,Option.some.injEq] at e
      subst e
      exact ⟨b,rfl,r⟩
    | succ j =>
      simp only [List.getElem?_cons_succ] at e ⊢
      exact ih e
theorem relV_key {k:Key} {u:Value} (h:keyIs k u=true):RelV (kV k) u:=by
  rcases keyIs_shape h with ⟨i,t,rfl,rfl⟩ | ⟨x,t,rfl,rfl⟩
  · exact ⟨t,rfl⟩
  · exact ⟨t,rfl⟩
section
variable {X:Cx} {pins:List (Addr × Obj)} {σ:St} {H:Hp} {s:Shared} {d:Addr} {o:Obj}
theorem Inv.frzK {kvs:List (Key × V)} (I:Inv X pins σ H s) (h:H d=some (.frz o (.dK kvs))) :
    (d == sysModules)=false∧s.heap.get? d=some o∧o.ExactDict∧∃ (es:Array DictEntry) (ep:Nat) (vs:List (Key × Value)),o.data=.dict es ep∧es.size=kvs.length∧KV kvs vs∧s.heap.DictAt (mixKind X.prog X.w) d vs ep:=by
  obtain ⟨hd,z,hs,vs,kv,o',es,ep,ho,hx,hdt,r⟩:=I.hok d _ h
  rw [hd] at ho
  cases ho
  refine ⟨hs,hd,hx,es,ep,vs,hdt,?_,kv,o,es,hd,hx,hdt,r⟩
  have l1:=r.2.1.length
  have l2:kvs.length=vs.length:=Paired.length kv
  rw [Array.length_toList] at l1
  omega
theorem Inv.frzT {kvs:List (List Key × V)} (I:Inv X pins σ H s) (h:H d=some (.frz o (.dT kvs))) :
    (d == sysModules)=false∧s.heap.get? d=some o∧o.ExactDict∧∃ (es:Array DictEntry) (ep:Nat),o.data=.dict es ep∧es.size=kvs.length ∧
      ∀ (i:Nat) (k:List Key) (v:V),kvs[i]?=some (k,v)→∃ (en:DictEntry) (q:Addr),es[i]?=some en∧en.key=.ref q∧H q=some (.tup (k.map kV)):=by
  obtain ⟨hd,z,hs,xs,pr,o',es,ep,ho,hx,hdt,he,_⟩:=I.hok d _ h
  rw [hd] at ho
  cases ho
  refine ⟨hs,hd,hx,es,ep,hdt,?_,fun i k v e=>?_⟩
  · have l1:es.size=xs.length:=size_of_entries he
    have l2:kvs.length=xs.length:=Paired.length pr
    omega
  · obtain ⟨b,hb,e1,e2,_⟩:=paired_get pr e
    have q:=entry_at he i
    rw [hb] at q
    exact ⟨_,b.2.1,q,rfl,e2⟩
end
def Itk (d:Addr) (o:Obj) (kvs:List (Key × V)):It :=
  ⟨fun i H=>H d=some (.frz o (.dK kvs))∧i < kvs.length,fun i H x H'=>H'=H∧∃ k v,kvs[i]?=some (k,v)∧x=kV k,fun i H=>H d=some (.frz o (.dK kvs))∧kvs.length≤i⟩
def Itkt (d:Addr) (o:Obj) (kvs:List (List Key × V)):It :=
  ⟨fun i H=>H d=some (.frz o (.dT kvs))∧i < kvs.length,fun i H x H'=>H'=H∧∃ (k:List Key) (v:V) (q:Addr),kvs[i]?=some (k,v)∧x=.ref q∧H q=some (.tup (k.map kV)),fun i H=>H d=some (.frz o (.dT kvs))∧kvs.length≤i⟩
theorem dict_ep {o:Obj} {es es':Array DictEntry} {ep ep':Nat} (h:o.data=.dict es ep) (h':o.data=.dict es' ep'):es'=es∧ep'=ep:=by
  rw [h] at h'
  cases h'
  exact ⟨rfl,rfl⟩
section
variable {P:Program} {w:World} {K:PySem.W.Frag} {tg:Expr} {d:Addr} {o:Obj} {es:Array DictEntry} {ep:Nat}
theorem turn_keys {kvs:List (Key × V)} (it:Addr) (hod:o.data=.dict es ep):Turn P w K tg (Itk d o kvs) [it] it (fun i h=>h.IsKeyIter it d i kvs.length ep) where
  mem:=by simp
  obj:=fun i h st b hb=>by
    have e:b=it:=by simpa using hb
    subst e
    obtain ⟨oi,e,c,dd⟩:=st
    exact ⟨oi,e,fun v z=>by rw [dd] at z; cases z⟩
  keep:=fun i h h' st k=>st.at fun oi e=>k it (by simp) oi e
  item:=by
    intro X hP hw hK hc i pins s σ H E I hf st hg
    subst hP hw hK
    obtain ⟨hd,hi⟩:=hg
    obtain ⟨f0,f1,f2,f3,f4,f5⟩:=hf it (by simp)
    obtain ⟨hs,hgd,hx,es',ep',vs,hdt,hsz,kv,hm⟩:=I.frzK hd
    obtain ⟨rfl,rfl⟩:=dict_ep hod hdt
    obtain ⟨⟨k,v⟩,hkv⟩:∃ p,kvs[i]?=some p:=⟨kvs[i],List.getElem?_eq_getElem hi⟩
    obtain ⟨u,hu,ru⟩:=kv_get kv hkv
    have hl:kvs.length=vs.length:=Paired.length kv
    rw [hl] at st
    refine wpAny_pyNext_dict_item st hm hu fun key h' hkey st' sb=>?_
    have I1:Inv X pins σ H { s with heap:=h' }:=I.turned (t':=s.toks) (fun b ob hb e=>(sb.2 b hb).trans e) f0 f1 f3 f4 f5
    obtain ⟨oi,e,c,dd⟩:=id st'
    refine ⟨key,rfl,go_of (s:={ s with heap:=h' }) e c dd (by decide) ⟨kV k,H,I1,relV_key (show keyIs k key=true from hkey),⟨rfl,k,v,hkv,rfl⟩,?_,fun b hb=>(hf b hb).1⟩⟩
    show h'.IsKeyIter it d (i + 1) kvs.length _
    rw [hl]
    exact st'
  done:=by
    intro X hP hw hK hc i pins s σ H E I hf st hg
    subst hP hw hK
    obtain ⟨hd,hi⟩:=hg
    obtain ⟨f0,f1,f2,f3,f4,f5⟩:=hf it (by simp)
    obtain ⟨hs,hgd,hx,es',ep',vs,hdt,hsz,kv,hm⟩:=I.frzK hd
    obtain ⟨rfl,rfl⟩:=dict_ep hod hdt
    exact next_key_end (I.ok.hd hc) st hgd hdt hsz hi fun h' eb=>⟨rfl,I.turned (t':=s.toks) (fun b ob hb e=>eb b ob hb e) f0 f1 f3 f4 f5⟩
  self:=fun A i s Q E st h=>wpAny_pyIter_keyiter st h
theorem turn_keysT {kvs:List (List Key × V)} (it:Addr) (hod:o.data=.dict es ep):Turn P w K tg (Itkt d o kvs) [it] it (fun i h=>h.IsKeyIter it d i kvs.length ep) where
  mem:=by simp
  obj:=fun i h st b hb=>by
    have e:b=it:=by simpa using hb
    subst e
    obtain ⟨oi,e,c,dd⟩:=st
    exact ⟨oi,e,fun v z=>by rw [dd] at z; cases z⟩
  keep:=fun i h h' st k=>st.at fun oi e=>k it (by simp) oi e
  item:=by
    intro X hP hw hK hc i pins s σ H E I hf st hg
    subst hP hw hK
    obtain ⟨hd,hi⟩:=hg
    obtain ⟨f0,f1,f2,f3,f4,f5⟩:=hf it (by simp)
    obtain ⟨hs,hgd,hx,es',ep',hdt,hsz,ent⟩:=I.frzT hd
    obtain ⟨rfl,rfl⟩:=dict_ep hod hdt
    obtain ⟨⟨k,v⟩,hkv⟩:∃ p,kvs[i]?=some p:=⟨kvs[i],List.getElem?_eq_getElem hi⟩
    obtain ⟨en,q,hen,hkey,hq⟩:=ent i k v hkv
    refine next_key_item st hgd hdt hsz hen fun h' st' sb=>?_
    have I1:Inv X pins σ H { s with heap:=h' }:=I.turned (t':=s.toks) (fun b ob hb e=>(sb.2 b hb).trans e) f0 f1 f3 f4 f5
    obtain ⟨oi,e,c,dd⟩:=id st'
    exact ⟨en.key,rfl,go_of (s:={ s with heap:=h' }) e c dd (by decide) ⟨.ref q,H,I1,hkey,⟨rfl,k,v,q,hkv,rfl,hq⟩,st',fun b hb=>(hf b hb).1⟩⟩
  done:=by
    intro X hP hw hK hc i pins s σ H E I hf st hg
    subst hP hw hK
    obtain ⟨hd,hi⟩:=hg
    obtain ⟨f0,f1,f2,f3,f4,f5⟩:=hf it (by simp)
    obtain ⟨hs,hgd,hx,es',ep',hdt,hsz,ent⟩:=I.frzT hd
    obtain ⟨rfl,rfl⟩:=dict_ep hod hdt
    exact next_key_end (I.ok.hd hc) st hgd hdt hsz hi fun h' eb=>⟨rfl,I.turned (t':=s.toks) (fun b ob hb e=>eb b ob hb e) f0 f1 f3 f4 f5⟩
  self:=fun A i s Q E st h=>by
    refine wpAny_pyIter_slot st.typeIs F.slot_dict_keyiterator_iter (wpAny_call_entry F.slot_dict_keyiterator_iter st.typeIs F.entry_dict_keyiterator_iter ?_ (F.args_dict_keyiterator_iter_1 _))
    show wpAny _ _ (ret (.ref it)) _ _ s
    exact wpAny_pure ⟨_,rfl,"dict_keyiterator",_,st.typeIs,F.slot_dict_keyiterator_next.lookup,h⟩
end
def iKeys (td:TE):TI:=fun σ H R=>td σ H fun x H1=>∃ d o,x=.ref d∧((∃ kvs,H1 d=some (.frz o (.dK kvs))∧R (Itk d o kvs) H1)∨∃ kvs,H1 d=some (.frz o (.dT kvs))∧R (Itkt d o kvs) H1)
section
variable {X:Cx} {tg e:Expr} {td:TE} {apos cpos:Pos}
theorem pi_keys (he:PE X e td):PI X tg e (iKeys td):=by
  intro pins s σ H R I h
  refine thn (he pins s σ H _ I h) fun u s1 ⟨x,H1,I1,rx,d,o,ex,q⟩=>?_
  subst ex
  obtain rfl:u=Value.ref d:=rx
  rcases q with ⟨kvs,hd,q⟩ | ⟨kvs,hd,q⟩
  · obtain ⟨hs,hgd,hx,es,ep,vs,hdt,hsz,kv,hm⟩:=I1.frzK hd
    refine iter_keys hs hgd hx hdt (pi_one (tk:=s1.toks) I1 _ (turn_keys _ hdt) ⟨_,Heap.get?_push_size _ rfl,rfl,?_⟩ q)
    rw [hsz] <;> rfl
  · obtain ⟨hs,hgd,hx,es,ep,hdt,hsz,ent⟩:=I1.frzT hd
    refine iter_keys hs hgd hx hdt (pi_one (tk:=s1.toks) I1 _ (turn_keysT _ hdt) ⟨_,Heap.get?_push_size _ rfl,rfl,?_⟩ q)
    rw [hsz] <;> rfl
end
theorem boot_zip5:bootBuiltins "zip" = some (.type "zip"):=by decide +kernel
end L2
section
namespace Bits
open PySem PyProof.Rows
end Bits
end
section
namespace TL
open PySem PySem.Builtin PySem.Builtin.Str PySem.StrLaws
end TL
end
namespace L2
open PySem PySem.Spec PyProof.Rows
end L2
namespace L2
open PySem PySem.Spec PyProof.Rows
end L2
namespace Att
open PySem PySem.W PySem.Calls PyProof.Rows
end Att
namespace L2
open PySem PySem.Spec PyProof.Rows
end L2
namespace L2
open PySem PySem.Spec PyProof.Rows
end L2
namespace L2
open PySem PySem.Spec PyProof.Rows
def inClass (s:Stmt) (j:Nat):Stmt:=match s with
  | .ClassDef _ _ _ body _ _ _ _ _ _ _=>body.getD j (.Pass ⟨0,0,0,0⟩)
  | _=>.Pass ⟨0,0,0,0⟩
def defArgs (s:Stmt):Arguments:=match s with
  | .FunctionDef _ a _ _ _ _ _ _ _ _=>a
  | _=>{ posonlyargs:=[],args:=[],vararg:=none,kwonlyargs:=[],kw_defaults:=[],kwarg:=none,defaults:=[] }
def defBody (s:Stmt):List Stmt:=match s with
  | .FunctionDef _ _ b _ _ _ _ _ _ _=>b
  | _=>[]
def defScope (s:Stmt):Scope:=match s with
  | .FunctionDef _ _ _ _ _ _ sc _ _ _=>sc
  | _=>{ kind:=.function,names:=[],isGenerator:=false,isCoroutine:=false }
abbrev CX0:CXT:=fun _ _ _ _ _ _=>False
abbrev E0:XK:=fun _ _ _=>False
theorem pass0 {X:Cx}:Passes CX0 X E0:=fun _ _ _ _ _ _ _ h=>h.elim
structure Fun (K:PySem.W.Frag) (x qual:Str) (st:Stmt) (f:Addr) (fd:FuncData):Prop where
  ex:∃ (oc:Value) (od:Option Addr) (kV doc pm:Value) (an:Option Addr) (cdv ct:Value) (osl:Array (Option Value)),
    fd=PySem.W.fnOf x qual (defArgs st) (defBody st) (defScope st) .none kV doc pm an cdv ct∧K.lookup f=some ⟨oc,od,.func fd,osl⟩∧PySem.W.codeIn K cdv qual=true
  kp:PySem.W.keepIn K (.ref f)=true
section
variable {P:Program} {w:World} {K:PySem.W.Frag} {mg:Str→Option Value} {base:Heap}
theorem Fun.ok {x qual:Str} {st:Stmt} {f:Addr} {fd:FuncData} {N ps:List Str} {k:Nat} {sp:Sp} (F:Fun K x qual st f fd) (S:FnScope N ps (defScope st)) (len:∀ vs H Q E,sp vs H Q E→vs.length=ps.length)
    (hbody:∀ (cdv:Value) (A:Around) (outer:List Env) (s:Shared) (H:Hp) (vs:List V) (Q:VK) (E:XK),Room k (A.deeper (envOfC qual (defScope st) s.heap.objs.size f cdv))→sp vs H Q E →
      ∃ t,PSs (cxOf CX0 P w K mg base N qual (defScope st) f cdv A outer s H E).nox (defBody st) t∧t { nx:=fun _ H'=>Q .non H',rt:=Q } (start N vs) H):FnOk P w K mg base CX0 (k + 1) f fd ps sp:=by
  obtain ⟨oc,od,kV,doc,pm,an,cdv,ct,osl,rfl,lk,hcd⟩:=F.ex
  refine fn_of lk hcd S len fun A outer s H vs Q E hr hsp=>?_
  obtain ⟨t,h,q⟩:=hbody cdv A outer s H vs Q E hr hsp
  exact ⟨t,h.nox,q⟩
theorem Fun.binds {x qual:Str} {st:Stmt} {f:Addr} {fd:FuncData} {ps:List Str} (F:Fun K x qual st f fd)
    (h:∀ (kV doc pm:Value) (an:Option Addr) (cdv ct:Value) (us:List Value),us.length=ps.length→bindArgs (PySem.W.fnOf x qual (defArgs st) (defBody st) (defScope st) .none kV doc pm an cdv ct) ⟨us,[]⟩=pure (ps.zip us)):Binds K fd ps []:=by
  obtain ⟨oc,od,kV,doc,pm,an,cdv,ct,osl,rfl,lk,hcd⟩:=F.ex
  exact .all (h kV doc pm an cdv ct)
theorem fun_mk {x qual:Str} {st:Stmt} {f:Addr} {oc:Value} {od an:Option Addr} {osl:Array (Option Value)} {kV doc pm cdv ct:Value} (l:K.lookup f=some ⟨oc,od,.func (PySem.W.fnOf x qual (defArgs st) (defBody st) (defScope st) .none kV doc pm an cdv ct),osl⟩)
    (c:PySem.W.codeIn K cdv qual=true) (k:PySem.W.keepIn K (.ref f)=true):Fun K x qual st f (PySem.W.fnOf x qual (defArgs st) (defBody st) (defScope st) .none kV doc pm an cdv ct):=⟨⟨oc,od,kV,doc,pm,an,cdv,ct,osl,rfl,l,c⟩,k⟩
end
theorem hu_of {A:Around} {k:Nat} (hr:Room k A):A.units + 1 < cLine:=Nat.lt_of_le_of_lt (Nat.add_le_add_left (by decide:1≤64) _) hr.units
section
variable {X:Cx}
theorem pv (i:Nat) {x:Str} {pos:Pos} (hN:X.N[i]?=some x:=by rfl) (hv:Vis X.env.scope x:=by first | exact Or.inl rfl | exact Or.inr (Or.inl rfl) | exact Or.inr (Or.inr rfl)) (hd:(x == ("__debug__":Str))=false:=by decide)
    (hcd:(x == ("__classdict__":Str))=false:=by decide):PE X (.Name x pos) (tVar i):=pe_var hN hv hd hcd
theorem call_lenD:CallR X (.builtin "len") (fun xs H Q=>∃ a kvs,xs=[V.ref a]∧H a=some (.dK kvs)∧Q (.int kvs.length) H):=by
  intro pins s σ H xs us Q I r h
  obtain ⟨a,kvs,rfl,ha,q⟩:=h
  obtain ⟨u,rfl,ru⟩:=vals1 r
  cases ru
  exact d_len I (.inl ha) fun t s' I'=>⟨.int kvs.length,H,I',⟨t,rfl⟩,q⟩
end
theorem ite2 {c A B:Prop} [Decidable c] (h1:c→A) (h2:¬ c→B):if c then A else B:=by
  by_cases h:c
  · rw [if_pos h]
    exact h1 h
  · rw [if_neg h]
    exact h2 h
theorem nd_ix {α:Type} {l:List α} (hN:l.Nodup) {i j:Nat} {x:α} (a:l[i]?=some x) (b:l[j]?=some x):i=j:=by
  obtain ⟨h1,e1⟩:=List.getElem?_eq_some_iff.mp a
  obtain ⟨h2,e2⟩:=List.getElem?_eq_some_iff.mp b
  exact (List.getElem_inj hN).mp (e1.trans e2.symm)
end L2
set_option maxHeartbeats 4000000
namespace L2
open PySem PySem.Spec PyProof.Rows
section
variable {X:Cx} {pins:List (Addr × Obj)} {σ:St} {H:Hp} {s:Shared}
theorem pin_tail {a:Addr} {ob:Obj} (I:Inv X ((a,ob)::pins) σ H s):Inv X pins σ H s :=
  I.pins_of fun p hp=>I.pin p (List.mem_append_right _ (List.mem_cons_of_mem _ hp))
theorem Inv.adopt {a:Addr} {its its':List Value} {n:Nat} {f:Array Value→Array Value} {ys:List V} {t':Nat} (I:Inv X ((a,seqObj "list" its.toArray n)::pins) σ H s)
    (ha0:X.s_0.heap.objs.size≤a) (hap:∀ p ∈ X.pn ++ pins,p.1≠a) (hf:f its.toArray=its'.toArray) (hv:Vals ys its') (hz:ys.length≤sizeLine) :
    Inv X pins σ (upd H a (.lst ys)) { s with heap:=s.heap.update a (Obj.mapSeq f),toks:=t' }:=by
  obtain ⟨e,nH,nL,nf,nc⟩:=I.pin (a,seqObj "list" its.toArray n) (List.mem_append_right _ List.mem_cons_self)
  have e:s.heap.get? a=some (seqObj "list" its.toArray n):=e
  have nH:H a=none:=nH
  have nL:a≠X.env.locals:=nL
  have J:=pin_tail I
  have q:=PySem.IsL.update e f
  rw [hf] at q
  have oth:∀ b o,b≠a→s.heap.get? b=some o→(s.heap.update a (Obj.mapSeq f)).get? b=some o:=fun b o hb hu=>(Heap.get?_update_other s.heap (Obj.mapSeq f) (Ne.symm hb)).trans hu
  have ne:∀ b u,H b=some u→b≠a:=fun b u z w=>by rw [w,nH] at z; cases z
  refine J.step (g':=s.gens) (d':=s.drawn) (ch:=[a]) (fun b hb=>?_) (fun b o _ _ hc e _=>oth b o (fun z=>hc (by simp [z])) e) (fun b o _ _ hc e _=>⟨o.slots,oth b o (fun z=>hc (by simp [z])) e⟩)
    (fun b o hc _ n=>by rw [upd_ne (fun z=>hc (by simp [z]))]; exact n) (fun b o hc e=>⟨o,oth b o (fun z=>hc (by simp [z])) e⟩)
    (fun b xs z=>by rw [upd_ne (ne _ _ z)]; exact z) (fun b o u z=>by rw [upd_ne (ne _ _ z)]; exact z) (fun b ps z=>⟨#[],by rw [upd_ne (ne _ _ z),z]; simp⟩) (fun m hm=>?_) (fun b u z=>?_) J.bare
  · have eb:b=a:=by simpa using hb
    subst eb
    refine ⟨.inr ha0,nL,fun x c hc z=>?_,hap⟩
    obtain ⟨v,o,ho,hd⟩:=I.cell x c hc
    rw [z,e] at ho
    cases ho
    cases hd
  · obtain ⟨o,es,ep,ho,r⟩:=hm
    exact ⟨o,es,ep,oth _ o (Ne.symm nL) ho,r⟩
  · by_cases hb:b=a
    · subst hb
      rw [upd_same] at z
      cases z
      exact ⟨hz,its',_,hv,q⟩
    · rw [upd_ne hb] at z
      refine (J.hok b u z).stay (fun c v hc r=>oth c v ?_ r) (fun c r=>by rw [upd_ne (ne _ _ r)]; exact r) fun c xs r=>by rw [upd_ne (ne _ _ r)]; exact r
      rcases hc with w | w
      · rw [w]; exact hb
      · exact ne _ _ w
end
def KeyOut (kz:List Int) (as out:List Addr):Prop :=
  ∃ qs:List (Int × Addr),qs.Perm (kz.zip as)∧out=qs.map Prod.snd∧qs.Pairwise (fun p q=>p.1≤q.1)∧∀ c,qs.filter (fun p=>p.1 == c)=(kz.zip as).filter (fun p=>p.1 == c)
theorem vals_refs:∀ {as:List Addr} {us:List Value},Vals (as.map V.ref) us→us=as.map Value.ref
  | [],_,.nil=>rfl
  | _::_,_,.cons r t=>by
    have r':_=Value.ref _:=r
    rw [r',vals_refs t]
    rfl
theorem refs_vals:∀ (as:List Addr),Vals (as.map V.ref) (as.map Value.ref)
  | []=>.nil
  | _::as=>.cons rfl (refs_vals as)
def unref:Value→Addr
  | .ref a=>a
  | _=>0
theorem keyOut_of {kz:List Int} {as:List Addr} {out:List Value} (hl:kz.length=as.length) (h:KskOutSt false kz (as.map Value.ref) out):∃ o:List Addr,out=o.map Value.ref∧KeyOut kz as o:=by
  obtain ⟨ps,hp,ho,hs,hf⟩:=h
  have z:kz.zip (as.map Value.ref)=(kz.zip as).map (fun p=>(p.1,Value.ref p.2)):=by
    rw [List.zip_map_right]
    rfl
  have back:∀ p ∈ ps,p=((fun q:Int × Addr=>(q.1,Value.ref q.2)) ((fun p:Int × Value=>(p.1,unref p.2)) p)):=fun p hp'=>by
    have m:=hp.mem_iff.mp hp'
    rw [z] at m
    obtain ⟨q,_,rfl⟩:=List.mem_map.mp m
    rfl
  have eps:ps=(ps.map (fun p:Int × Value=>(p.1,unref p.2))).map (fun q:Int × Addr=>(q.1,Value.ref q.2)):=by
    rw [List.map_map]
    conv=>lhs; rw [← List.map_id ps]
    exact List.map_congr_left fun p hp'=>back p hp'
  have un:∀ l:List (Int × Addr),(l.map (fun q:Int × Addr=>(q.1,Value.ref q.2))).map (fun p:Int × Value=>(p.1,unref p.2))=l:=fun l=>by
    rw [List.map_map]
    conv=>rhs; rw [← List.map_id l]
    exact List.map_congr_left fun p _=>rfl
  refine ⟨(ps.map (fun p:Int × Value=>(p.1,unref p.2))).map Prod.snd,?_,ps.map (fun p:Int × Value=>(p.1,unref p.2)),?_,rfl,?_,fun c=>?_⟩
  · rw [ho]
    conv=>lhs; rw [eps]
    simp only [List.map_map]
    rfl
  · have q:=hp.map (fun p:Int × Value=>(p.1,unref p.2))
    rw [z,un] at q
    exact q
  · rw [List.pairwise_map]
    refine hs.imp fun {p q} h=>?_
    have h:(if false then q.1≤p.1 else p.1≤q.1):=h
    rw [if_neg Bool.false_ne_true] at h
    exact h
  · have q:=congrArg (List.map (fun p:Int × Value=>(p.1,unref p.2))) (hf c)
    rw [z] at q
    rw [List.filter_map] at q
    have q2:=q
    rw [show (List.map (fun p:Int × Value=>(p.1,unref p.2)) (List.map (fun p:Int × Addr=>(p.1,Value.ref p.2)) (List.filter ((fun p:Int × Value=>p.1 == c) ∘ fun p:Int × Addr=>(p.1,Value.ref p.2)) (kz.zip as))))=_ from un _] at q2
    rw [List.filter_map]
    exact q2
section
variable {X:Cx} {pins:List (Addr × Obj)} {σ:St} {H:Hp} {s:Shared} {A:Around} {E:Value→Shared→Prop} {P:PySem.Fin→Shared→Prop} {a kS:Addr} {e1:Nat} {keys:Array Value} {kz:List Int} {as:List Addr} {kv:List V}
theorem srt_tail {st:SortSt} (I:Inv X ((a,seqObj "list" #[] e1)::pins) σ H s) (ha0:X.s_0.heap.objs.size≤a) (hap:∀ p ∈ X.pn ++ pins,p.1≠a) (hkS:H kS=some (.lst kv))
    (hk:IntsAre keys.toList kz) (hlen:kz.length=as.length) (hZ:as.length≤sizeLine) (hp:(arrOf st).Perm (keys.zip (as.map Value.ref).toArray)) (hs:SortedTo (arrOf st) (arrOf st).size) (hfl:failedOf st=none)
    (hst:Stable intKind (arrOf st) (keys.zip (as.map Value.ref).toArray))
    (h:∀ s' out,KeyOut kz as out→out.length=as.length→Inv X pins σ (upd (upd H kS (.lst [])) a (.lst (out.map V.ref))) s'→P (.done (.ret .none)) s') :
    wpAny (model X.prog X.w) A (ksk_tail a false e1 (.ref kS) st) P E s:=by
  obtain ⟨z,kits,n,r,hl,ek⟩:=I.lstM hkS
  have hka:kS≠a:=fun q=>by
    have:=(I.pin (a,seqObj "list" #[] e1) (List.mem_append_right _ List.mem_cons_self)).2.1
    rw [q,this] at hkS
    cases hkS
  have I1:=I.lset (f:=fun _=>(#[]:Array Value)) (its':=[]) (ys:=[]) (t':=s.toks) hkS ek rfl .nil (Nat.zero_le _)
  obtain ⟨ea,-,-,-,-⟩:=I1.pin (a,seqObj "list" #[] e1) (List.mem_append_right _ List.mem_cons_self)
  obtain ⟨o,ho,hout⟩:=keyOut_of hlen (ksk_outSt (b:=false) hk hp hs hst)
  have ho':((arrOf st).map (·.2))=(o.map Value.ref).toArray:=by
    have q:((if false then ((arrOf st).map (·.2)).reverse else (arrOf st).map (·.2)):Array Value).toList=o.map Value.ref:=ho
    rw [if_neg Bool.false_ne_true] at q
    rw [← q]
  have hol:o.length=as.length:=by
    obtain ⟨qs,q1,q2,_⟩:=hout
    rw [q2,List.length_map,q1.length_eq,List.length_zip]
    omega
  have fin:=fun t'=>I1.adopt (a:=a) (its:=[]) (its':=o.map Value.ref) (f:=fun _=>(arrOf st).map (·.2)) (ys:=o.map V.ref) (t':=t') ha0 hap ho' (refs_vals o) (by rw [List.length_map,hol]; exact hZ)
  unfold ksk_tail
  try dsimp only
  refine wpAny_bind (listUpdate_at ek rfl ?_ (by rw [List.size_toArray,← hl]; exact z) (Nat.zero_le _))
  refine wpAny_bind (wpAny_letGo ?_)
  refine wpAny_bind (seqEpoch_at ea rfl ?_)
  refine wpAny_bind (listUpdate_at ea rfl ?_ (Nat.zero_le _) ?_)
  · rw [hfl]
    simp only [bne_self_eq_false,Bool.false_eq_true,if_false]
    exact wpAny_pure (h _ o hout hol (fin _))
  · simp only [Bool.false_eq_true,if_false]
    rw [ho',List.size_toArray,List.length_map,hol]
    exact Nat.le_succ_of_le hZ
theorem srt_end (I:Inv X ((a,seqObj "list" #[] e1)::pins) σ H s) (ha0:X.s_0.heap.objs.size≤a) (hap:∀ p ∈ X.pn ++ pins,p.1≠a) (hkS:H kS=some (.lst kv))
    (hk:IntsAre keys.toList kz) (hlen:kz.length=as.length) (hZ:as.length≤sizeLine)
    (h:∀ s' out,KeyOut kz as out→out.length=as.length→Inv X pins σ (upd (upd H kS (.lst [])) a (.lst (out.map V.ref))) s'→P (.done (.ret .none)) s') :
    wpAny (model X.prog X.w) A (ksk_end a false (as.map Value.ref).toArray e1 (.ref kS) keys) P E s:=by
  have hZ2:=hZ
  rw [sizeLine_eq] at hZ2
  have hsz:keys.size=(as.map Value.ref).length:=by
    have h1:=hk.length
    rw [Array.length_toList] at h1
    rw [List.length_map]
    omega
  have hzs:(keys.zip (as.map Value.ref).toArray).size=as.length:=by rw [Array.size_zip,hsz,List.size_toArray,Nat.min_self,List.length_map]
  unfold ksk_end
  try dsimp only
  rw [if_neg Bool.false_ne_true]
  by_cases h2:(as.map Value.ref).toArray.size < 2
  · rw [if_pos h2,if_pos h2]
    refine wpAny_bind (wpAny_pure ?_)
    rw [StateT.run_pure]
    refine wpAny_bind (wpAny_pure ?_)
    try dsimp only
    refine srt_tail (st:=SortSt.mk' general' (keys.zip (as.map Value.ref).toArray) #[] 7 none) I ha0 hap hkS hk hlen hZ (Array.Perm.refl _) ?_ rfl (Stable.refl _) h
    intro i j hij hj
    have hj2:j < (keys.zip (as.map Value.ref).toArray).size:=hj
    rw [hzs] at hj2
    rw [List.size_toArray,List.length_map] at h2
    have:i=j:=by omega
    subst this
    exact Int.le_refl _
  · rw [if_neg h2,if_neg h2]
    rw [List.size_toArray,List.length_map] at h2
    rw [ksk_kind hk (by rw [hsz,List.length_map]; omega)]
    refine wpAny_bind (wpAny_pure ?_)
    refine wpAny_bind (wpAny_mono (wpS_sortRunsSt (κ:=intKind) (a₀:=keys.zip (as.map Value.ref).toArray)
      (st:=SortSt.mk' oneType' (keys.zip (as.map Value.ref).toArray) #[] 7 none)
      (Q:=fun _ st'=>(arrOf st').Perm (keys.zip (as.map Value.ref).toArray)∧failedOf st'=none∧SortedTo (arrOf st') (arrOf st').size ∧
        Stable intKind (arrOf st') (keys.zip (as.map Value.ref).toArray))
      intKind_oneLt (ksk_keysOfInt (ksk_intKeys hk)) ⟨Array.Perm.refl _,rfl,rfl⟩ rfl (Stable.refl _) (by rw [hzs]; omega)
      fun st' a1 a2 a3 a4=>⟨a1,a2,by rw [a1.size_eq]; exact sortedTo_of_int a3,a4⟩) ?_ fun _ _ e=>e)
    rintro ⟨⟨⟩,st'⟩ s' ⟨rfl,hp,hf,hs,hst⟩
    try dsimp only
    exact srt_tail I ha0 hap hkS hk hlen hZ hp hs hf hst h
end
end L2
set_option maxHeartbeats 4000000
namespace L2
open PySem PySem.Spec PyProof.Rows
section
variable {X:Cx} {pins:List (Addr × Obj)} {σ:St} {H H0:Hp} {s:Shared} {A:Around} {E:Value→Shared→Prop} {P:PySem.Fin→Shared→Prop} {a kS:Addr} {e1:Nat} {kz:List Int} {as:List Addr}
theorem srt_rest {f:Value} (I:Inv X ((a,seqObj "list" #[] e1)::pins) σ (upd H0 kS (.lst [])) s) (ha0:X.s_0.heap.objs.size≤a) (hap:∀ p ∈ X.pn ++ pins,p.1≠a)
    (hlen:kz.length=as.length) (hZ:as.length≤sizeLine)
    (turn:∀ (p:Addr) (k:Int),p ∈ as→∀ (i:Nat),as[i]?=some p→kz[i]?=some k→∀ (s':Shared) (ys:List V),Inv X ((a,seqObj "list" #[] e1)::pins) σ (upd H0 kS (.lst ys)) s' →
      wpAny (model X.prog X.w) A (call f [.ref p]) (EP X ((a,seqObj "list" #[] e1)::pins) σ (fun v H''=>v=.int k∧H''=upd H0 kS (.lst ys))) (fun _ _=>False) s')
    (h:∀ s' out,KeyOut kz as out→out.length=as.length→Inv X pins σ (upd (upd H0 kS (.lst [])) a (.lst (out.map V.ref))) s'→P (.done (.ret .none)) s') :
    wpAny (model X.prog X.w) A (ksk_rest a f false (as.map Value.ref).toArray e1 (.ref kS)) P E s:=by
  unfold ksk_rest
  refine wpAny_bind (wpAny_rule ?_)
  rw [List.forIn_toArray]
  refine wpAny_bind (ksk_fold (fun i s'=>Inv X ((a,seqObj "list" #[] e1)::pins) σ (upd H0 kS (.lst ((kz.take i).map V.int))) s') (as.map Value.ref) 0 s (by simpa using I) ?step ?done)
  case step =>
    intro j x s' hx J
    simp only [Nat.zero_add] at J ⊢
    obtain ⟨p,hp,rfl⟩:∃ p,as[j]?=some p∧x=Value.ref p:=by
      rw [List.getElem?_map] at hx
      cases e:as[j]? with
      | none=>rw [e] at hx; cases hx
      | some p=>rw [e] at hx; exact ⟨p,rfl,(Option.some.inj hx).symm⟩
    have hj:j < as.length:=(List.getElem?_eq_some_iff.mp hp).1
    obtain ⟨k,hkj⟩:∃ k,kz[j]?=some k:=⟨_,List.getElem?_eq_getElem (by omega)⟩
    refine wpAny_bind (wpAny_attempt (wpAny_mono (turn p k (List.mem_of_getElem? hp) j hp hkj s' _ J) (fun v s'' he=>?_) fun _ _ hF=>hF.elim))
    obtain ⟨u,H2,J2,ru,rfl,rfl⟩:=he
    try dsimp only
    obtain ⟨z,kits,n,r,hl,ek⟩:=J2.lstM upd_same
    have hl2:kits.length=j:=by
      rw [← hl,List.length_map,List.length_take]
      omega
    have hZ2:=hZ
    rw [sizeLine_eq] at hZ2
    have ek2:kz.take (j + 1)=kz.take j ++ [k]:=by rw [List.take_add_one,hkj]; simp
    have J3:=fun t'=>J2.lset (f:=(·.push v)) (its':=kits ++ [v]) (ys:=(kz.take j).map V.int ++ [.int k]) (t':=t') upd_same ek (by simp) (r.append (.cons ru .nil)) (by
      rw [List.length_append,List.length_map,List.length_take,List.length_singleton,sizeLine_eq]
      omega)
    refine wpAny_bind (listUpdate_at ek rfl ?_ (by rw [List.size_toArray,sizeLine_eq]; omega) (by rw [Array.size_push,List.size_toArray,sizeLine_eq]; omega))
    refine wpAny_pure ⟨rfl,?_⟩
    have J4:=J3 s''.toks
    rw [upd_upd] at J4
    rw [ek2,List.map_append]
    exact J4
  case done =>
    intro s' J
    have e3:kz.take (0 + (as.map Value.ref).length)=kz:=List.take_of_length_le (by rw [List.length_map]; omega)
    rw [e3] at J
    obtain ⟨z,kits,n,r,hl,ek⟩:=J.lstM upd_same
    try dsimp only
    refine wpAny_bind (listItems_at ek rfl ?_)
    refine srt_end J ha0 hap upd_same (by rw [List.toList_toArray]; exact r.ints) hlen hZ fun s2 out h1 h2 h3=>?_
    rw [upd_upd] at h3
    exact h s2 out h1 h2 h3
theorem srt_tree {f:Value} {n:Nat} {l:Addr} {Q:Value→Shared→Prop} {kw:List (Str × Value)} (I:Inv X pins σ H s) (hl:s.heap.IsList l (as.map Value.ref).toArray) (hlen:kz.length=as.length) (hZ:as.length≤sizeLine)
    (ha1:argsOk "sorted" ⟨[.ref l],kw⟩) (ha2:∀ x,argsOk "list.sort" ⟨[.ref x],kw⟩) (ht:∀ x,Builtin.«list.sort» ⟨[.ref x],kw⟩=ksk_tree x f false)
    (turn:∀ (p:Addr) (k:Int),p ∈ as→∀ (i:Nat),as[i]?=some p→kz[i]?=some k→∀ (s':Shared) (pins':List (Addr × Obj)) (H':Hp),(∀ q ∈ pins,q ∈ pins')→(∀ b o,H b=some o→H' b=some o)→Inv X pins' σ H' s' →
      wpAny (model X.prog X.w) A.in1.in1 (call f [.ref p]) (EP X pins' σ (fun v H''=>v=.int k∧H''=H')) (fun _ _=>False) s')
    (h:∀ s' D H' out,KeyOut kz as out→out.length=as.length→(∀ b o,H b=some o→H' b=some o)→H D=none→H' D=some (.lst (out.map V.ref))→Inv X pins σ H' s'→Q (.ref D) s') :
    wpAny (model X.prog X.w) A (call (.builtin "sorted") [.ref l] kw) Q E s:=by
  have hZ2:=hZ
  rw [sizeLine_eq] at hZ2
  refine call_function_entry_kw kind_sorted plain_sorted entry_sorted ha1 ?_
  unfold Builtin.«sorted»
  refine wpAny_bind (m:=checkCount "sorted" 1 1 _) (wpAny_pure ?_)
  refine wpAny_bind (collect_list (vs:=as.map Value.ref) hl ?_ (by rw [List.length_map,sizeLine_eq]; omega))
  refine wpAny_bind (wpAny_newList ?_ (by rw [List.length_map,sizeLine_eq]; omega))
  have hsz:((s.heap.push (seqObj "list" #[] 0)).update s.heap.objs.size (Obj.mapSeq (· ++ (as.map Value.ref).toArray))).objs.size=s.heap.objs.size + 1:=by
    rw [Heap.size_update,size_push']
  show wpAny _ _ _ _ _ { s with heap:=((s.heap.push (seqObj "list" #[] 0)).update s.heap.objs.size (Obj.mapSeq (· ++ (as.map Value.ref).toArray))).push (seqObj "list" (as.map Value.ref).toArray 0) }
  rw [hsz]
  generalize eh1:((s.heap.push (seqObj "list" #[] 0)).update s.heap.objs.size (Obj.mapSeq (· ++ (as.map Value.ref).toArray))).push (seqObj "list" (as.map Value.ref).toArray 0)=h1
  have hoL:h1.get? (s.heap.objs.size + 1)=some (seqObj "list" (as.map Value.ref).toArray 0):=by
    rw [← eh1,← hsz]; exact Heap.get?_push_size _ rfl
  have keep:∀ b o,s.heap.get? b=some o→h1.get? b=some o:=fun b o q=>by
    have hlt:b < s.heap.objs.size:=Heap.lt_size q
    rw [← eh1,Heap.get?_push_ne _ _ _ (by rw [hsz]; exact Nat.ne_of_lt (Nat.lt_succ_of_lt hlt)),Heap.get?_update_ne _ _ _ _ (Nat.ne_of_lt hlt),Heap.get?_push_ne _ _ _ (Nat.ne_of_lt hlt)]
    exact q
  refine wpAny_bind (wpAny_holding (wpAny_call_entry_kw slot_list_sort ⟨_,hoL,rfl⟩ entry_list_sort ?body (ha2 _)))
  case body =>
    have ht':=ht (s.heap.objs.size + 1)
    show wpAny (model X.prog X.w) A.in1.in1 (Builtin.«list.sort» ⟨[.ref (s.heap.objs.size + 1)],kw⟩) _ _ _
    rw [ht']
    generalize ea:s.heap.objs.size + 1=a at hoL ⊢
    unfold ksk_tree
    obtain ⟨e1,ho1⟩:∃ e1,(h1.update a (Obj.mapSeq fun _=>(#[]:Array Value))).get? a=some (seqObj "list" #[] e1):=⟨_,get?_update_seq hoL fun _=>#[]⟩
    refine wpAny_bind (listItems_at hoL rfl ?_)
    refine wpAny_bind (listUpdate_at hoL rfl ?_ (by rw [List.size_toArray,List.length_map,sizeLine_eq]; omega) (Nat.zero_le _))
    refine wpAny_bind (seqEpoch_at ho1 rfl ?_)
    refine wpAny_bind (wpAny_newTuple ?_ (by show (as.map Value.ref).length≤_; rw [List.length_map,sizeLine_eq]; omega))
    refine wpAny_bind (wpAny_newList ?_ (Nat.zero_le _))
    refine wpAny_holding ?_
    have keep2:∀ b o,s.heap.get? b=some o→((h1.update a (Obj.mapSeq fun _=>(#[]:Array Value))).push (seqObj "tuple" (as.map Value.ref).toArray 0)).get? b=some o:=fun b o q=>by
      have hlt:b < s.heap.objs.size:=Heap.lt_size q
      refine Heap.get?_push_of_some _ ?_
      rw [Heap.get?_update_ne _ _ _ _ (Nat.ne_of_lt (by rw [← ea]; exact Nat.lt_succ_of_lt hlt))]
      exact keep b o q
    have J:=I.kept (h':=(h1.update a (Obj.mapSeq fun _=>(#[]:Array Value))).push (seqObj "tuple" (as.map Value.ref).toArray 0)) (t':=s.toks) keep2
    have ha:s.heap.objs.size≤a:=by rw [← ea]; exact Nat.le_succ _
    have J1:Inv X ((a,seqObj "list" #[] e1)::pins) σ H _:=J.pins_of (pins':=(a,seqObj "list" #[] e1)::pins) fun p hp=>by
      rcases List.mem_cons.mp hp with rfl | hp
      · refine ⟨Heap.get?_push_of_some _ ho1,I.hok.fresh ha,fun z=>?_,I.nofs ha,fun v z=>by cases z⟩
        have z:a=X.env.locals:=z
        rw [z] at ha
        exact absurd (Nat.lt_of_lt_of_le I.lt ha) (Nat.lt_irrefl _)
      · exact J.pin p (List.mem_append_right _ hp)
    have hk0:H ((h1.update a (Obj.mapSeq fun _=>(#[]:Array Value))).push (seqObj "tuple" (as.map Value.ref).toArray 0)).objs.size=none:=J.fresh
    have J2:=J1.lnew (ys:=[]) (its:=[]) (t':=s.toks) .nil (Nat.zero_le _)
    refine srt_rest (H0:=H) J2 (Nat.le_trans I.sz ha) (fun p hp z=>?_) hlen hZ (fun p k hp i hi hk s' ys K=>turn p k hp i hi hk s' _ _ (fun q hq=>List.mem_cons_of_mem _ hq) (fun b o q=>?_) K) fun s' out g1 g2 g3=>⟨_,rfl,wpAny_pure ⟨_,rfl,?_⟩⟩
    · have:=Heap.lt_size (I.pin p hp).1
      rw [z] at this
      exact absurd (Nat.lt_of_lt_of_le this ha) (Nat.lt_irrefl _)
    · rw [upd_ne (ne_of_none q hk0)]
      exact q
    · have fa:H a=none:=I.hok.fresh ha
      refine h s' a _ out g1 g2 (fun b o q=>?_) fa upd_same g3
      rw [upd_ne (ne_of_none q fa),upd_ne (ne_of_none q hk0)]
      exact q
end
end L2
set_option maxHeartbeats 4000000
namespace L2
open PySem PySem.Spec PyProof.Rows
open PySem.W (kla_obj kla_fn CodeHd tabObj)
theorem lam_run {CX:CXT} {P:Program} {w:World} {K:PySem.W.Frag} {mg:Str→Option Value} {base:Heap} {k:Nat} {f:Addr} {name qual:Str} {params:Arguments} {body:Expr} {scope:Scope} {pm:Value} {c':Addr} {ctv:Value} {N ps:List Str}
    {A:Around} {outer:List Env} {s:Shared} {H:Hp} {args:Args} {us:List Value} {vs:List V} {Q:VK} {E:XK} {t:TE} (S:FnScope N ps scope) (hr:Room (k + 1) A) (e0:Env0 P w K mg base A outer s H)
    (ho:s.heap.get? f=some (kla_obj name qual params body scope [] pm c' ctv)) (hcd:s.heap.CodeRec (.ref c') qual)
    (hb:bindArgs (kla_fn name qual params body scope [] pm (.ref c') ctv) args=pure (ps.zip us)) (r:Vals vs us) (hl:vs.length=ps.length)
    (ht:PE (cxOf CX P w K mg base N qual scope f (.ref c') A outer s H E) body t) (hq:t (start N vs) H Q) :
    codeAny (model P w) A (.call (.ref f) args) (CR CX outer P w H s Q E) s:=by
  have lim:s.heap.NoLimit:=e0.mod.nolimit.keeps fun b o e=>(e0.bs b o e).1
  have hkind:∀ y ∈ ps.zip us,scope.names.lookup y.1=some .local∨(scope.names.lookup y.1=some .cell∧((cellsFrom (s.heap.objs.size + 1) scope.names []).lookup y.1).isSome=true):=fun ⟨n,v⟩ hy=>by
    rcases S.par n (List.of_mem_zip hy).1 with q | q
    · exact .inl q
    · exact .inr ⟨q,PySem.W.cellsFrom_some _ _ _ (.inl q)⟩
  refine PySem.W.kla_callFunE hr.depth ho rfl S.co S.gen rfl hcd ?_
  rw [hb]
  refine wpAny_pure ?_
  refine wpAny_newFunctionEnv_cells S.kind hkind fun env he s1 x=>?_
  subst he
  refine ⟨lim.keeps x.toInCall.keep,PySem.W.kla_codeExpr ?_⟩
  have I:Inv (cxOf CX P w K mg base N qual scope f (.ref c') A outer s H E) [] (start N vs) H s1:=inv_start S hr.hd e0 hl r x
  refine wpAny_mono (ht [] s1 (start N vs) H _ I hq) (fun u s' hs=>?_) fun e s' hs=>hs
  obtain ⟨v,H',J,rv,q⟩:=hs
  exact ⟨v,H',J.os,J.bare,J.base,J.hok,rv,q⟩
def codeHO (c':Addr) (qual:Str):HO:=.ext fun h=>h.CodeRec (.ref c') qual
def TabGood (pos:Pos) (qual:Str) (P:Addr) (H:Hp):Prop:=∃ ps:Array Value,H P=some (.tbl ps)∧TriplesOk ps.toList ∧
  (codeAmong pos ps.toList=none∨∃ c',codeAmong pos ps.toList=some (.ref c')∧H c'=some (codeHO c' qual))
def BMain (base:Heap) (mg:Str→Option Value):Prop:=∃ bm ob,mg "__builtins__" = some (.ref bm)∧bm≠builtinsNs∧base.get? bm=some ob∧ob.cls=.type "module"∧ob.dict=some builtinsNs∧ob.data=.plain
theorem triples_snoc {a b:Int} {t u:Nat} {c:Value}:∀ (l:List Value),TriplesOk l→TriplesOk (l ++ [.int a t,.int b u,c]):=fun l h=>by
  fun_induction TriplesOk l with
  | case1=>exact trivial
  | case2 _ _ _ _ _ rest ih=>exact ih h
  | case3=>exact h.elim
theorem codeHO_ok {P:Program} {w:World} {H:Hp} {h:Heap} {c':Addr} {qual:Str} (x:h.CodeRec (.ref c') qual):ObjOk P w H h c' (codeHO c' qual):=by
  refine ⟨x,?_,fun h1 h2 y k=>?_⟩
  · obtain ⟨c,o,vs,t,e,g,r⟩:=x
    cases e
    exact ⟨o,g⟩
  · obtain ⟨c,o,vs,t,e,g,r⟩:=y
    cases e
    exact ⟨c',o,vs,t,rfl,k o g,r⟩
section
variable {X:Cx} {pins:List (Addr × Obj)} {σ:St} {H:Hp} {s:Shared}
theorem lam_make {P c:Addr} {pos:Pos} {params:Arguments} {body:Expr} {scope:Scope} {Q:Value→Shared→Prop} {E:Value→Shared→Prop} (I:Inv X pins σ H s) (hcode:X.env.code=.ref c) (C:CodeHd X.base c P) (bm:BMain X.base X.mg)
    (hdef:defaultsOf params X.env=([],[])) (hcl:closureFor scope X.env=pure []) (T:TabGood pos (X.env.qual ++ "<lambda>") P H)
    (h:∀ (f c':Addr) (pm ctv:Value) (H':Hp) (s':Shared),Inv X ((f,kla_obj "<lambda>" (X.env.qual ++ "<lambda>") params body scope [] pm c' ctv)::pins) σ H' s'→TabGood pos (X.env.qual ++ "<lambda>") P H' →
      (∀ b o,b≠P→H b=some o→H' b=some o)→(∀ b,s.heap.objs.size≤b→H b=none)→H' c'=some (codeHO c' (X.env.qual ++ "<lambda>"))→Q (.ref f) s') :
    wpAny (model X.prog X.w) X.A (eval (.Lambda params body scope pos) X.env) Q E s:=by
  obtain ⟨ps,hP,ht,hc⟩:=T
  have oP:s.heap.get? P=some (tabObj ps):=I.hok P _ hP
  have hg:s.heap.Ns mainGlobals X.mg:=I.mod.glob.keeps I.bk
  obtain ⟨b,ob,b1,b2,b3,b4,b5,b6⟩:=bm
  have hgP:mainGlobals≠P:=fun z=>by
    obtain ⟨o,es,ep,e,_⟩:=I.mod.glob
    have:=(I.bs _ _ e).2
    rw [z,hP] at this
    cases this
  have hbP:b≠P:=fun z=>by
    have:=(I.bs _ _ b3).2
    rw [z,hP] at this
    cases this
  have hbG:b≠mainGlobals:=fun z=>by
    obtain ⟨o,es,ep,e,hd,_⟩:=I.mod.glob
    rw [z,e] at b3
    cases b3
    rw [hd] at b6
    cases b6
  have hB:s.heap.BuiltinsAt X.mg P:=⟨b,ob,b1,b2,hbG,hbP,I.bk _ _ b3,b4,b5,b6⟩
  have frsh:∀ b,s.heap.objs.size≤b→H b=none:=fun b z=>I.hok.fresh z
  have pinned:∀ {H':Hp} {h':Heap} {ob:Obj} {t':Nat},(∀ v,ob.data≠.cell v)→ob.isFreed=false→s.heap.objs.size≤h'.objs.size→Inv X pins σ H' { s with heap:=h',toks:=t' }→Inv X ((h'.objs.size,ob)::pins) σ H' { s with heap:=h'.push ob,toks:=t' }:=fun {H' h' ob t'} nc hfr hsz J=>by
    have J1:=J.kept (h':=h'.push ob) (t':=t') fun b u e=>Heap.get?_push_of_some _ e
    refine J1.pins_of fun p hp=>?_
    rcases List.mem_cons.mp hp with rfl | hp
    · refine ⟨Heap.get?_push_size _ hfr,J.hok.fresh (Nat.le_refl _),fun z=>?_,J.nofs (Nat.le_refl _),nc⟩
      have z:h'.objs.size=X.env.locals:=z
      have:=J.lt
      exact absurd (show X.env.locals < h'.objs.size from this) (by rw [z]; exact Nat.lt_irrefl _)
    · exact J1.pin p (List.mem_append_right _ hp)
  refine PySem.W.kla_eval hdef ?_
  rcases hc with hc | ⟨c',hc,hc'⟩
  · refine PySem.W.kla_makeFunction (mg:=X.mg) hcl I.ok.glob hg hcode (C.keeps I.bk) oP ht hc hgP hB fun c' ctv h' tk hx hge hlt hrec htb=>?_
    have nP:∀ b,H b=none→b≠P:=fun b n z=>by rw [z,hP] at n; cases n
    have nc:H c'=none:=frsh c' hge
    have nPc:P≠c':=fun z=>by rw [z,nc] at hP; cases hP
    have J:Inv X pins σ (upd (upd H P (.tbl (ps ++ #[rawInt pos.line,rawInt pos.col,.ref c']))) c' (codeHO c' (X.env.qual ++ "<lambda>"))) { s with heap:=h',toks:=tk }:=by
      have kd:∀ b u,H b=some u→(∀ ps,u≠.tbl ps)→upd (upd H P (.tbl (ps ++ #[rawInt pos.line,rawInt pos.col,.ref c']))) c' (codeHO c' (X.env.qual ++ "<lambda>")) b=some u:=fun b u z nt=>by
        rw [upd_ne (ne_of_none z nc),upd_ne (fun w=>by rw [w,hP] at z; exact nt _ (Option.some.inj z).symm)]
        exact z
      refine I.step (g':=s.gens) (d':=s.drawn) (ch:=[]) (fun _ z=>nomatch z) (fun b o _ _ _ e n=>hx b o (nP b n) e) (fun b o _ _ _ e n=>⟨o.slots,hx b o (nP b n) e⟩)
        (fun b o _ e n=>by
          rw [upd_ne (Nat.ne_of_lt (Nat.lt_of_lt_of_le (Heap.lt_size e) hge)),upd_ne (nP b n)]
          exact n)
        (fun b o _ e=>by
          by_cases hb:b=P
          · rw [hb]; exact ⟨_,htb⟩
          · exact ⟨o,hx b o hb e⟩)
        (fun b xs z=>kd b _ z fun _ w=>by cases w) (fun b o u z=>kd b _ z fun _ w=>by cases w)
        (fun b qs z=>by
          by_cases hb:b=P
          · subst hb
            rw [hP] at z
            cases z
            exact ⟨_,by rw [upd_ne nPc,upd_same]⟩
          · exact ⟨#[],by rw [upd_ne (ne_of_none z nc),upd_ne hb,z]; simp⟩)
        (fun m hm=>by
          obtain ⟨o,es,ep,ho,r⟩:=hm
          exact ⟨o,es,ep,hx _ o (nP _ I.free) ho,r⟩) (fun b u z=>?_) I.bare
      by_cases hb:b=c'
      · subst hb
        rw [upd_same] at z
        cases z
        exact codeHO_ok hrec
      · rw [upd_ne hb] at z
        by_cases hb2:b=P
        · subst hb2
          rw [upd_same] at z
          cases z
          exact htb
        · rw [upd_ne hb2] at z
          refine (I.hok b u z).stay (fun d v hd r=>hx d v ?_ r) (fun d r=>kd d _ r fun _ w=>by cases w) fun d xs r=>kd d _ r fun _ w=>by cases w
          rcases hd with w | w
          · rw [w]; exact hb2
          · intro q
            rw [q,hP] at w
            cases w
    have hszh:s.heap.objs.size≤h'.objs.size:=Nat.le_trans hge (Nat.le_of_lt hlt)
    refine h _ c' _ ctv _ _ (pinned (ob:=kla_obj "<lambda>" (X.env.qual ++ "<lambda>") params body scope [] ((X.mg "__name__").getD .none) c' ctv) (fun v z=>by cases z) rfl hszh J) ⟨_,by rw [upd_ne nPc,upd_same],?_,.inr ⟨c',?_,upd_same⟩⟩ (fun b o hb z=>by rw [upd_ne (ne_of_none z nc),upd_ne hb]; exact z) frsh upd_same
    · rw [Array.toList_append]
      exact triples_snoc _ ht
    · rw [Array.toList_append]
      exact codeAmong_snoc _ ht hc
  · refine PySem.W.kla_makeFunctionHit (mg:=X.mg) hcl I.ok.glob hg hcode (C.keeps I.bk) oP ht hc hB fun ctv h' tk hk hsz=>?_
    refine h _ c' _ ctv _ _ (pinned (ob:=kla_obj "<lambda>" (X.env.qual ++ "<lambda>") params body scope [] ((X.mg "__name__").getD .none) c' ctv) (fun v z=>by cases z) rfl hsz (I.kept (t':=tk) hk)) ⟨ps,hP,ht,.inr ⟨c',hc,hc'⟩⟩ (fun b o _ z=>z) frsh hc'
end
end L2
set_option maxHeartbeats 4000000
namespace L2
open PySem PySem.Spec PyProof.Rows
open PySem.W (kla_obj kla_fn CodeHd tabObj)
def rSortKey (K:PySem.W.Frag) (P:Addr) (pos:Pos) (qual fld:Str) (x:V) (H1:Hp) (Q:VK):Prop:=∃ (l:Addr) (as:List Addr) (kz:List Int),x=.ref l∧SqL K H1 l (as.map V.ref)∧kz.length=as.length∧TabGood pos qual P H1 ∧
  (∀ (i:Nat) (a:Addr) (k:Int),as[i]?=some a→kz[i]?=some k→∃ C dx fs,H1 a=some (.ins C dx fs)∧Cls K C∧NoAttr K C fld∧fs.lookup fld=some (.int k)) ∧
  ∀ D H' out,KeyOut kz as out→out.length=as.length→TabGood pos qual P H'→(∀ b o,b≠P→H1 b=some o→H' b=some o)→H1 D=none→H' D=some (.lst (out.map V.ref))→Q (.ref D) H'
def tSortKey (K:PySem.W.Frag) (P:Addr) (pos:Pos) (qual fld:Str) (te:TE):TE:=fun σ H Q=>te σ H fun x H1=>rSortKey K P pos qual fld x H1 Q
section
variable {X:Cx}
theorem TabGood.mono {pos:Pos} {qual:Str} {P:Addr} {H H':Hp} (T:TabGood pos qual P H) (k:∀ b o,H b=some o→H' b=some o):TabGood pos qual P H':=by
  obtain ⟨ps,hP,ht,hc⟩:=T
  refine ⟨ps,k _ _ hP,ht,?_⟩
  rcases hc with hc | ⟨c',hc,hc'⟩
  · exact .inl hc
  · exact .inr ⟨c',hc,k _ _ hc'⟩
theorem SqL.past {K:PySem.W.Frag} {H H':Hp} {P l:Addr} {xs:List V} {ps:Array Value} (h:SqL K H l xs) (hP:H P=some (.tbl ps)) (k:∀ b o,b≠P→H b=some o→H' b=some o):SqL K H' l xs:=by
  rcases h with (h | ⟨o,h⟩) | h
  · exact .inl (.inl (k _ _ (ne_of h hP (by intro z; cases z)) h))
  · exact .inl (.inr ⟨o,k _ _ (ne_of h hP (by intro z; cases z)) h⟩)
  · exact .inr h
theorem pe_sortkey {P c:Addr} {pos ppos lpos kpos:Pos} {e:Expr} {te:TE} {params:Arguments} {body:Expr} {scope:Scope} {v fld:Str} (he:PE X e te) (hr:Room 3 X.A) (hg:Gl X "sorted") (hm:X.mg "sorted" = none) (hb:bootBuiltins "sorted" = some (.builtin "sorted"))
    (hcode:X.env.code=.ref c) (C:CodeHd X.base c P) (bm:BMain X.base X.mg) (hdef:defaultsOf params X.env=([],[])) (hcl:closureFor scope X.env=pure []) (S:FnScope [v] [v] scope)
    (hbind:∀ (qual:Str) (pm cv ctv u:Value),bindArgs (kla_fn "<lambda>" qual params body scope [] pm cv ctv) ⟨[u],[]⟩=pure ([v].zip [u]))
    (hbody:∀ (f c':Addr) (A:Around) (s:Shared) (H:Hp),PE (cxOf CX0 X.prog X.w X.K X.mg X.base [v] (X.env.qual ++ "<lambda>") scope f (.ref c') A X.stack s H E0) body (tFld X.K (tVar 0) fld))
    (hs:starEach [e] X.env=[(false,eval e X.env)]:=by rfl) :
    PE X (.Call (.Name "sorted" ppos) [e] [⟨some (Str.ofString "key"),.Lambda params body scope lpos,kpos⟩] pos) (tSortKey X.K P lpos (X.env.qual ++ "<lambda>") fld te):=by
  intro pins s σ H Q I h
  refine wpAny_Call_Name_kw (ld_blt I hg hm hb ?_)
  have ha:PA X [e] (tCons te tNil):=pa_cons he pa_nil (by rw [hs]; rfl)
  refine callWith_kw (thn (ha pos pins s σ H (fun vs H1=>match vs with | [x]=>rSortKey X.K P lpos (X.env.qual ++ "<lambda>") fld x H1 Q | _=>False) I h) fun us s1 ⟨vs,H1,I1,r1,q1⟩=>kws_cons ?_) (by rw [hs]; rfl) (by rw [hs]; rfl)
  match vs,q1 with
  | [x],q1 =>
  obtain ⟨l,as,kz,rfl,hl,hlen,T,hfl,k⟩:=q1
  have eus:us=[Value.ref l]:=by
    cases r1 with
    | cons r t=>cases t; cases r; rfl
  subst eus
  refine lam_make (c:=c) (P:=P) I1 hcode C bm hdef hcl T fun f c' pm ctv H2 s2 I2 T2 k2 _ hc'=>?_
  refine kws_nil ?_
  show wpAny _ _ (call (.builtin "sorted") [.ref l] [(Str.ofString "key",.ref f)]) _ _ _
  obtain ⟨ps,hP,-,-⟩:=T
  have hl2:SqL X.K H2 l (as.map V.ref):=hl.past hP k2
  obtain ⟨its,rv,hpl,hz⟩:=I2.list hl2
  have eits:=vals_refs rv
  subst eits
  refine srt_tree (n:=0) (f:=.ref f) (kz:=kz) (as:=as) I2 hpl.isList hlen (by rw [List.length_map] at hz; exact hz) (ksk_s1 _ _) (fun x=>ksk_l1 _ _) (fun x=>ksk_t1 f x) (fun p kk hp i hi hk s' pins' H' hps hH J=>?_) fun s' D H' out g1 g2 g3 g4 g5 J=>?_
  · obtain ⟨Cc,dx,fs,h1,h2,h3,h4⟩:=hfl i p kk hi hk
    have np:p≠P:=ne_of h1 hP (by intro z; cases z)
    have h1':=hH _ _ (k2 _ _ np h1)
    have hcr:s'.heap.CodeRec (.ref c') (X.env.qual ++ "<lambda>"):=(J.hok c' _ (hH _ _ hc')).1
    have hof:=(J.pin _ (List.mem_append_right _ (hps _ List.mem_cons_self))).1
    refine wpAny_call (codeAny_mono (lam_run (CX:=CX0) (E:=E0) (A:=X.A.in1.in1) (outer:=X.stack) (us:=[Value.ref p]) (vs:=[V.ref p]) (Q:=fun v H''=>v=.int kk∧H''=H') S (hr.in1.in1) (J.env0.in1.in1) hof hcr (hbind _ _ _ _ _) (.cons rfl .nil) rfl (hbody f c' _ _ _) ?_) fun r s3 hq=>?_)
    · exact ⟨V.ref p,rfl,p,Cc,dx,fs,.int kk,rfl,h1',h2,h3,h4,rfl,rfl⟩
    · cases r with
      | error e=>exact False.elim hq
      | ok fl =>
        cases fl with
        | ret u=>exact J.after hq
        | next=>exact False.elim hq
        | brk=>exact False.elim hq
        | cont=>exact False.elim hq
  · have nD:D≠P:=fun z=>by
      obtain ⟨ps2,hP2,-,-⟩:=T2
      rw [z,hP2] at g4
      cases g4
    have J2:=pin_tail J
    refine ⟨.ref D,H',J2,rfl,k D H' out g1 g2 (T2.mono g3) (fun b o hb z=>g3 _ _ (k2 b o hb z)) ?_ g5⟩
    cases q:H1 D with
    | none=>rfl
    | some o =>
      rw [k2 D o nD q] at g4
      cases g4
end
end L2
section
set_option maxHeartbeats 2000000
namespace L2
open PySem PySem.Spec PyProof.Rows
open PySem.W (WData Codec OpenSpec Well WellAll ReadsW ReadsAllW)
mutual
inductive Dw (K:PySem.W.Frag) (H:Hp):V→WData→Prop
  | non:Dw K H .non .none
  | bl (b:Bool):Dw K H (.bl b) (.bool b)
  | int (i:Int):Dw K H (.int i) (.int i)
  | str (x:Str):Dw K H (.str x) (.str x)
  | byt (b:Array UInt8):Dw K H (.byt b) (.bytes b.toList)
  | lst {a:Addr} {xs:List V} {ds:List WData}:SqL K H a xs→DwAll K H xs ds→Dw K H (.ref a) (.list ds)
  | tup {a:Addr} {xs:List V} {ds:List WData}:SqT K H a xs→DwAll K H xs ds→Dw K H (.ref a) (.tuple ds)
inductive DwAll (K:PySem.W.Frag) (H:Hp):List V→List WData→Prop
  | nil:DwAll K H [] []
  | cons {v:V} {vs:List V} {d:WData} {ds:List WData}:Dw K H v d→DwAll K H vs ds→DwAll K H (v::vs) (d::ds)
end
theorem dw_ints {K:PySem.W.Frag} {H:Hp}:∀ ns:List Int,DwAll K H (ns.map V.int) (ns.map WData.int)
  | []=>.nil
  | n::r=>.cons (.int n) (dw_ints r)
theorem ints_dw {K:PySem.W.Frag} {H:Hp}:∀ (ns:List Int) (xs:List V),DwAll K H xs (ns.map WData.int)→xs=ns.map V.int
  | [],xs,h=>by
    cases h
    rfl
  | n::r,xs,h=>by
    cases h with
    | cons h1 h2 =>
      cases h1
      rw [ints_dw r _ h2] <;> rfl
section
variable {P:Program} {w:World} {K:PySem.W.Frag} {H:Hp} {h:Heap} {R:PySem.W.WRecords} {cl:Str→Option Addr}
theorem sqL_at {a:Addr} {xs:List V} (hok:HOk P w H h) (KX:K.In h) (q:SqL K H a xs):∃ (its:List Value) (o:Obj) (n:Nat),Vals xs its∧h.get? a=some o∧o.cls=.type "list"∧o.data=.seq its.toArray n:=by
  rcases q with q | ⟨o,its,n,e,hc,_,hd,_,hv⟩
  · obtain ⟨_,its,n,hv,e⟩:=(show ObjOk P w H h a (.lst xs) from q.ok hok)
    exact ⟨its,_,n,hv,e,rfl,rfl⟩
  · exact ⟨its.toList,o,n,hv,KX _ _ e,hc,by simp [hd]⟩
theorem sqT_at {a:Addr} {xs:List V} (hok:HOk P w H h) (KX:K.In h) (q:SqT K H a xs):∃ (its:List Value) (o:Obj) (n:Nat),Vals xs its∧h.get? a=some o∧o.cls=.type "tuple"∧o.data=.seq its.toArray n:=by
  rcases q with q | ⟨o,its,n,e,hc,hd,_,hv⟩
  · obtain ⟨_,its,hv,o,e,hc,n,hd⟩:=(show ObjOk P w H h a (.tup xs) from q.ok hok)
    exact ⟨its,o,n,hv,e,hc,hd⟩
  · exact ⟨its.toList,o,n,hv,KX _ _ e,hc,by simp [hd]⟩
mutual
theorem Dw.reads (hok:HOk P w H h) (KX:K.In h):∀ (d:WData) (v:V) (u:Value),Dw K H v d→RelV v u→∃ as,ReadsW R cl h u d as
  | .none,_,_,x,r=>by
    cases x
    cases r
    exact ⟨_,ReadsW.none⟩
  | .bool b,_,_,x,r=>by
    cases x
    cases r
    exact ⟨_,ReadsW.bool b⟩
  | .int i,_,_,x,r=>by
    cases x
    obtain ⟨t,rfl⟩:=r
    exact ⟨_,ReadsW.int i t⟩
  | .str s,_,_,x,r=>by
    cases x
    obtain ⟨t,rfl⟩:=r
    exact ⟨_,ReadsW.str s t⟩
  | .bytes b,_,_,x,r=>by
    cases x
    obtain ⟨t,rfl⟩:=r
    exact ⟨_,ReadsW.bytes _ t⟩
  | .list ds,_,_,x,r=>by
    cases x with
    | lst hs ha =>
      cases r
      obtain ⟨its,o,n,rv,ho,hc,hd⟩:=sqL_at hok KX hs
      obtain ⟨as,hr⟩:=Dw.readsAll hok KX ds _ its ha rv
      exact ⟨_,ReadsW.list ho hc hd hr⟩
  | .tuple ds,_,_,x,r=>by
    cases x with
    | tup hs ha =>
      cases r
      obtain ⟨its,o,n,rv,ho,hc,hd⟩:=sqT_at hok KX hs
      obtain ⟨as,hr⟩:=Dw.readsAll hok KX ds _ its ha rv
      exact ⟨_,ReadsW.tuple ho hc hd hr⟩
  | .float _,_,_,x,_=>by cases x
  | .dict _,_,_,x,_=>by cases x
  | .bytearray _,_,_,x,_=>by cases x
  | .set _,_,_,x,_=>by cases x
  | .frozenset _,_,_,x,_=>by cases x
  | .obj _ _,_,_,x,_=>by cases x
theorem Dw.readsAll (hok:HOk P w H h) (KX:K.In h):∀ (ds:List WData) (vs:List V) (us:List Value),DwAll K H vs ds→Vals vs us→∃ as,ReadsAllW R cl h us ds as
  | [],_,_,x,r=>by
    cases x
    cases r
    exact ⟨_,ReadsAllW.nil⟩
  | d::ds,_,_,x,r=>by
    cases x with
    | cons h1 h2 =>
      cases r with
      | cons r1 r2 =>
        obtain ⟨as,q1⟩:=Dw.reads hok KX d _ _ h1 r1
        obtain ⟨bs,q2⟩:=Dw.readsAll hok KX ds _ _ h2 r2
        exact ⟨_,ReadsAllW.cons q1 q2⟩
end
end
mutual
def plW:WData→Bool
  | .none=>true
  | .bool _=>true
  | .int _=>true
  | .str _=>true
  | .bytes _=>true
  | .list xs=>plWs xs
  | .tuple xs=>plWs xs
  | _=>false
def plWs:List WData→Bool
  | []=>true
  | x::r=>plW x && plWs r
end
theorem plWs_map {α:Type} {f:α→WData} (h:∀ a,plW (f a)=true):∀ l:List α,plWs (l.map f)=true
  | []=>rfl
  | x::r=>by
    show (plW (f x) && plWs (r.map f))=true
    rw [h x,plWs_map h r] <;> rfl
theorem pl_enc:∀ (c:Codec) (a:c.denote),plW (c.enc a)=true
  | .unit,_=>rfl
  | .bool,_=>rfl
  | .int _ _,_=>rfl
  | .nat _ _,_=>rfl
  | .u8,_=>rfl
  | .bytes _ _,_=>rfl
  | .text _ _ _ _,_=>rfl
  | .list _ _ c,a=>plWs_map (fun x=>pl_enc c x) a
  | .pair c d,a=>by
    show (plW (c.enc a.1) && (plW (d.enc a.2) && true))=true
    rw [pl_enc c a.1,pl_enc d a.2] <;> rfl
  | .triple c d e,a=>by
    show (plW (c.enc a.1) && (plW (d.enc a.2.1) && (plW (e.enc a.2.2) && true)))=true
    rw [pl_enc c a.1,pl_enc d a.2.1,pl_enc e a.2.2] <;> rfl
  | .option c,none=>rfl
  | .option c,some x=>pl_enc c x
theorem pl_encAll:∀ (cs:List Codec) (a:Codec.denoteAll cs),plWs (Codec.encAll cs a)=true
  | [],_=>rfl
  | c::cs,a=>by
    show (plW (c.enc a.1) && plWs (Codec.encAll cs a.2))=true
    rw [pl_enc c a.1,pl_encAll cs a.2] <;> rfl
theorem weight_mem:∀ {xs:List WData} {d:WData},d ∈ xs→d.weight≤WData.weightAll xs
  | [],d,h=>absurd h (by simp)
  | x::r,d,h=>by
    show d.weight≤x.weight + 1 + WData.weightAll r
    rcases List.mem_cons.mp h with e | m
    · rw [e]
      omega
    · have z:=weight_mem m
      omega
def toV:Value→V
  | .none=>.non
  | .bool b=>.bl b
  | .int i _=>.int i
  | .str x _=>.str x
  | .bytes b _=>.byt b
  | .ref a=>.ref a
  | _=>.non
def OkU (A:List Addr):Value→Prop
  | .none=>True
  | .bool _=>True
  | .int _ _=>True
  | .str _ _=>True
  | .bytes _ _=>True
  | .ref a=>a ∈ A
  | _=>False
theorem OkU.mono {A B:List Addr} (h:∀ a ∈ A,a ∈ B):∀ {u:Value},OkU A u→OkU B u:=fun {u} x=>by
  cases u with
  | ref a=>exact h a x
  | none=>trivial
  | bool b=>trivial
  | int i t=>trivial
  | str s t=>trivial
  | bytes b t=>trivial
  | _=>exact False.elim x
theorem relV_toV {A:List Addr} {u:Value} (x:OkU A u):RelV (toV u) u:=by
  cases u with
  | ref a=>rfl
  | none=>rfl
  | bool b=>rfl
  | int i t=>exact ⟨t,rfl⟩
  | str s t=>exact ⟨t,rfl⟩
  | bytes b t=>exact ⟨t,rfl⟩
  | _=>exact False.elim x
theorem vals_toV {A:List Addr}:∀ {vs:List Value},(∀ u ∈ vs,OkU A u)→Vals (vs.map toV) vs
  | [],_=>.nil
  | u::r,h=>.cons (relV_toV (h u (List.mem_cons_self ..))) (vals_toV fun x hx=>h x (List.mem_cons_of_mem _ hx))
def ArgOb (h:Heap) (A:List Addr) (a:Addr):Prop:=∃ vs:List Value,vs.length≤sizeLine∧(∀ u ∈ vs,OkU A u) ∧
  (h.get? a=some { cls:=.type "list",data:=.seq vs.toArray }∨h.get? a=some { cls:=.type "tuple",data:=.seq vs.toArray })
theorem ArgOb.mono {h:Heap} {A B:List Addr} {a:Addr} (k:∀ a ∈ A,a ∈ B) (x:ArgOb h A a):ArgOb h B a:=by
  obtain ⟨vs,h1,h2,h3⟩:=x
  exact ⟨vs,h1,fun u hu=>(h2 u hu).mono k,h3⟩
theorem wellAll_len {P:Params} {h:Heap}:∀ {vs:List Value} {ds:List WData},WellAll P h vs ds→vs.length=ds.length
  | _,_,.nil=>rfl
  | _,_,.cons _ b=>by
    show _ + 1=_ + 1
    rw [wellAll_len b]
theorem well_list {P:Params} {h:Heap} {v:Value} {ds:List WData} (x:Well P h v (.list ds)):∃ (a:Addr) (vs:List Value),v=.ref a∧h.get? a=some { cls:=.type "list",data:=.seq vs.toArray }∧WellAll P h vs ds:=by
  cases x with
  | list ho hall=>exact ⟨_,_,rfl,ho,hall⟩
theorem well_tuple {P:Params} {h:Heap} {v:Value} {ds:List WData} (x:Well P h v (.tuple ds)):∃ (a:Addr) (vs:List Value),v=.ref a∧h.get? a=some { cls:=.type "tuple",data:=.seq vs.toArray }∧WellAll P h vs ds:=by
  cases x with
  | tuple ho hall=>exact ⟨_,_,rfl,ho,hall⟩
theorem well_cons {P:Params} {h:Heap} {us:List Value} {d:WData} {ds:List WData} (x:WellAll P h us (d::ds)):∃ (v:Value) (vs:List Value),us=v::vs∧Well P h v d∧WellAll P h vs ds:=by
  cases x with
  | cons a b=>exact ⟨_,_,rfl,a,b⟩
theorem line_of {n:Nat} (h:n≤1048576):n≤sizeLine:=Nat.le_trans h (by decide)
section
variable {P:Params} {h:Heap}
mutual
theorem area_one:∀ (d:WData) (v:Value),Well P h v d→plW d=true→d.weight≤1048576→∃ A:List Addr,OkU A v∧∀ a ∈ A,ArgOb h A a
  | .none,_,x,_,_=>by
    cases x
    exact ⟨[],trivial,fun a m=>absurd m (by simp)⟩
  | .bool b,_,x,_,_=>by
    cases x
    exact ⟨[],trivial,fun a m=>absurd m (by simp)⟩
  | .int i,_,x,_,_=>by
    cases x
    exact ⟨[],trivial,fun a m=>absurd m (by simp)⟩
  | .str s,_,x,_,_=>by
    cases x
    exact ⟨[],trivial,fun a m=>absurd m (by simp)⟩
  | .bytes b,_,x,_,_=>by
    cases x
    exact ⟨[],trivial,fun a m=>absurd m (by simp)⟩
  | .list ds,_,x,p,z=>by
    obtain ⟨a,vs,rfl,ho,hall⟩:=well_list x
    have z2:WData.weightAll ds≤1048576:=z
    obtain ⟨A,h1,h2⟩:=area_all ds _ hall p fun d hd=>Nat.le_trans (weight_mem hd) z2
    have k:∀ b ∈ A,b ∈ a::A:=fun b hb=>List.mem_cons_of_mem _ hb
    refine ⟨a::A,List.mem_cons_self ..,fun b hb=>?_⟩
    rcases List.mem_cons.mp hb with e | m
    · rw [e]
      exact ⟨vs,line_of (by rw [wellAll_len hall]; exact Nat.le_trans (PySem.W.length_le_weightAllW ds) z2),fun u hu=>(h1 u hu).mono k,.inl ho⟩
    · exact (h2 b m).mono k
  | .tuple ds,_,x,p,z=>by
    obtain ⟨a,vs,rfl,ho,hall⟩:=well_tuple x
    have z2:WData.weightAll ds≤1048576:=z
    obtain ⟨A,h1,h2⟩:=area_all ds _ hall p fun d hd=>Nat.le_trans (weight_mem hd) z2
    have k:∀ b ∈ A,b ∈ a::A:=fun b hb=>List.mem_cons_of_mem _ hb
    refine ⟨a::A,List.mem_cons_self ..,fun b hb=>?_⟩
    rcases List.mem_cons.mp hb with e | m
    · rw [e]
      exact ⟨vs,line_of (by rw [wellAll_len hall]; exact Nat.le_trans (PySem.W.length_le_weightAllW ds) z2),fun u hu=>(h1 u hu).mono k,.inr ho⟩
    · exact (h2 b m).mono k
  | .float _,_,_,p,_=>Bool.noConfusion (show false=true from p)
  | .dict _,_,_,p,_=>Bool.noConfusion (show false=true from p)
  | .bytearray _,_,_,p,_=>Bool.noConfusion (show false=true from p)
  | .set _,_,_,p,_=>Bool.noConfusion (show false=true from p)
  | .frozenset _,_,_,p,_=>Bool.noConfusion (show false=true from p)
  | .obj _ _,_,_,p,_=>Bool.noConfusion (show false=true from p)
theorem area_all:∀ (ds:List WData) (vs:List Value),WellAll P h vs ds→plWs ds=true→(∀ d ∈ ds,d.weight≤1048576)→∃ A:List Addr,(∀ u ∈ vs,OkU A u)∧∀ a ∈ A,ArgOb h A a
  | [],_,x,_,_=>by
    cases x
    exact ⟨[],fun u m=>absurd m (by simp),fun a m=>absurd m (by simp)⟩
  | d::ds,_,x,p,z=>by
    obtain ⟨v,vs,rfl,x1,x2⟩:=well_cons x
    have q:plW d=true∧plWs ds=true:=Bool.and_eq_true_iff.mp p
    obtain ⟨A,a1,a2⟩:=area_one d v x1 q.1 (z d (List.mem_cons_self ..))
    obtain ⟨B,b1,b2⟩:=area_all ds vs x2 q.2 fun e he=>z e (List.mem_cons_of_mem _ he)
    have kA:∀ b ∈ A,b ∈ A ++ B:=fun b hb=>List.mem_append.mpr (.inl hb)
    have kB:∀ b ∈ B,b ∈ A ++ B:=fun b hb=>List.mem_append.mpr (.inr hb)
    refine ⟨A ++ B,fun u hu=>?_,fun b hb=>?_⟩
    · rcases List.mem_cons.mp hu with e | m
      · rw [e]
        exact a1.mono kA
      · exact (b1 u m).mono kB
    · rcases List.mem_append.mp hb with m | m
      · exact (a2 b m).mono kA
      · exact (b2 b m).mono kB
end
end
def hoOf (o:Obj):Option HO:=match o.data with
  | .seq vs _=>if (o.cls == Value.type "list")=true then some (.frz o (.lst (vs.toList.map toV))) else some (.frz o (.tup (vs.toList.map toV)))
  | _=>none
def argH (K:PySem.W.Frag) (h:Heap) (A:List Addr):Hp:=fun b=>if b ∈ A then (if (K.lookup b).isNone=true then (h.get? b).bind hoOf else none) else none
def OnlyF (H:Hp):Prop:=∀ b,H b=none∨∃ o u,H b=some (.frz o u)
theorem hoOf_lst (vs:List Value):hoOf { cls:=.type "list",data:=.seq vs.toArray }=some (.frz { cls:=.type "list",data:=.seq vs.toArray } (.lst (vs.map toV))):=by
  show (if (Value.type "list" == Value.type "list")=true then some (HO.frz { cls:=.type "list",data:=.seq vs.toArray } (.lst (vs.toArray.toList.map toV))) else some (HO.frz { cls:=.type "list",data:=.seq vs.toArray } (.tup (vs.toArray.toList.map toV))))=_
  rw [if_pos (beq_self_eq_true _)]
theorem hoOf_tup (vs:List Value):hoOf { cls:=.type "tuple",data:=.seq vs.toArray }=some (.frz { cls:=.type "tuple",data:=.seq vs.toArray } (.tup (vs.map toV))):=by
  show (if (Value.type "tuple" == Value.type "list")=true then some (HO.frz { cls:=.type "tuple",data:=.seq vs.toArray } (.lst (vs.toArray.toList.map toV))) else some (HO.frz { cls:=.type "tuple",data:=.seq vs.toArray } (.tup (vs.toArray.toList.map toV))))=_
  rw [if_neg (by decide)]
section
variable {P:Program} {w:World} {K:PySem.W.Frag} {h:Heap} {A:List Addr}
theorem argH_at {b:Addr} {o:Obj} (hb:b ∈ A) (hk:K.lookup b=none) (e:h.get? b=some o):argH K h A b=hoOf o:=by
  unfold argH
  rw [if_pos hb,hk,if_pos (show (none:Option Obj).isNone=true from rfl),e] <;> rfl
theorem of_argH {b:Addr} {u:HO} (q:argH K h A b=some u):b ∈ A∧K.lookup b=none:=by
  unfold argH at q
  by_cases hb:b ∈ A
  · rw [if_pos hb] at q
    cases hk:K.lookup b with
    | none=>exact ⟨hb,rfl⟩
    | some o =>
      rw [hk,if_neg (by simp)] at q
      cases q
  · rw [if_neg hb] at q
    cases q
theorem argH_is (ar:∀ a ∈ A,ArgOb h A a) {b:Addr} {u:HO} (q:argH K h A b=some u):K.lookup b=none∧∃ vs:List Value,vs.length≤sizeLine∧(∀ u ∈ vs,OkU A u) ∧
    ((h.get? b=some { cls:=.type "list",data:=.seq vs.toArray }∧u=.frz { cls:=.type "list",data:=.seq vs.toArray } (.lst (vs.map toV))) ∨
     (h.get? b=some { cls:=.type "tuple",data:=.seq vs.toArray }∧u=.frz { cls:=.type "tuple",data:=.seq vs.toArray } (.tup (vs.map toV)))):=by
  obtain ⟨hb,hk⟩:=of_argH q
  obtain ⟨vs,h1,h2,h3⟩:=ar b hb
  refine ⟨hk,vs,h1,h2,?_⟩
  rcases h3 with e | e
  · rw [argH_at hb hk e,hoOf_lst] at q
    exact .inl ⟨e,(Option.some.inj q).symm⟩
  · rw [argH_at hb hk e,hoOf_tup] at q
    exact .inr ⟨e,(Option.some.inj q).symm⟩
theorem argH_only (ar:∀ a ∈ A,ArgOb h A a):OnlyF (argH K h A):=fun b=>by
  cases q:argH K h A b with
  | none=>exact .inl rfl
  | some u =>
    obtain ⟨_,vs,_,_,⟨_,e⟩ | ⟨_,e⟩⟩:=argH_is ar q
    · exact .inr ⟨_,_,by rw [e]⟩
    · exact .inr ⟨_,_,by rw [e]⟩
theorem argH_ok (ar:∀ a ∈ A,ArgOb h A a):HOk P w (argH K h A) h:=fun b u q=>by
  obtain ⟨_,vs,h1,h2,⟨e,rfl⟩ | ⟨e,rfl⟩⟩:=argH_is ar q
  · exact ⟨e,by rw [List.length_map]; exact h1,vs,_,vals_toV h2,e⟩
  · exact ⟨e,by rw [List.length_map]; exact h1,vs,vals_toV h2,_,e,rfl,_,rfl⟩
theorem seq_inj {c c':Value} {vs us:List Value} (e:(some { cls:=c,data:=.seq vs.toArray }:Option Obj)=some { cls:=c',data:=.seq us.toArray }):c=c'∧vs=us:=by
  have e1:=Option.some.inj e
  have e2:c=c':=congrArg Obj.cls e1
  have e3:Data.seq vs.toArray=Data.seq us.toArray:=congrArg Obj.data e1
  injection e3 with e4
  refine ⟨e2,?_⟩
  have e5:=congrArg Array.toList e4
  simpa using e5
theorem argL (KX:K.In h) (ar:∀ a ∈ A,ArgOb h A a) {a:Addr} {vs:List Value} (ha:a ∈ A) (e:h.get? a=some { cls:=.type "list",data:=.seq vs.toArray }):(∀ u ∈ vs,OkU A u)∧SqL K (argH K h A) a (vs.map toV):=by
  obtain ⟨us,h1,h2,h3⟩:=ar a ha
  have hu:us=vs:=by
    rcases h3 with q | q
    · rw [e] at q
      exact (seq_inj q).2.symm
    · rw [e] at q
      exact absurd (Value.type.inj (seq_inj q).1) (by decide)
  subst hu
  refine ⟨h2,?_⟩
  cases hk:K.lookup a with
  | none=>exact .inl (.inr ⟨_,by rw [argH_at ha hk e,hoOf_lst]⟩)
  | some o =>
    have e2:=KX a o hk
    rw [e] at e2
    obtain rfl:=Option.some.inj e2
    exact .inr ⟨_,us.toArray,_,hk,rfl,rfl,rfl,by rw [List.size_toArray]; exact h1,by simpa using vals_toV h2⟩
theorem argT (KX:K.In h) (ar:∀ a ∈ A,ArgOb h A a) {a:Addr} {vs:List Value} (ha:a ∈ A) (e:h.get? a=some { cls:=.type "tuple",data:=.seq vs.toArray }):(∀ u ∈ vs,OkU A u)∧SqT K (argH K h A) a (vs.map toV):=by
  obtain ⟨us,h1,h2,h3⟩:=ar a ha
  have hu:us=vs:=by
    rcases h3 with q | q
    · rw [e] at q
      exact absurd (Value.type.inj (seq_inj q).1) (by decide)
    · rw [e] at q
      exact (seq_inj q).2.symm
  subst hu
  refine ⟨h2,?_⟩
  cases hk:K.lookup a with
  | none=>exact .inl (.inr ⟨_,by rw [argH_at ha hk e,hoOf_tup]⟩)
  | some o =>
    have e2:=KX a o hk
    rw [e] at e2
    obtain rfl:=Option.some.inj e2
    exact .inr ⟨_,us.toArray,_,hk,rfl,rfl,by rw [List.size_toArray]; exact h1,by simpa using vals_toV h2⟩
mutual
theorem dw_one {Pm:Params} (KX:K.In h) (ar:∀ a ∈ A,ArgOb h A a):∀ (d:WData) (v:Value),Well Pm h v d→plW d=true→OkU A v→Dw K (argH K h A) (toV v) d
  | .none,_,x,_,_=>by
    cases x
    exact .non
  | .bool b,_,x,_,_=>by
    cases x
    exact .bl b
  | .int i,_,x,_,_=>by
    cases x
    exact .int i
  | .str s,_,x,_,_=>by
    cases x
    exact .str s
  | .bytes b,_,x,_,_=>by
    cases x
    have z:=Dw.byt (K:=K) (H:=argH K h A) b.toArray
    exact z
  | .list ds,_,x,p,hu=>by
    obtain ⟨a,vs,rfl,ho,hall⟩:=well_list x
    obtain ⟨h2,hs⟩:=argL KX ar hu ho
    exact .lst hs (dw_all KX ar ds _ hall p h2)
  | .tuple ds,_,x,p,hu=>by
    obtain ⟨a,vs,rfl,ho,hall⟩:=well_tuple x
    obtain ⟨h2,hs⟩:=argT KX ar hu ho
    exact .tup hs (dw_all KX ar ds _ hall p h2)
  | .float _,_,_,p,_=>Bool.noConfusion (show false=true from p)
  | .dict _,_,_,p,_=>Bool.noConfusion (show false=true from p)
  | .bytearray _,_,_,p,_=>Bool.noConfusion (show false=true from p)
  | .set _,_,_,p,_=>Bool.noConfusion (show false=true from p)
  | .frozenset _,_,_,p,_=>Bool.noConfusion (show false=true from p)
  | .obj _ _,_,_,p,_=>Bool.noConfusion (show false=true from p)
theorem dw_all {Pm:Params} (KX:K.In h) (ar:∀ a ∈ A,ArgOb h A a):∀ (ds:List WData) (vs:List Value),WellAll Pm h vs ds→plWs ds=true→(∀ u ∈ vs,OkU A u)→DwAll K (argH K h A) (vs.map toV) ds
  | [],_,x,_,_=>by
    cases x
    exact .nil
  | d::ds,_,x,p,hu=>by
    obtain ⟨v,vs,rfl,x1,x2⟩:=well_cons x
    have q:plW d=true∧plWs ds=true:=Bool.and_eq_true_iff.mp p
    exact .cons (dw_one KX ar d v x1 q.1 (hu _ (List.mem_cons_self ..))) (dw_all KX ar ds vs x2 q.2 fun u m=>hu u (List.mem_cons_of_mem _ m))
end
end
theorem layable_weight {ds:List WData} (h:WData.layableAll ds=true):∀ d ∈ ds,d.weight≤1048576:=fun d hd =>
  (PySem.W.layableW_iff.mp (List.all_eq_true.mp h d hd)).2.2
theorem encAll_len:∀ (cs:List Codec) (a:Codec.denoteAll cs),(Codec.encAll cs a).length=cs.length
  | [],_=>rfl
  | c::cs,a=>by
    show (Codec.encAll cs a.2).length + 1=cs.length + 1
    rw [encAll_len cs a.2]
end L2
end
set_option maxHeartbeats 2000000
namespace L2
open PySem PySem.Spec PyProof.Rows
open PySem.W (WData Codec OpenSpec Well WellAll ReadsW ReadsAllW CodeHd tabObj)
def tabH (P:Addr) (H:Hp):Hp:=upd H P (.tbl #[])
theorem spec_callT {P:Program} {w:World} {K:PySem.W.Frag} {mg mb:Str→Option Value} {CX:CXT} {k:Nat} {fa c T:Addr} {fd:FuncData} {ps:List Str} {sp:Sp} {s₁:Shared} {vals:List Value} {ds:List WData} {R:PySem.W.WRecords} {cl:Str→Option Addr} {d0:WData}
    (KX:K.In s₁.heap) (hns:s₁.heap.Ns mainGlobals mg) (hb:s₁.heap.Ns builtinsNs mb) (hbb:∀ x:Str,x≠"__name__"→mb x=bootBuiltins x) (hlim:s₁.heap.NoLimit) (hg:s₁.gens=#[])
    (hCd:CodeHd s₁.heap c T) (hT:s₁.heap.get? T=some (tabObj #[])) (hKT:K.lookup T=none) (hbm:BMain s₁.heap mg)
    (hwl:WellAll w.params s₁.heap vals ds) (hpl:plWs ds=true) (hwt:∀ d ∈ ds,d.weight≤1048576) (hr:Room k callerA)
    (F:∀ base:Heap,K.In base→base.Ns mainGlobals mg→CodeHd base c T→BMain base mg→FnOk P w K mg base CX k fa fd ps sp) (hbind:∀ (s:Shared) (us:List Value),us.length=ps.length→BindsTo s fd ⟨us,[]⟩ (ps.zip us)) (hlen:ds.length=ps.length)
    (hsp:∀ (H:Hp) (xs:List V),OnlyF H→H T=none→DwAll K H xs ds→sp xs (tabH T H) (fun v H'=>Dw K H' v d0) fun _ _ _=>False)
    (hCX:∀ H e s',CX [] H s₁ (fun _ _ _=>False) e s'→False) :
    codeAny (model P w) callerA (.call (.ref fa) ⟨vals,[]⟩) (fun r s'=>∃ u as,r=.ok (.ret u)∧ReadsW R cl s'.heap u d0 as∧OldK s₁.heap s'.heap∧s'.os=s₁.os∧AllBare s'.gens) s₁:=by
  obtain ⟨A,ho,ar⟩:=area_all ds vals hwl hpl hwt
  have hO:OnlyF (argH K s₁.heap A):=argH_only ar
  have hok0:HOk P w (argH K s₁.heap A) s₁.heap:=argH_ok ar
  have hS:=dw_all KX ar ds vals hwl hpl ho
  have hV:=vals_toV ho
  have hK:∀ b u,argH K s₁.heap A b=some u→K.lookup b=none:=fun b u q=>(argH_is ar q).1
  have isSeq:∀ {b:Addr} {u:HO},argH K s₁.heap A b=some u→∃ o vs n,s₁.heap.get? b=some o∧o.data=.seq vs n:=fun {b u} q=>by
    obtain ⟨_,vs,_,_,⟨e2,_⟩ | ⟨e2,_⟩⟩:=argH_is ar q
    · exact ⟨_,_,_,e2,rfl⟩
    · exact ⟨_,_,_,e2,rfl⟩
  generalize argH K s₁.heap A=H0 at hO hok0 hS hK isSeq
  have nT:H0 T=none:=by
    cases q:H0 T with
    | none=>rfl
    | some u =>
      obtain ⟨o,vs,n,e,d⟩:=isSeq q
      rw [hT] at e
      cases e
      cases d
  have hok:HOk P w (tabH T H0) s₁.heap:=fun b u q=>by
    by_cases hbT:b=T
    · subst hbT
      have q:upd H0 b (.tbl #[]) b=some u:=q
      rw [upd_same] at q
      cases q
      exact hT
    · have q:upd H0 T (.tbl #[]) b=some u:=q
      rw [upd_ne hbT] at q
      refine (hok0 b u q).stay (fun _ _ _ r=>r) (fun d r=>?_) fun d xs r=>?_
      · show upd H0 T (.tbl #[]) d=_
        rw [upd_ne (ne_of_none r nT)]
        exact r
      · show upd H0 T (.tbl #[]) d=_
        rw [upd_ne (ne_of_none r nT)]
        exact r
  have noA:∀ {b:Addr} {o:Obj},s₁.heap.get? b=some o→(∀ vs n,o.data≠.seq vs n)→o.cls≠.none→tabH T H0 b=none:=fun {b o} e d c2=>by
    by_cases hbT:b=T
    · subst hbT
      rw [hT] at e
      cases e
      exact absurd rfl c2
    · show upd H0 T (.tbl #[]) b=none
      rw [upd_ne hbT]
      cases q:H0 b with
      | none=>rfl
      | some u =>
        obtain ⟨o',vs,n,e',d'⟩:=isSeq q
        rw [e] at e'
        cases e'
        exact absurd d' (d vs n)
  have noD:∀ {b:Addr} {o:Obj} {es:Array DictEntry} {ep:Nat},s₁.heap.get? b=some o→o.data=.dict es ep→tabH T H0 b=none:=fun {b o es ep} e d=>by
    by_cases hbT:b=T
    · subst hbT
      rw [hT] at e
      cases e
      cases d
    · show upd H0 T (.tbl #[]) b=none
      rw [upd_ne hbT]
      cases q:H0 b with
      | none=>rfl
      | some u =>
        obtain ⟨o',vs,n,e',d'⟩:=isSeq q
        rw [e] at e'
        cases e'
        rw [d] at d'
        cases d'
  have base_of:∀ {b:Addr} {o:Obj},s₁.heap.get? b=some o→tabH T H0 b=none→(hidT s₁.heap (tabH T H0)).get? b=some o:=fun e n=>hidT_get e n
  have nsK:∀ {b:Addr} {m:Str→Option Value},s₁.heap.Ns b m→(hidT s₁.heap (tabH T H0)).Ns b m:=fun {b m} ⟨o,es,ep,e,d,r⟩=>⟨o,es,ep,base_of e (noD e d),d,r⟩
  have nK:∀ b o,K.lookup b=some o→tabH T H0 b=none:=fun b o e=>by
    have hbT:b≠T:=fun z=>by rw [z,hKT] at e; cases e
    show upd H0 T (.tbl #[]) b=none
    rw [upd_ne hbT]
    cases q:H0 b with
    | none=>rfl
    | some u =>
      rw [hK b u q] at e
      cases e
  have hKb:K.In (hidT s₁.heap (tabH T H0)):=fun b o e=>base_of (KX b o e) (nK b o e)
  have hM:Mod K mg (hidT s₁.heap (tabH T H0)):=⟨hKb,nsK hns,⟨mb,nsK hb,hbb⟩,let ⟨mc,h1,h2⟩:=hlim; ⟨mc,nsK h1,h2⟩⟩
  have hC2:CodeHd (hidT s₁.heap (tabH T H0)) c T:=by
    obtain ⟨o,vs,file,tf,flags,tg,inF,text,tt,e,r1,r2,r⟩:=hCd
    exact ⟨o,vs,file,tf,flags,tg,inF,text,tt,base_of e (noA e (fun _ _ z=>by rw [r2] at z; cases z) (by rw [r1]; intro z; cases z)),r1,r2,r⟩
  have hB2:BMain (hidT s₁.heap (tabH T H0)) mg:=by
    obtain ⟨bm,ob,b1,b2,b3,b4,b5,b6⟩:=hbm
    exact ⟨bm,ob,b1,b2,base_of b3 (noA b3 (fun _ _ z=>by rw [b6] at z; cases z) (by rw [b4]; intro z; cases z)),b4,b5,b6⟩
  have e0:Env0 P w K mg (hidT s₁.heap (tabH T H0)) callerA [] s₁ (tabH T H0):=⟨rfl,hM,fun b o e=>of_hidT e,Nat.le_of_eq (hidT_size _ _),trivial,fun b hb=>absurd (show b ∈ ([]:List Addr) from hb) (by simp),hok,.of_eq hg⟩
  have hl:vals.length=ps.length:=by rw [wellAll_len hwl]; exact hlen
  refine codeAny_mono ((F _ hKb (nsK hns) hC2 hB2).run callerA [] s₁ (tabH T H0) ⟨vals,[]⟩ vals (vals.map toV) _ _ hr e0 (hbind s₁ vals hl) hV (hsp H0 _ hO nT hS)) fun r s' x=>?_
  cases r with
  | error e=>exact (hCX (tabH T H0) e s' x).elim
  | ok fl =>
    cases fl with
    | next=>exact False.elim x
    | brk=>exact False.elim x
    | cont=>exact False.elim x
    | ret u =>
      obtain ⟨v,H',os,bare,un,hok',r',q⟩:=x
      have kept:∀ b o,b≠T→s₁.heap.get? b=some o→s'.heap.get? b=some o:=fun b o hbT e=>by
        cases q2:tabH T H0 b with
        | none=>exact un.keep b o e q2 (by intro z; exact absurd (show b ∈ ([]:List Addr) from z) (by simp)) (by simp)
        | some u2 =>
          have q3:upd H0 T (.tbl #[]) b=some u2:=q2
          rw [upd_ne hbT] at q3
          rcases hO b with z | ⟨ob,u3,z⟩
          · rw [q3] at z
            cases z
          · have z1:tabH T H0 b=some (.frz ob u3):=by show upd H0 T (.tbl #[]) b=_; rw [upd_ne hbT]; exact z
            have z2:=un.frzs b ob _ z1
            obtain ⟨e1,_⟩:=hok0 b _ z
            obtain ⟨e2,_⟩:=hok' b _ z2
            rw [e] at e1
            cases e1
            exact e2
      obtain ⟨more,hmore⟩:=un.tbls T #[] (show upd H0 T (.tbl #[]) T=_ from upd_same)
      have hT':s'.heap.get? T=some (tabObj (#[] ++ more)):=hok' T _ hmore
      have KX':K.In s'.heap:=fun b o e=>kept b o (fun z=>by rw [z,hKT] at e; cases e) (KX b o e)
      obtain ⟨as,hrd⟩:=Dw.reads (R:=R) (cl:=cl) hok' KX' d0 v u q r'
      refine ⟨u,as,rfl,hrd,⟨fun b o e=>?_,fun b o e=>?_⟩,os,bare⟩
      · by_cases hbT:b=T
        · subst hbT
          have eo:o=tabObj #[]:=Option.some.inj (e.symm.trans hT)
          subst eo
          exact .inr (.inl ⟨(hCd.tab hT).isCodeTable,rfl,#[],more,rfl,hT'⟩)
        · exact .inl (kept b o hbT e)
      · by_cases hbT:b=T
        · rw [hbT]
          exact ⟨_,hT'⟩
        · exact ⟨o,kept b o hbT e⟩
theorem tabIn_code {K:PySem.W.Frag} {x:Str} {c T f:Addr} {oc:Value} {od:Option Addr} {fd:FuncData} {sl:Array (Option Value)} (h:PySem.W.tabIn K x=some (c,T)) (h1:PySem.W.nsIn K mainGlobals x=some (some (.ref f))) (h2:K.lookup f=some ⟨oc,od,.func fd,sl⟩):fd.code=.ref c:=by
  unfold PySem.W.tabIn at h
  rw [h1] at h
  simp only [h2] at h
  split at h
  · rename_i c' e
    split at h
    · split at h
      · cases h
        exact e
      · cases h
    · cases h
  · cases h
theorem walk_specT {r:OpenSpec} {k:Nat} {q:Program} {loose:List Str} {XP:(Str→Option Value)→Heap→Prop} {YP:World→Heap→Prop} {d:DefRec} {K:Params→PySem.W.Frag} {CX:CXT} {ps:List Str} {sp:PySem.W.Frag→Addr→Sp} {x:Str}
    (hwell:r.wellSaid=true) (hdf:d.params.defaults=[]) (hlen:r.args.length=ps.length) (hr:Room k callerA)
    (hY:∀ (w:World) (h:Heap),YP w h→(K w.params).In h) (hx:((recsOf q).find? (fun e=>e.name == x)).isSome=true) (htab:∀ w:World,(match PySem.W.tabIn (K w.params) x with | some q=>((K w.params).lookup q.2).isNone | none=>false)=true)
    (F:∀ (w:World) (mg:Str→Option Value) (fa:Addr) (h:Heap),YP w h→(K w.params).In h→h.Ns mainGlobals mg→mg d.name=some (.ref fa) →
      ∀ c T:Addr,PySem.W.tabIn (K w.params) x=some (c,T)→∃ fd:FuncData,(∀ (s:Shared) (us:List Value),us.length=ps.length→BindsTo s fd ⟨us,[]⟩ (ps.zip us)) ∧
        ∀ base:Heap,(K w.params).In base→base.Ns mainGlobals mg→CodeHd base c T→BMain base mg→FnOk r.prog w (K w.params) mg base CX k fa fd ps (sp (K w.params) T))
    (hsp:∀ (K:PySem.W.Frag) (T:Addr) (H:Hp) (xs:List V) (a:Codec.denoteAll r.args),OnlyF H→H T=none→Codec.withinAll r.args a=true→Codec.app r.args r.asked a=true→DwAll K H xs (Codec.encAll r.args a) →
      sp K T xs (tabH T H) (fun v H'=>Dw K H' v (r.ret.enc (Codec.app r.args r.f a))) fun _ _ _=>False)
    (hCX:∀ (H:Hp) (s:Shared) (e:Value) (s':Shared),CX [] H s (fun _ _ _=>False) e s'→False) :
    PySem.W.WalkOS q loose XP YP r d [] (fun f vs=>PySem.call f vs):=by
  intro w s_0 s₁ mg mb G Y fa o pm cd doc dV kV ho hd hcd hD hmg hg args vals as hpre hlay hrd hwl hlo
  obtain ⟨a,e1,e2⟩:=PySem.W.os_pre_some hpre
  obtain ⟨e3,hwi⟩:=Codec.encAll_of_decAll r.args args a e1
  subst e3
  have KX:=hY w _ Y
  obtain ⟨dx,hx⟩:=Option.isSome_iff_exists.mp hx
  have ht:=htab w
  cases hq:PySem.W.tabIn (K w.params) x with
  | none =>
    rw [hq] at ht
    exact Bool.noConfusion (show false=true from ht)
  | some cT =>
  obtain ⟨c,T⟩:=cT
  rw [hq] at ht
  have hno:(K w.params).lookup T=none:=Option.isNone_iff_eq_none.mp ht
  obtain ⟨hCd,hT⟩:=PySem.W.tab_of G.T KX hx hq
  obtain ⟨fd,hb,hF⟩:=F w mg fa _ Y KX G.T.g hmg c T hq
  refine PySem.W.enter_call (codeAny_mono (spec_callT (R:=[]) (cl:=classAt s_0.heap) (d0:=r.ret.enc (Codec.app r.args r.f a)) KX G.T.g G.T.b G.T.builtins G.T.nolimit hg hCd hT hno G.T.bmain hwl (pl_encAll _ _) (layable_weight hlay) hr hF hb (by rw [encAll_len]; exact hlen)
    (fun H xs hO hN hS=>hsp (K w.params) T H xs a hO hN hwi e2 hS) fun H e s'=>hCX H s₁ e s') fun r' s' hq=>?_)
  obtain ⟨u,as',rfl,h1,h2,h3,h4⟩:=hq
  exact ⟨.inl ⟨u,_,as',rfl,fun _=>rfl,h1,(OpenSpec.post_iff hwell hwi _ _).mpr rfl,fun z=>Bool.noConfusion (show false=true from z)⟩,h2,h3,h4⟩
end L2
set_option maxHeartbeats 4000000
namespace L2
open PySem PySem.Spec PyProof.Rows
section
variable {prog:Program} {w:World} {A:Around} {R:Result→Shared→Prop} {I S:Addr} {fp wr:List Addr} {n:Nat} {P:Nat→Value→Prop} {St:Nat→Heap→Prop} {kw:List (Str × Value)}
abbrev two (vb:Value) (c:Nat):Obj:={ cls:=.type "list",dict:=none,data:=.seq #[vb,vb] c,slots:=#[] }
abbrev nil0 (c:Nat):Obj:={ cls:=.type "list",dict:=none,data:=.seq #[] c,slots:=#[] }
theorem mx_name:(toString "max" ++ toString ".loop":String) = "max.loop":=by decide
theorem mx_more (W:Walks prog w A.in1 I fp wr n P St) (bt:Nat→Nat→Bool) (cmp:CmpOf prog w A.in1 .Gt P bt) (nS:S ∉ fp) :
    ∀ (k j:Nat) (s:Shared) (vb:Value) (c:Nat),n - (j + 1)=k→j + 1≤n→St (j + 1) s.heap→P (argBest bt j) vb→s.heap.get? S=some (two vb c) →
    (∀ v h' tk,P (argBest bt (n - 1)) v→(∀ b o,b ∉ wr→b≠S→s.heap.get? b=some o→h'.get? b=some o)→R (.ok (.ret v)) { s with heap:=h',toks:=tk }) →
    codeAny (model prog w) A (.builtin "max.loop" ⟨[.ref I,.none,.ref S],kw⟩) R s:=by
  have nW:S ∉ wr:=fun z=>nS (W.sub _ z)
  intro k
  induction k with
  | zero =>
    intro j s vb c ek lj st pb eS fin
    refine codeAny_builtin F.entry_max_loop (Eq.mpr (by rw [Around.under_plainId F.plain_max_loop _]) (?_:wpAny (model prog w) A.in1 (Builtin.«max.loop» ⟨[.ref I,.none,.ref S],kw⟩) _ _ s))
    refine wpAny_bind (m:=seqItems? (.ref S)) (wpAny_seqItems eS rfl (wpAny_bind (wpAny_tryCatch (W.done s _ _ ((show j + 1=n by omega) ▸ st) fun h' tk kp=>?_))))
    have eS2:=kp S _ nW eS
    refine wpAny_bind (m:=updateSeq S _) (wpAny_updateSeq eS2 rfl (wpAny_bind (wpAny_letGo (wpAny_pure (fin vb _ tk ?_ fun b o h1 h2 e=>?_)))))
    · rw [show n - 1=j by omega]
      exact pb
    · exact (Heap.get?_update_other _ _ (Ne.symm h2)).trans (kp b o h1 e)
  | succ k ih =>
    intro j s vb c ek lj st pb eS fin
    have lt:j + 1 < n:=by omega
    refine codeAny_builtin F.entry_max_loop (Eq.mpr (by rw [Around.under_plainId F.plain_max_loop _]) (?_:wpAny (model prog w) A.in1 (Builtin.«max.loop» ⟨[.ref I,.none,.ref S],kw⟩) _ _ s))
    refine wpAny_bind (m:=seqItems? (.ref S)) (wpAny_seqItems eS rfl (wpAny_bind (wpAny_tryCatch (W.item (j + 1) s _ _ lt st fun v h' tk pv st' kp=>?_))))
    have eS2:=kp S _ nW eS
    show wpAny _ A.in1 (tryCatch (holding [v,v] (richCompare .Gt v vb >>= _)) _ >>= _) _ _ _
    refine wpAny_bind (wpAny_tryCatch (wpAny_holding (wpAny_bind (cmp (j + 1) (argBest bt j) v vb _ _ _ pv pb (wpAny_bind (wpAny_holding (wpAny_truthy_bool (wpAny_bind (wpAny_letGo (wpAny_pure ?_))))))))))
    cases e:bt (j + 1) (argBest bt j) with
    | true =>
      simp only [if_true]
      refine wpAny_bind (m:=updateSeq S _) (wpAny_updateSeq eS2 rfl (wpAny_bind (wpAny_letGo ?_)))
      rw [mx_name]
      refine wpAny_pure ⟨plainId_quiet F.plain_max_loop _,ih (j + 1) _ v _ (by omega) lt (W.frame _ _ _ st' fun b hb o q=>?_) (by simp only [argBest,e,if_true]; exact pv) (Heap.get?_update_self _ eS2 rfl) fun v' h2 t2 pv' kp2=>?_⟩
      · exact (Heap.get?_update_other _ _ (fun z:S=b=>nS (by rw [z]; exact hb))).trans q
      · exact fin v' h2 t2 pv' fun b o h1 h3 q=>kp2 b o h1 h3 ((Heap.get?_update_other _ _ (Ne.symm h3)).trans (kp b o h1 q))
    | false =>
      simp only [Bool.false_eq_true,if_false]
      refine wpAny_bind (wpAny_letGo ?_)
      rw [mx_name]
      exact wpAny_pure ⟨plainId_quiet F.plain_max_loop _,ih (j + 1) _ vb c (by omega) lt st' (by simp only [argBest,e,Bool.false_eq_true,if_false]; exact pb) eS2 fun v' h2 t2 pv' kp2=>fin v' h2 t2 pv' fun b o h1 h3 q=>kp2 b o h1 h3 (kp b o h1 q)⟩
theorem mx_first (W:Walks prog w A.in1 I fp wr n P St) (bt:Nat→Nat→Bool) (cmp:CmpOf prog w A.in1 .Gt P bt) (nS:S ∉ fp) (hn:0 < n) {s:Shared} {c:Nat} (st:St 0 s.heap) (eS:s.heap.get? S=some (nil0 c))
    (fin:∀ v h' tk,P (argBest bt (n - 1)) v→(∀ b o,b ∉ wr→b≠S→s.heap.get? b=some o→h'.get? b=some o)→R (.ok (.ret v)) { s with heap:=h',toks:=tk }) :
    codeAny (model prog w) A (.builtin "max.loop" ⟨[.ref I,.none,.ref S],kw⟩) R s:=by
  have nW:S ∉ wr:=fun z=>nS (W.sub _ z)
  refine codeAny_builtin F.entry_max_loop (Eq.mpr (by rw [Around.under_plainId F.plain_max_loop _]) (?_:wpAny (model prog w) A.in1 (Builtin.«max.loop» ⟨[.ref I,.none,.ref S],kw⟩) _ _ s))
  refine wpAny_bind (m:=seqItems? (.ref S)) (wpAny_seqItems eS rfl (wpAny_bind (wpAny_tryCatch (W.item 0 s _ _ hn st fun v h' tk pv st' kp=>?_))))
  have eS2:=kp S _ nW eS
  refine wpAny_bind (m:=updateSeq S _) (wpAny_updateSeq eS2 rfl ?_)
  rw [mx_name]
  refine wpAny_pure ⟨plainId_quiet F.plain_max_loop _,mx_more W bt cmp nS _ 0 _ v _ rfl hn (W.frame _ _ _ st' fun b hb o q=>?_) pv (Heap.get?_update_self _ eS2 rfl) fun v' h2 t2 pv' kp2=>?_⟩
  · exact (Heap.get?_update_other _ _ (fun z:S=b=>nS (by rw [z]; exact hb))).trans q
  · exact fin v' h2 t2 pv' fun b o h1 h3 q=>kp2 b o h1 h3 ((Heap.get?_update_other _ _ (Ne.symm h3)).trans (kp b o h1 q))
theorem mx_none {d:Value} {x:Str} (W:Walks prog w A.in1 I fp wr 0 P St) (nS:S ∉ fp) {s:Shared} {c:Nat} (st:St 0 s.heap) (eS:s.heap.get? S=some (nil0 c))
    (fin:∀ h' tk,(∀ b o,b ∉ wr→s.heap.get? b=some o→h'.get? b=some o)→R (.ok (.ret d)) { s with heap:=h',toks:=tk }) :
    codeAny (model prog w) A (.builtin "max.loop" ⟨[.ref I,.none,.ref S],[(x,d)]⟩) R s:=by
  refine codeAny_builtin F.entry_max_loop (Eq.mpr (by rw [Around.under_plainId F.plain_max_loop _]) (?_:wpAny (model prog w) A.in1 (Builtin.«max.loop» ⟨[.ref I,.none,.ref S],[(x,d)]⟩) _ _ s))
  refine wpAny_bind (m:=seqItems? (.ref S)) (wpAny_seqItems eS rfl (wpAny_bind (wpAny_tryCatch (W.done s _ _ st fun h' tk kp=>?_))))
  exact wpAny_bind (wpAny_rule (wpAny_pure (fin h' tk kp)))
end
theorem mx_args (a d:Value):argsOk "max" ⟨[a],[(Str.ofString "default",d)]⟩:=by unfold argsOk; kernel_rfl
section
variable {prog:Program} {w:World} {A:Around} {E:Value→Shared→Prop} {s:Shared} {l:Addr} {its:List Value} {ns:List Int} {Q:Value→Shared→Prop} {d:Value}
theorem mx_raw (hh:A.handled=none) (hl:s.heap.IsList l its.toArray) (hi:IntsAre its ns)
    (h0:ns=[]→∀ h' tk,(∀ b o,s.heap.get? b=some o→h'.get? b=some o)→Q d { s with heap:=h',toks:=tk })
    (h:∀ h' tk M t',(∀ b o,s.heap.get? b=some o→h'.get? b=some o)→M ∈ ns→(∀ a,a ∈ ns→a≤M)→Q (.int M t') { s with heap:=h',toks:=tk }) :
    wpAny (model prog w) A (call (.builtin "max") [.ref l] [(Str.ofString "default",d)]) Q E s:=by
  obtain ⟨xs,e⟩:=hi.allInts.items
  have hn:numsOf (intItems xs).toList=ns:=(by rw [← e]; exact hi.numsOf)
  rw [nums_intItems] at hn
  subst hn
  rw [e] at hl
  refine wpAny_call (codeAny_call_builtin F.plain_max F.entry_max ?_)
  have fin:wpAny (model prog w) A.in1 (Builtin.«max» ⟨[.ref l],[(Str.ofString "default",d)]⟩) (fun fin s'=>match fin with
      | .done f=>(match (Except.ok f:Result) with | .ok (.ret v)=>Q v s' | .ok _=>False | .error e=>E e s')
      | .again c'=>c'.quiet=true∧codeAny (model prog w) A c' (fun r s'=>match r with | .ok (.ret v)=>Q v s' | .ok _=>False | .error e=>E e s') s') E s:=by
    show wpAny _ A.in1 (Builtin.Builtins.bindParams "max" ["key","default"] 0 ⟨[],[(Str.ofString "default",d)]⟩ >>= _) _ _ s
    refine wpAny_bind (wpAny_of_eq (show Builtin.Builtins.bindParams "max" ["key","default"] 0 ⟨[],[(Str.ofString "default",d)]⟩=pure [none,some d] from rfl) (wpAny_bind (wpAny_pure (wpAny_bind (iter_intList hl fun s₂ es st hfp hlI=>?_)))))
    subst es
    refine wpAny_bind (wpAny_newObj_type ?_)
    have W:=Walks.list (prog:=prog) (w:=w) (A:=A.in1.in1) hh s.heap.objs.size l hlI (intItems xs)
    have W1:=W.of_in1
    have nS:(s.heap.push { cls:=.type "list_iterator",data:=.fields #[.ref l,.int 0 0] }).objs.size ∉ [s.heap.objs.size,l]:=fun hm=>Nat.lt_irrefl _ (hfp _ hm)
    rw [mx_name]
    refine wpAny_pure ⟨plainId_quiet F.plain_max_loop _,?_⟩
    have st2:=W1.frame 0 _ ((s.heap.push { cls:=.type "list_iterator",data:=.fields #[.ref l,.int 0 0] }).push (nil0 0)) st fun b _ o q=>Heap.get?_push_of_some _ q
    by_cases hx:xs.size=0
    · have e0:(intItems xs).size=0:=by simpa [intItems] using hx
      have W0:Walks prog w A.in1 s.heap.objs.size [s.heap.objs.size,l] [s.heap.objs.size] 0 (fun i v=>(intItems xs)[i]?=some v) (fun i h=>h.IsListIter s.heap.objs.size l i∧h.IsList l (intItems xs)):=e0 ▸ W1
      refine mx_none W0 nS st2 (Heap.get?_push_size _ rfl) fun h' tk kp=>h0 ?_ h' tk fun b o q=>kp b o ?_ (Heap.get?_push_of_some _ (Heap.get?_push_of_some _ q))
      · apply List.eq_nil_of_length_eq_zero
        rw [List.length_map,Array.length_toList]
        exact hx
      · simp only [List.mem_singleton]
        exact Nat.ne_of_lt (Heap.lt_size q)
    · refine mx_first W1 (fun i j=>decide (numAt xs i > numAt xs j)) (CmpOf.ints_gt (numAt xs) (fun _ _=>intItems_at)) nS (by simpa [intItems] using Nat.pos_of_ne_zero hx) st2 (Heap.get?_push_size _ rfl) fun v h' tk hP kp=>?_
      obtain ⟨t,rfl⟩:=intItems_at hP
      have sz:(intItems xs).size=xs.size:=by simp [intItems]
      rw [sz]
      obtain ⟨h1,h2⟩:=argBest_gt (numAt xs) (xs.size - 1)
      refine h h' tk _ t (fun b o q=>kp b o ?_ ?_ (Heap.get?_push_of_some _ (Heap.get?_push_of_some _ q))) ?_ fun a ha=>?_
      · simp only [List.mem_singleton]
        exact Nat.ne_of_lt (Heap.lt_size q)
      · exact Nat.ne_of_lt (Nat.lt_of_lt_of_le (Heap.lt_size q) (by rw [Heap.size_push]; exact Nat.le_succ _))
      · rw [numAt_eq]
        exact PySem.getD_mem (by rw [List.length_map,Array.length_toList]; omega)
      · obtain ⟨j,hj,rfl⟩:=mem_getD ha
        rw [List.length_map,Array.length_toList] at hj
        rw [← numAt_eq]
        exact h2 j (by omega)
  simp only [checkBuiltinCall,F.kind_max]
  cases hsig:Manifest.signature? "max" with
  | none=>exact wpAny_pure fin
  | some sig =>
    have ha':Bind.checkArgs "max" sig ⟨[.ref l],[(Str.ofString "default",d)]⟩=pure ():=by simpa only [argsOk,hsig] using mx_args (.ref l) d
    simp only [ha']
    exact wpAny_pure fin
end
def tMaxD (K:PySem.W.Frag) (te:TE) (n:Int):TE:=fun σ H Q=>te σ H fun x H1=>∃ (a:Addr) (ns:List Int),x=.ref a∧SqL K H1 a (ns.map V.int)∧∀ m,(ns=[]→m=n)→(ns≠[]→m ∈ ns∧∀ y,y ∈ ns→y≤m)→Q (.int m) H1
theorem pe_maxD {X:Cx} {K:PySem.W.Frag} {e:Expr} {te:TE} {n:Int} {j:Nat} {p pos kpos cpos:Pos} (he:PE X e te) (hm:X.mg "max" = none) (hg:Gl X "max":=by rfl) (hc:X.calm=true:=by rfl) (hs:starEach [e] X.env=[(false,eval e X.env)]:=by rfl) (hK:X.K=K:=by rfl) :
    PE X (.Call (.Name "max" p) [e] [⟨some (Str.ofString "default"),.Constant (.int n) j cpos,kpos⟩] pos) (tMaxD K te n):=by
  subst hK
  intro pins s σ H Q I h
  refine wpAny_Call_Name_kw (ld_blt I hg hm boot_max ?_)
  have ha:PA X [e] (tCons te tNil):=pa_cons he pa_nil (by rw [hs]; rfl)
  refine callWith_kw (thn (ha pos pins s σ H (fun vs H1=>match vs with | [x]=>∃ (a:Addr) (ns:List Int),x=.ref a∧SqL X.K H1 a (ns.map V.int)∧∀ m,(ns=[]→m=n)→(ns≠[]→m ∈ ns∧∀ y,y ∈ ns→y≤m)→Q (.int m) H1 | _=>False) I h) fun us s1 ⟨vs,H1,I1,r1,q1⟩=>kws_cons ?_) (by rw [hs]; rfl) (by rw [hs]; rfl)
  match vs,q1 with
  | [x],q1 =>
  obtain ⟨a,ns,rfl,hl,q⟩:=q1
  have eus:us=[Value.ref a]:=by
    cases r1 with
    | cons r t=>cases t; cases r; rfl
  subst eus
  refine wpAny_Constant_int (kws_nil ?_)
  have I2:=I1.tok (s1.toks + 1)
  obtain ⟨its,rv,hpl,_⟩:=I2.list hl
  refine mx_raw (I.ok.hd hc) hpl.isList rv.ints (fun z h' tk hk=>⟨.int n,H1,I2.kept hk,⟨_,rfl⟩,q n (fun _=>rfl) (fun y=>absurd z y)⟩) fun h' tk M t' hk h1 h2=>⟨.int M,H1,I2.kept hk,⟨_,rfl⟩,q M (fun z=>by rw [z] at h1; cases h1) (fun _=>⟨h1,h2⟩)⟩
end L2
set_option maxHeartbeats 4000000
namespace L2
open PySem PySem.Spec PyProof.Rows
theorem vals_ix:∀ {xs:List V} {us:List Value},xs.length=us.length→(∀ (j:Nat) (x:V) (u:Value),xs[j]?=some x→us[j]?=some u→RelV x u)→Vals xs us
  | [],[],_,_=>.nil
  | x::xs,u::us,hl,h=>.cons (h 0 x u rfl rfl) (vals_ix (Nat.succ.inj hl) fun j a b ha hb=>h (j + 1) a b ha hb)
  | [],_::_,hl,_=>nomatch hl
  | _::_,[],hl,_=>nomatch hl
theorem call_listD {X:Cx} (hc:X.calm=true:=by rfl):CallR X (.type "list") (fun xs H Q=>∃ (a:Addr) (kvs:List (Key × V)),xs=[V.ref a]∧H a=some (.dK kvs)∧∀ l,H l=none→Q (.ref l) (upd H l (.lst (kvs.map fun p=>kV p.1)))):=by
  intro pins s σ H xs us Q I r h
  obtain ⟨a,kvs,rfl,ha,q⟩:=h
  obtain ⟨u,rfl,ru⟩:=vals1 r
  cases ru
  obtain ⟨z,lo,vs,rel,dd⟩:=dk_of I.hok ha
  obtain ⟨ep,hat⟩:=dd.dictAt
  have hlen:kvs.length=vs.length:=Paired.length rel
  refine PySem.W.kdl_call (PySem.W.kdl_dict (knd:=mixKind X.prog X.w) (kvs:=vs) (ep:=ep) lo) (I.ok.hd hc) hat (by rw [← hlen]; exact z) fun h' tk acc c hk hD hi=>?_
  have hv:Vals (kvs.map fun p=>kV p.1) acc.toList:=by
    refine vals_ix (by have el:acc.toList.length=acc.size:=Array.length_toList; rw [List.length_map,el,hi.1,hlen]) fun j x w' hx hw=>?_
    rw [Array.getElem?_toList] at hw
    obtain ⟨k,x',hkx,hkv⟩:=hi.2 j w' hw
    rw [List.getElem?_map] at hx
    cases e:kvs[j]? with
    | none=>rw [e] at hx; cases hx
    | some p =>
      rw [e] at hx
      have hx:=Option.some.inj hx
      subst hx
      obtain ⟨b,hb,e1,_⟩:=paired_get rel e
      rw [hkx] at hb
      have hb:=Option.some.inj hb
      subst hb
      have e1:p.1=k:=e1
      show RelV (kV p.1) w'
      rw [e1]
      rcases keyIs_shape (k:=k) (v:=w') hkv with ⟨n,t,rfl,rfl⟩ | ⟨n,t,rfl,rfl⟩
      · exact ⟨t,rfl⟩
      · exact ⟨t,rfl⟩
  refine ⟨.ref s.heap.objs.size,_,I.laid (t':=tk) hk (Nat.le_refl _) (show ObjOk X.prog X.w _ h' _ (.lst (kvs.map fun p=>kV p.1)) from ⟨by rw [List.length_map]; exact z,acc.toList,c,hv,by rw [Array.toArray_toList]; exact hD⟩),rfl,q _ I.fresh⟩
end L2
set_option maxHeartbeats 4000000
namespace WP
open PySem PySem.Spec PyProof.Rows L2
def top (i:Nat):Stmt:=PySem.Challenge.pw_wirepower_s01_answers.main.body.getD i (.Pass ⟨0,0,0,0⟩)
abbrev s_bag_is_full:Stmt:=top 4
abbrev s_put:Stmt:=top 5
abbrev s_is_for_device:Stmt:=top 7
abbrev s_is_for_port:Stmt:=top 8
abbrev s_handle_grant:Stmt:=top 9
abbrev s_handle_taken:Stmt:=top 10
abbrev s_handle_wish:Stmt:=top 11
abbrev s_deliver:Stmt:=top 13
abbrev s_deliver_all:Stmt:=top 14
abbrev s_Supply__init__:Stmt:=inClass (top 18) 0
abbrev s_Device__init__:Stmt:=inClass (top 19) 0
abbrev s_Port__init__:Stmt:=inClass (top 20) 0
abbrev s_World__init__:Stmt:=inClass (top 21) 0
abbrev s_base_of:Stmt:=top 22
abbrev s_amounts_on:Stmt:=top 23
abbrev s_can_give:Stmt:=top 24
abbrev s_may_give:Stmt:=top 25
abbrev s_reserved_at:Stmt:=top 26
abbrev s_all_reserved:Stmt:=top 27
abbrev s_drawn_at:Stmt:=top 28
abbrev s_all_drawn:Stmt:=top 29
abbrev s_all_energy:Stmt:=top 30
abbrev s_order_of_ports:Stmt:=top 31
abbrev s_restart_device:Stmt:=top 34
abbrev s_cut:Stmt:=top 35
abbrev s_light:Stmt:=top 36
abbrev s_latest_amount:Stmt:=top 37
abbrev s_tell:Stmt:=top 38
abbrev s_give:Stmt:=top 39
abbrev s_ask:Stmt:=top 40
abbrev s_is_fit:Stmt:=top 42
abbrev s_surplus_wished:Stmt:=top 43
abbrev s_make_plan:Stmt:=top 44
abbrev s_lower_port:Stmt:=top 45
abbrev s_has_room_to_light:Stmt:=top 46
abbrev s_has_room_for:Stmt:=top 47
abbrev s_raise_port:Stmt:=top 48
abbrev s_settle_ports:Stmt:=top 49
abbrev s_is_within:Stmt:=top 53
abbrev s_ends_of:Stmt:=top 54
abbrev s_are_in_range:Stmt:=top 55
abbrev s_can_begin:Stmt:=top 56
abbrev s_power_view:Stmt:=top 58
abbrev s_port_view:Stmt:=top 59
abbrev s_device_view:Stmt:=top 60
abbrev s_plan_view:Stmt:=top 61
abbrev s_state_view:Stmt:=top 62
abbrev s_Line__init__:Stmt:=inClass (top 71) 0
abbrev s_begin:Stmt:=top 72
abbrev s_cut_what_is_too_much:Stmt:=top 73
abbrev s_answer_supply:Stmt:=top 74
abbrev s_answer_spare:Stmt:=top 75
abbrev s_answer_port:Stmt:=top 76
abbrev s_answer_plug:Stmt:=top 77
abbrev s_answer_unplug:Stmt:=top 78
abbrev s_answer_settle:Stmt:=top 79
abbrev s_refusal_of_unlit:Stmt:=top 80
abbrev s_answer_wish:Stmt:=top 81
abbrev s_answer_draw:Stmt:=top 82
abbrev s_answer_fault:Stmt:=top 83
abbrev s_answer_clear:Stmt:=top 84
abbrev s_answer_again:Stmt:=top 85
abbrev s_answer_deliver:Stmt:=top 86
abbrev s_answer_lose:Stmt:=top 87
abbrev s_answer_double:Stmt:=top 88
abbrev s_answer_calm:Stmt:=top 89
abbrev s_answer_tick:Stmt:=top 90
abbrev s_answer_look:Stmt:=top 91
abbrev s_answer_device:Stmt:=top 92
abbrev s_answer_power:Stmt:=top 93
abbrev s_answer_plan:Stmt:=top 94
abbrev s_answer_peek:Stmt:=top 95
abbrev s_answer_state:Stmt:=top 96
abbrev s_answer:Stmt:=top 98
abbrev s_answers:Stmt:=top 100
theorem sc_bag_is_full:FnScope ["world"] ["world"] (defScope s_bag_is_full):=⟨rfl,rfl,rfl,by decide +kernel,rfl,by decide +kernel,by decide +kernel⟩
theorem sc_put:FnScope ["world","message"] ["world","message"] (defScope s_put):=⟨rfl,rfl,rfl,by decide +kernel,rfl,by decide +kernel,by decide +kernel⟩
theorem sc_is_for_device:FnScope ["port","message","device"] ["port","message"] (defScope s_is_for_device):=⟨rfl,rfl,rfl,by decide +kernel,rfl,by decide +kernel,by decide +kernel⟩
theorem sc_is_for_port:FnScope ["port","message"] ["port","message"] (defScope s_is_for_port):=⟨rfl,rfl,rfl,by decide +kernel,rfl,by decide +kernel,by decide +kernel⟩
theorem sc_handle_grant:FnScope ["world","message","port","device"] ["world","message"] (defScope s_handle_grant):=⟨rfl,rfl,rfl,by decide +kernel,rfl,by decide +kernel,by decide +kernel⟩
theorem sc_handle_taken:FnScope ["world","message","port","grant"] ["world","message"] (defScope s_handle_taken):=⟨rfl,rfl,rfl,by decide +kernel,rfl,by decide +kernel,by decide +kernel⟩
theorem sc_handle_wish:FnScope ["world","message","port"] ["world","message"] (defScope s_handle_wish):=⟨rfl,rfl,rfl,by decide +kernel,rfl,by decide +kernel,by decide +kernel⟩
theorem sc_deliver:FnScope ["world","place","message"] ["world","place"] (defScope s_deliver):=⟨rfl,rfl,rfl,by decide +kernel,rfl,by decide +kernel,by decide +kernel⟩
theorem sc_deliver_all:FnScope ["world","count"] ["world"] (defScope s_deliver_all):=⟨rfl,rfl,rfl,by decide +kernel,rfl,by decide +kernel,by decide +kernel⟩
theorem sc_Supply__init__:FnScope ["self","amount"] ["self","amount"] (defScope s_Supply__init__):=⟨rfl,rfl,rfl,by decide +kernel,rfl,by decide +kernel,by decide +kernel⟩
theorem sc_Device__init__:FnScope ["self","power_class"] ["self","power_class"] (defScope s_Device__init__):=⟨rfl,rfl,rfl,by decide +kernel,rfl,by decide +kernel,by decide +kernel⟩
theorem sc_Port__init__:FnScope ["self","place"] ["self","place"] (defScope s_Port__init__):=⟨rfl,rfl,rfl,by decide +kernel,rfl,by decide +kernel,by decide +kernel⟩
theorem sc_World__init__:FnScope ["self","port_count","cap","spare","amounts","amount","place"] ["self","port_count","cap","spare","amounts"] (defScope s_World__init__):=⟨rfl,rfl,rfl,by decide +kernel,rfl,by decide +kernel,by decide +kernel⟩
theorem sc_base_of:FnScope ["device"] ["device"] (defScope s_base_of):=⟨rfl,rfl,rfl,by decide +kernel,rfl,by decide +kernel,by decide +kernel⟩
theorem sc_amounts_on:FnScope ["world","supply"] ["world"] (defScope s_amounts_on):=⟨rfl,rfl,rfl,by decide +kernel,rfl,by decide +kernel,by decide +kernel⟩
theorem sc_can_give:FnScope ["world"] ["world"] (defScope s_can_give):=⟨rfl,rfl,rfl,by decide +kernel,rfl,by decide +kernel,by decide +kernel⟩
theorem sc_may_give:FnScope ["world"] ["world"] (defScope s_may_give):=⟨rfl,rfl,rfl,by decide +kernel,rfl,by decide +kernel,by decide +kernel⟩
theorem sc_reserved_at:FnScope ["port","grant"] ["port"] (defScope s_reserved_at):=⟨rfl,rfl,rfl,by decide +kernel,rfl,by decide +kernel,by decide +kernel⟩
theorem sc_all_reserved:FnScope ["world","port"] ["world"] (defScope s_all_reserved):=⟨rfl,rfl,rfl,by decide +kernel,rfl,by decide +kernel,by decide +kernel⟩
theorem sc_drawn_at:FnScope ["port"] ["port"] (defScope s_drawn_at):=⟨rfl,rfl,rfl,by decide +kernel,rfl,by decide +kernel,by decide +kernel⟩
theorem sc_all_drawn:FnScope ["world","port"] ["world"] (defScope s_all_drawn):=⟨rfl,rfl,rfl,by decide +kernel,rfl,by decide +kernel,by decide +kernel⟩
theorem sc_all_energy:FnScope ["world","port"] ["world"] (defScope s_all_energy):=⟨rfl,rfl,rfl,by decide +kernel,rfl,by decide +kernel,by decide +kernel⟩
theorem sc_order_of_ports:FnScope ["world"] ["world"] (defScope s_order_of_ports):=⟨rfl,rfl,rfl,by decide +kernel,rfl,by decide +kernel,by decide +kernel⟩
theorem sc_restart_device:FnScope ["device","session","limit"] ["device","session","limit"] (defScope s_restart_device):=⟨rfl,rfl,rfl,by decide +kernel,rfl,by decide +kernel,by decide +kernel⟩
theorem sc_cut:FnScope ["port"] ["port"] (defScope s_cut):=⟨rfl,rfl,rfl,by decide +kernel,rfl,by decide +kernel,by decide +kernel⟩
theorem sc_light:FnScope ["port","base"] ["port"] (defScope s_light):=⟨rfl,rfl,rfl,by decide +kernel,rfl,by decide +kernel,by decide +kernel⟩
theorem sc_latest_amount:FnScope ["port"] ["port"] (defScope s_latest_amount):=⟨rfl,rfl,rfl,by decide +kernel,rfl,by decide +kernel,by decide +kernel⟩
theorem sc_tell:FnScope ["world","port"] ["world","port"] (defScope s_tell):=⟨rfl,rfl,rfl,by decide +kernel,rfl,by decide +kernel,by decide +kernel⟩
theorem sc_give:FnScope ["world","port","amount"] ["world","port","amount"] (defScope s_give):=⟨rfl,rfl,rfl,by decide +kernel,rfl,by decide +kernel,by decide +kernel⟩
theorem sc_ask:FnScope ["world","port","amount","device"] ["world","port","amount"] (defScope s_ask):=⟨rfl,rfl,rfl,by decide +kernel,rfl,by decide +kernel,by decide +kernel⟩
theorem sc_is_fit:FnScope ["port"] ["port"] (defScope s_is_fit):=⟨rfl,rfl,rfl,by decide +kernel,rfl,by decide +kernel,by decide +kernel⟩
theorem sc_surplus_wished:FnScope ["port"] ["port"] (defScope s_surplus_wished):=⟨rfl,rfl,rfl,by decide +kernel,rfl,by decide +kernel,by decide +kernel⟩
theorem sc_make_plan:FnScope ["world","left","planned","port","place","surplus"] ["world"] (defScope s_make_plan):=⟨rfl,rfl,rfl,by decide +kernel,rfl,by decide +kernel,by decide +kernel⟩
theorem sc_lower_port:FnScope ["world","port","planned"] ["world","port","planned"] (defScope s_lower_port):=⟨rfl,rfl,rfl,by decide +kernel,rfl,by decide +kernel,by decide +kernel⟩
theorem sc_has_room_to_light:FnScope ["world","port"] ["world","port"] (defScope s_has_room_to_light):=⟨rfl,rfl,rfl,by decide +kernel,rfl,by decide +kernel,by decide +kernel⟩
theorem sc_has_room_for:FnScope ["world","port","amount","others"] ["world","port","amount"] (defScope s_has_room_for):=⟨rfl,rfl,rfl,by decide +kernel,rfl,by decide +kernel,by decide +kernel⟩
theorem sc_raise_port:FnScope ["world","port","amount"] ["world","port","amount"] (defScope s_raise_port):=⟨rfl,rfl,rfl,by decide +kernel,rfl,by decide +kernel,by decide +kernel⟩
theorem sc_settle_ports:FnScope ["world","planned","port","place"] ["world"] (defScope s_settle_ports):=⟨rfl,rfl,rfl,by decide +kernel,rfl,by decide +kernel,by decide +kernel⟩
theorem sc_is_within:FnScope ["number","ends"] ["number","ends"] (defScope s_is_within):=⟨rfl,rfl,rfl,by decide +kernel,rfl,by decide +kernel,by decide +kernel⟩
theorem sc_ends_of:FnScope ["world","name"] ["world","name"] (defScope s_ends_of):=⟨rfl,rfl,rfl,by decide +kernel,rfl,by decide +kernel,by decide +kernel⟩
theorem sc_are_in_range:FnScope ["world","place","numbers","number","name"] ["world","place","numbers"] (defScope s_are_in_range):=⟨rfl,rfl,rfl,by decide +kernel,rfl,by decide +kernel,by decide +kernel⟩
theorem sc_can_begin:FnScope ["numbers","amounts","amount"] ["numbers"] (defScope s_can_begin):=⟨rfl,rfl,rfl,by decide +kernel,rfl,by decide +kernel,by decide +kernel⟩
theorem sc_power_view:FnScope ["world"] ["world"] (defScope s_power_view):=⟨rfl,rfl,rfl,by decide +kernel,rfl,by decide +kernel,by decide +kernel⟩
theorem sc_port_view:FnScope ["port","shown","grant"] ["port"] (defScope s_port_view):=⟨rfl,rfl,rfl,by decide +kernel,rfl,by decide +kernel,by decide +kernel⟩
theorem sc_device_view:FnScope ["device"] ["device"] (defScope s_device_view):=⟨rfl,rfl,rfl,by decide +kernel,rfl,by decide +kernel,by decide +kernel⟩
theorem sc_plan_view:FnScope ["world","planned","shown","place"] ["world"] (defScope s_plan_view):=⟨rfl,rfl,rfl,by decide +kernel,rfl,by decide +kernel,by decide +kernel⟩
theorem sc_state_view:FnScope ["world"] ["world"] (defScope s_state_view):=⟨rfl,rfl,rfl,by decide +kernel,rfl,by decide +kernel,by decide +kernel⟩
theorem sc_Line__init__:FnScope ["self"] ["self"] (defScope s_Line__init__):=⟨rfl,rfl,rfl,by decide +kernel,rfl,by decide +kernel,by decide +kernel⟩
theorem sc_begin:FnScope ["line","numbers"] ["line","numbers"] (defScope s_begin):=⟨rfl,rfl,rfl,by decide +kernel,rfl,by decide +kernel,by decide +kernel⟩
theorem sc_cut_what_is_too_much:FnScope ["world","port"] ["world"] (defScope s_cut_what_is_too_much):=⟨rfl,rfl,rfl,by decide +kernel,rfl,by decide +kernel,by decide +kernel⟩
theorem sc_answer_supply:FnScope ["world","numbers","supply"] ["world","numbers"] (defScope s_answer_supply):=⟨rfl,rfl,rfl,by decide +kernel,rfl,by decide +kernel,by decide +kernel⟩
theorem sc_answer_spare:FnScope ["world","numbers"] ["world","numbers"] (defScope s_answer_spare):=⟨rfl,rfl,rfl,by decide +kernel,rfl,by decide +kernel,by decide +kernel⟩
theorem sc_answer_port:FnScope ["world","numbers","port"] ["world","numbers"] (defScope s_answer_port):=⟨rfl,rfl,rfl,by decide +kernel,rfl,by decide +kernel,by decide +kernel⟩
theorem sc_answer_plug:FnScope ["world","numbers","port"] ["world","numbers"] (defScope s_answer_plug):=⟨rfl,rfl,rfl,by decide +kernel,rfl,by decide +kernel,by decide +kernel⟩
theorem sc_answer_unplug:FnScope ["world","numbers","port"] ["world","numbers"] (defScope s_answer_unplug):=⟨rfl,rfl,rfl,by decide +kernel,rfl,by decide +kernel,by decide +kernel⟩
theorem sc_answer_settle:FnScope ["world","numbers"] ["world","numbers"] (defScope s_answer_settle):=⟨rfl,rfl,rfl,by decide +kernel,rfl,by decide +kernel,by decide +kernel⟩
theorem sc_refusal_of_unlit:FnScope ["port"] ["port"] (defScope s_refusal_of_unlit):=⟨rfl,rfl,rfl,by decide +kernel,rfl,by decide +kernel,by decide +kernel⟩
theorem sc_answer_wish:FnScope ["world","numbers","port","refusal"] ["world","numbers"] (defScope s_answer_wish):=⟨rfl,rfl,rfl,by decide +kernel,rfl,by decide +kernel,by decide +kernel⟩
theorem sc_answer_draw:FnScope ["world","numbers","port","refusal","device"] ["world","numbers"] (defScope s_answer_draw):=⟨rfl,rfl,rfl,by decide +kernel,rfl,by decide +kernel,by decide +kernel⟩
theorem sc_answer_fault:FnScope ["world","numbers","port","refusal"] ["world","numbers"] (defScope s_answer_fault):=⟨rfl,rfl,rfl,by decide +kernel,rfl,by decide +kernel,by decide +kernel⟩
theorem sc_answer_clear:FnScope ["world","numbers","port"] ["world","numbers"] (defScope s_answer_clear):=⟨rfl,rfl,rfl,by decide +kernel,rfl,by decide +kernel,by decide +kernel⟩
theorem sc_answer_again:FnScope ["world","numbers","port"] ["world","numbers"] (defScope s_answer_again):=⟨rfl,rfl,rfl,by decide +kernel,rfl,by decide +kernel,by decide +kernel⟩
theorem sc_answer_deliver:FnScope ["world","numbers"] ["world","numbers"] (defScope s_answer_deliver):=⟨rfl,rfl,rfl,by decide +kernel,rfl,by decide +kernel,by decide +kernel⟩
theorem sc_answer_lose:FnScope ["world","numbers"] ["world","numbers"] (defScope s_answer_lose):=⟨rfl,rfl,rfl,by decide +kernel,rfl,by decide +kernel,by decide +kernel⟩
theorem sc_answer_double:FnScope ["world","numbers"] ["world","numbers"] (defScope s_answer_double):=⟨rfl,rfl,rfl,by decide +kernel,rfl,by decide +kernel,by decide +kernel⟩
theorem sc_answer_calm:FnScope ["world","numbers"] ["world","numbers"] (defScope s_answer_calm):=⟨rfl,rfl,rfl,by decide +kernel,rfl,by decide +kernel,by decide +kernel⟩
theorem sc_answer_tick:FnScope ["world","numbers","passed","port"] ["world","numbers"] (defScope s_answer_tick):=⟨rfl,rfl,rfl,by decide +kernel,rfl,by decide +kernel,by decide +kernel⟩
theorem sc_answer_look:FnScope ["world","numbers"] ["world","numbers"] (defScope s_answer_look):=⟨rfl,rfl,rfl,by decide +kernel,rfl,by decide +kernel,by decide +kernel⟩
theorem sc_answer_device:FnScope ["world","numbers","device"] ["world","numbers"] (defScope s_answer_device):=⟨rfl,rfl,rfl,by decide +kernel,rfl,by decide +kernel,by decide +kernel⟩
theorem sc_answer_power:FnScope ["world","numbers"] ["world","numbers"] (defScope s_answer_power):=⟨rfl,rfl,rfl,by decide +kernel,rfl,by decide +kernel,by decide +kernel⟩
theorem sc_answer_plan:FnScope ["world","numbers"] ["world","numbers"] (defScope s_answer_plan):=⟨rfl,rfl,rfl,by decide +kernel,rfl,by decide +kernel,by decide +kernel⟩
theorem sc_answer_peek:FnScope ["world","numbers"] ["world","numbers"] (defScope s_answer_peek):=⟨rfl,rfl,rfl,by decide +kernel,rfl,by decide +kernel,by decide +kernel⟩
theorem sc_answer_state:FnScope ["world","numbers"] ["world","numbers"] (defScope s_answer_state):=⟨rfl,rfl,rfl,by decide +kernel,rfl,by decide +kernel,by decide +kernel⟩
theorem sc_answer:FnScope ["line","place","numbers"] ["line","place","numbers"] (defScope s_answer):=⟨rfl,rfl,rfl,by decide +kernel,rfl,by decide +kernel,by decide +kernel⟩
theorem sc_answers:FnScope ["calls","line","answered","at","count","row"] ["calls"] (defScope s_answers):=⟨rfl,rfl,rfl,by decide +kernel,rfl,by decide +kernel,by decide +kernel⟩
def lPos:Pos:=⟨113,35,113,57⟩
def lQual:Str:=("order_of_ports":Str) ++ ".<locals>." ++ "<lambda>"
abbrev VW:=Vbcnam.World
abbrev VP:=Vbcnam.Port
abbrev VD:=Vbcnam.Device
abbrev VS:=Vbcnam.Supply
abbrev VM:=Vbcnam.Msg
abbrev VG:=Vbcnam.Grant
abbrev bt:=Vbcnam.bit
def supF (x:VS):List (Str × V):=[("amount",.int x.watts),("on",.int (bt x.on))]
def supN:List Str:=["amount","on"]
theorem supF_len (x:VS):(supF x).length < 1000:=by show 2 < 1000; decide
theorem supF_amount (x:VS):(supF x).lookup ("amount":Str)=some (.int x.watts):=by kernel_rfl
theorem supF_on (x:VS):(supF x).lookup ("on":Str)=some (.int (bt x.on)):=by kernel_rfl
theorem supF_put_on (x:VS) (b:Bool):putF "on" (.int (bt b)) (supF x)=supF { x with on:=b }:=by kernel_rfl
def devF (x:VD):List (Str × V):=[("power_class",.int x.cls),("session",.int x.session),("number",.int x.number),("limit",.int x.limit),("draws",.int x.draws),("asked",.int x.asked)]
def devN:List Str:=["power_class","session","number","limit","draws","asked"]
theorem devF_len (x:VD):(devF x).length < 1000:=by show 6 < 1000; decide
theorem devF_power_class (x:VD):(devF x).lookup ("power_class":Str)=some (.int x.cls):=by kernel_rfl
theorem devF_session (x:VD):(devF x).lookup ("session":Str)=some (.int x.session):=by kernel_rfl
theorem devF_put_session (x:VD) (n:Nat):putF "session" (.int n) (devF x)=devF { x with session:=n }:=by kernel_rfl
theorem devF_number (x:VD):(devF x).lookup ("number":Str)=some (.int x.number):=by kernel_rfl
theorem devF_put_number (x:VD) (n:Nat):putF "number" (.int n) (devF x)=devF { x with number:=n }:=by kernel_rfl
theorem devF_limit (x:VD):(devF x).lookup ("limit":Str)=some (.int x.limit):=by kernel_rfl
theorem devF_put_limit (x:VD) (n:Nat):putF "limit" (.int n) (devF x)=devF { x with limit:=n }:=by kernel_rfl
theorem devF_draws (x:VD):(devF x).lookup ("draws":Str)=some (.int x.draws):=by kernel_rfl
theorem devF_put_draws (x:VD) (n:Nat):putF "draws" (.int n) (devF x)=devF { x with draws:=n }:=by kernel_rfl
theorem devF_asked (x:VD):(devF x).lookup ("asked":Str)=some (.int x.asked):=by kernel_rfl
theorem devF_put_asked (x:VD) (n:Nat):putF "asked" (.int n) (devF x)=devF { x with asked:=n }:=by kernel_rfl
def portF (i:Nat) (x:VP) (g:Addr) (d:V):List (Str × V):=[("place",.int i),("enabled",.int (bt x.enabled)),("rank",.int x.rank),("most",.int x.most),("faulty",.int (bt x.faulty)),("on",.int (bt x.on)),("session",.int x.session),("number",.int x.number),("grants",.ref g),("wish_number",.int x.wish.number),("wish_amount",.int x.wish.watts),("energy",.int x.energy),("device",d)]
def portN:List Str:=["place","enabled","rank","most","faulty","on","session","number","grants","wish_number","wish_amount","energy","device"]
theorem portF_len (i:Nat) (x:VP) (g:Addr) (d:V):(portF i x g d).length < 1000:=by show 13 < 1000; decide
theorem portF_place (i:Nat) (x:VP) (g:Addr) (d:V):(portF i x g d).lookup ("place":Str)=some (.int i):=by kernel_rfl
theorem portF_enabled (i:Nat) (x:VP) (g:Addr) (d:V):(portF i x g d).lookup ("enabled":Str)=some (.int (bt x.enabled)):=by kernel_rfl
theorem portF_put_enabled (i:Nat) (x:VP) (g:Addr) (d:V) (b:Bool):putF "enabled" (.int (bt b)) (portF i x g d)=portF i { x with enabled:=b } g d:=by kernel_rfl
theorem portF_rank (i:Nat) (x:VP) (g:Addr) (d:V):(portF i x g d).lookup ("rank":Str)=some (.int x.rank):=by kernel_rfl
theorem portF_put_rank (i:Nat) (x:VP) (g:Addr) (d:V) (n:Nat):putF "rank" (.int n) (portF i x g d)=portF i { x with rank:=n } g d:=by kernel_rfl
theorem portF_most (i:Nat) (x:VP) (g:Addr) (d:V):(portF i x g d).lookup ("most":Str)=some (.int x.most):=by kernel_rfl
theorem portF_put_most (i:Nat) (x:VP) (g:Addr) (d:V) (n:Nat):putF "most" (.int n) (portF i x g d)=portF i { x with most:=n } g d:=by kernel_rfl
theorem portF_faulty (i:Nat) (x:VP) (g:Addr) (d:V):(portF i x g d).lookup ("faulty":Str)=some (.int (bt x.faulty)):=by kernel_rfl
theorem portF_put_faulty (i:Nat) (x:VP) (g:Addr) (d:V) (b:Bool):putF "faulty" (.int (bt b)) (portF i x g d)=portF i { x with faulty:=b } g d:=by kernel_rfl
theorem portF_on (i:Nat) (x:VP) (g:Addr) (d:V):(portF i x g d).lookup ("on":Str)=some (.int (bt x.on)):=by kernel_rfl
theorem portF_put_on (i:Nat) (x:VP) (g:Addr) (d:V) (b:Bool):putF "on" (.int (bt b)) (portF i x g d)=portF i { x with on:=b } g d:=by kernel_rfl
theorem portF_session (i:Nat) (x:VP) (g:Addr) (d:V):(portF i x g d).lookup ("session":Str)=some (.int x.session):=by kernel_rfl
theorem portF_put_session (i:Nat) (x:VP) (g:Addr) (d:V) (n:Nat):putF "session" (.int n) (portF i x g d)=portF i { x with session:=n } g d:=by kernel_rfl
theorem portF_number (i:Nat) (x:VP) (g:Addr) (d:V):(portF i x g d).lookup ("number":Str)=some (.int x.number):=by kernel_rfl
theorem portF_put_number (i:Nat) (x:VP) (g:Addr) (d:V) (n:Nat):putF "number" (.int n) (portF i x g d)=portF i { x with number:=n } g d:=by kernel_rfl
theorem portF_grants (i:Nat) (x:VP) (g:Addr) (d:V):(portF i x g d).lookup ("grants":Str)=some (.ref g):=by kernel_rfl
theorem portF_put_grants (i:Nat) (x:VP) (g:Addr) (d:V) (g':Addr):putF "grants" (.ref g') (portF i x g d)=portF i x g' d:=by kernel_rfl
theorem portF_wish_number (i:Nat) (x:VP) (g:Addr) (d:V):(portF i x g d).lookup ("wish_number":Str)=some (.int x.wish.number):=by kernel_rfl
theorem portF_put_wish_number (i:Nat) (x:VP) (g:Addr) (d:V) (n:Nat):putF "wish_number" (.int n) (portF i x g d)=portF i { x with wish:={ x.wish with number:=n } } g d:=by kernel_rfl
theorem portF_wish_amount (i:Nat) (x:VP) (g:Addr) (d:V):(portF i x g d).lookup ("wish_amount":Str)=some (.int x.wish.watts):=by kernel_rfl
theorem portF_put_wish_amount (i:Nat) (x:VP) (g:Addr) (d:V) (n:Nat):putF "wish_amount" (.int n) (portF i x g d)=portF i { x with wish:={ x.wish with watts:=n } } g d:=by kernel_rfl
theorem portF_energy (i:Nat) (x:VP) (g:Addr) (d:V):(portF i x g d).lookup ("energy":Str)=some (.int x.energy):=by kernel_rfl
theorem portF_put_energy (i:Nat) (x:VP) (g:Addr) (d:V) (n:Nat):putF "energy" (.int n) (portF i x g d)=portF i { x with energy:=n } g d:=by kernel_rfl
theorem portF_device (i:Nat) (x:VP) (g:Addr) (d:V):(portF i x g d).lookup ("device":Str)=some (d):=by kernel_rfl
theorem portF_put_device (i:Nat) (x:VP) (g:Addr) (d:V) (d':V):putF "device" (d') (portF i x g d)=portF i x g d':=by kernel_rfl
def worldF (w:VW) (sl pl bg:Addr):List (Str × V):=[("now",.int w.now),("could",.int w.could),("cap",.int w.cap),("spare",.int (bt w.spare)),("supplies",.ref sl),("ports",.ref pl),("bag",.ref bg)]
def worldN:List Str:=["now","could","cap","spare","supplies","ports","bag"]
theorem worldF_len (w:VW) (sl pl bg:Addr):(worldF w sl pl bg).length < 1000:=by show 7 < 1000; decide
theorem worldF_now (w:VW) (sl pl bg:Addr):(worldF w sl pl bg).lookup ("now":Str)=some (.int w.now):=by kernel_rfl
theorem worldF_put_now (w:VW) (sl pl bg:Addr) (n:Nat):putF "now" (.int n) (worldF w sl pl bg)=worldF { w with now:=n } sl pl bg:=by kernel_rfl
theorem worldF_could (w:VW) (sl pl bg:Addr):(worldF w sl pl bg).lookup ("could":Str)=some (.int w.could):=by kernel_rfl
theorem worldF_put_could (w:VW) (sl pl bg:Addr) (n:Nat):putF "could" (.int n) (worldF w sl pl bg)=worldF { w with could:=n } sl pl bg:=by kernel_rfl
theorem worldF_cap (w:VW) (sl pl bg:Addr):(worldF w sl pl bg).lookup ("cap":Str)=some (.int w.cap):=by kernel_rfl
theorem worldF_spare (w:VW) (sl pl bg:Addr):(worldF w sl pl bg).lookup ("spare":Str)=some (.int (bt w.spare)):=by kernel_rfl
theorem worldF_put_spare (w:VW) (sl pl bg:Addr) (b:Bool):putF "spare" (.int (bt b)) (worldF w sl pl bg)=worldF { w with spare:=b } sl pl bg:=by kernel_rfl
theorem worldF_supplies (w:VW) (sl pl bg:Addr):(worldF w sl pl bg).lookup ("supplies":Str)=some (.ref sl):=by kernel_rfl
theorem worldF_ports (w:VW) (sl pl bg:Addr):(worldF w sl pl bg).lookup ("ports":Str)=some (.ref pl):=by kernel_rfl
theorem worldF_bag (w:VW) (sl pl bg:Addr):(worldF w sl pl bg).lookup ("bag":Str)=some (.ref bg):=by kernel_rfl
def lineF (v:V):List (Str × V):=[("world",v)]
def lineN:List Str:=["world"]
theorem lineF_len (v:V):(lineF v).length < 1000:=by show 1 < 1000; decide
theorem lineF_world (v:V):(lineF v).lookup ("world":Str)=some (v):=by kernel_rfl
theorem lineF_put_world (v:V) (v':V):putF "world" (v') (lineF v)=lineF v':=by kernel_rfl
def noAttrs (K:PySem.W.Frag) (C:Addr) (fs:List Str):Bool:=fs.all fun f=>match PySem.W.findIn K (.ref C) f with | some none=>true | _=>false
theorem na {K:PySem.W.Frag} {C:Addr} {fs:List Str} (h:noAttrs K C fs=true) {f:Str} (hf:fs.contains f=true):NoAttr K C f:=by
  have q:=List.all_eq_true.mp h f (by simpa using hf)
  unfold NoAttr
  revert q
  cases e:PySem.W.findIn K (.ref C) f with
  | none=>intro q; exact Bool.noConfusion (show false=true from q)
  | some v =>
    cases v with
    | none=>intro _; rfl
    | some u=>intro q; exact Bool.noConfusion (show false=true from q)
structure Cas where
  CW:Addr
  CS:Addr
  CP:Addr
  CD:Addr
  CL:Addr
  T:Addr
  c:Addr
structure Txt (K:PySem.W.Frag) (mg:Str→Option Value) (t:Cas):Prop where
  cl_world:Cls K t.CW
  na_world:noAttrs K t.CW worldN=true
  cl_sup:Cls K t.CS
  na_sup:noAttrs K t.CS supN=true
  cl_port:Cls K t.CP
  na_port:noAttrs K t.CP portN=true
  cl_dev:Cls K t.CD
  na_dev:noAttrs K t.CD devN=true
  cl_line:Cls K t.CL
  na_line:noAttrs K t.CL lineN=true
  mg_World:mg "World" = some (.ref t.CW)
  mg_Supply:mg "Supply" = some (.ref t.CS)
  mg_Port:mg "Port" = some (.ref t.CP)
  mg_Device:mg "Device" = some (.ref t.CD)
  mg_Line:mg "Line" = some (.ref t.CL)
  b_len:mg "len" = none
  b_max:mg "max" = none
  b_min:mg "min" = none
  b_sum:mg "sum" = none
  b_all:mg "all" = none
  b_sorted:mg "sorted" = none
  b_reversed:mg "reversed" = none
  b_zip:mg "zip" = none
  b_range:mg "range" = none
  b_list:mg "list" = none
  i_FIRST_MOST:∃ t,mg "FIRST_MOST" = some (.int (30000) t)
  i_MOST_GRANTS:∃ t,mg "MOST_GRANTS" = some (.int (8) t)
  i_GRANT_MESSAGE:∃ t,mg "GRANT_MESSAGE" = some (.int (0) t)
  i_TAKEN_MESSAGE:∃ t,mg "TAKEN_MESSAGE" = some (.int (1) t)
  i_WISH_MESSAGE:∃ t,mg "WISH_MESSAGE" = some (.int (2) t)
  i_OUT_OF_RANGE:∃ t,mg "OUT_OF_RANGE" = some (.int (-1) t)
  i_WRONG_STATE:∃ t,mg "WRONG_STATE" = some (.int (-2) t)
  i_PORT_OFF:∃ t,mg "PORT_OFF" = some (.int (-3) t)
  i_BAG_FULL:∃ t,mg "BAG_FULL" = some (.int (-4) t)
  i_NO_WORLD:∃ t,mg "NO_WORLD" = some (.int (-9) t)
  i_BEGIN:∃ t,mg "BEGIN" = some (.int (0) t)
  i_LAST_MOMENT:∃ t,mg "LAST_MOMENT" = some (.int (100000000) t)
  bases:∃ a,mg "BASES" = some (.ref a)∧∀ H:Hp,SqT K H a [.int 0,.int 4000,.int 7000,.int 15400,.int 30000]
def RF (K:PySem.W.Frag) (f:Str) (x:V) (H:Hp) (Q:V→Prop):Prop:=∃ a C dx fs v,x=.ref a∧H a=some (.ins C dx fs)∧Cls K C∧NoAttr K C f∧fs.lookup f=some v∧Q v
def WF (K:PySem.W.Frag) (f:Str) (y x:V) (H:Hp) (N:Hp→Prop):Prop:=∃ a C dx fs,x=.ref a∧H a=some (.ins C dx fs)∧Cls K C∧NoAttr K C f∧fs.length < 1000∧N (upd H a (.ins C dx (putF f y fs)))
def RFa (K:PySem.W.Frag) (f:Str) (x:V) (H:Hp) (Q:Addr→Addr→V→Prop):Prop:=∃ a C dx fs v,x=.ref a∧H a=some (.ins C dx fs)∧Cls K C∧NoAttr K C f∧fs.lookup f=some v∧Q a C v
section
variable {K:PySem.W.Frag} {mg:Str→Option Value} {t:Cas} {H:Hp} {p dx:Addr} {Q:V→Prop} {N:Hp→Prop}
theorem r_sup_amount (T:Txt K mg t) {x:VS} (hp:H p=some (.ins t.CS dx (supF x))) (q:Q (.int x.watts)):RF K "amount" (.ref p) H Q:=⟨p,t.CS,dx,_,_,rfl,hp,T.cl_sup,na T.na_sup (by decide +kernel),supF_amount _,q⟩
theorem r_sup_on (T:Txt K mg t) {x:VS} (hp:H p=some (.ins t.CS dx (supF x))) (q:Q (.int (bt x.on))):RF K "on" (.ref p) H Q:=⟨p,t.CS,dx,_,_,rfl,hp,T.cl_sup,na T.na_sup (by decide +kernel),supF_on _,q⟩
theorem w_sup_on (T:Txt K mg t) {x:VS} {b:Bool} {y:V} (hp:H p=some (.ins t.CS dx (supF x))) (hy:y=.int (bt b)) (q:N (upd H p (.ins t.CS dx (supF { x with on:=b })))):WF K "on" y (.ref p) H N:=by
  subst hy
  refine ⟨p,t.CS,dx,_,rfl,hp,T.cl_sup,na T.na_sup (by decide +kernel),supF_len ..,?_⟩
  rw [supF_put_on]
  exact q
theorem r_dev_power_class (T:Txt K mg t) {x:VD} (hp:H p=some (.ins t.CD dx (devF x))) (q:Q (.int x.cls)):RF K "power_class" (.ref p) H Q:=⟨p,t.CD,dx,_,_,rfl,hp,T.cl_dev,na T.na_dev (by decide +kernel),devF_power_class _,q⟩
theorem r_dev_session (T:Txt K mg t) {x:VD} (hp:H p=some (.ins t.CD dx (devF x))) (q:Q (.int x.session)):RF K "session" (.ref p) H Q:=⟨p,t.CD,dx,_,_,rfl,hp,T.cl_dev,na T.na_dev (by decide +kernel),devF_session _,q⟩
theorem w_dev_session (T:Txt K mg t) {x:VD} {n:Nat} {y:V} (hp:H p=some (.ins t.CD dx (devF x))) (hy:y=.int n) (q:N (upd H p (.ins t.CD dx (devF { x with session:=n })))):WF K "session" y (.ref p) H N:=by
  subst hy
  refine ⟨p,t.CD,dx,_,rfl,hp,T.cl_dev,na T.na_dev (by decide +kernel),devF_len ..,?_⟩
  rw [devF_put_session]
  exact q
theorem r_dev_number (T:Txt K mg t) {x:VD} (hp:H p=some (.ins t.CD dx (devF x))) (q:Q (.int x.number)):RF K "number" (.ref p) H Q:=⟨p,t.CD,dx,_,_,rfl,hp,T.cl_dev,na T.na_dev (by decide +kernel),devF_number _,q⟩
theorem w_dev_number (T:Txt K mg t) {x:VD} {n:Nat} {y:V} (hp:H p=some (.ins t.CD dx (devF x))) (hy:y=.int n) (q:N (upd H p (.ins t.CD dx (devF { x with number:=n })))):WF K "number" y (.ref p) H N:=by
  subst hy
  refine ⟨p,t.CD,dx,_,rfl,hp,T.cl_dev,na T.na_dev (by decide +kernel),devF_len ..,?_⟩
  rw [devF_put_number]
  exact q
theorem r_dev_limit (T:Txt K mg t) {x:VD} (hp:H p=some (.ins t.CD dx (devF x))) (q:Q (.int x.limit)):RF K "limit" (.ref p) H Q:=⟨p,t.CD,dx,_,_,rfl,hp,T.cl_dev,na T.na_dev (by decide +kernel),devF_limit _,q⟩
theorem w_dev_limit (T:Txt K mg t) {x:VD} {n:Nat} {y:V} (hp:H p=some (.ins t.CD dx (devF x))) (hy:y=.int n) (q:N (upd H p (.ins t.CD dx (devF { x with limit:=n })))):WF K "limit" y (.ref p) H N:=by
  subst hy
  refine ⟨p,t.CD,dx,_,rfl,hp,T.cl_dev,na T.na_dev (by decide +kernel),devF_len ..,?_⟩
  rw [devF_put_limit]
  exact q
theorem r_dev_draws (T:Txt K mg t) {x:VD} (hp:H p=some (.ins t.CD dx (devF x))) (q:Q (.int x.draws)):RF K "draws" (.ref p) H Q:=⟨p,t.CD,dx,_,_,rfl,hp,T.cl_dev,na T.na_dev (by decide +kernel),devF_draws _,q⟩
theorem w_dev_draws (T:Txt K mg t) {x:VD} {n:Nat} {y:V} (hp:H p=some (.ins t.CD dx (devF x))) (hy:y=.int n) (q:N (upd H p (.ins t.CD dx (devF { x with draws:=n })))):WF K "draws" y (.ref p) H N:=by
  subst hy
  refine ⟨p,t.CD,dx,_,rfl,hp,T.cl_dev,na T.na_dev (by decide +kernel),devF_len ..,?_⟩
  rw [devF_put_draws]
  exact q
theorem r_dev_asked (T:Txt K mg t) {x:VD} (hp:H p=some (.ins t.CD dx (devF x))) (q:Q (.int x.asked)):RF K "asked" (.ref p) H Q:=⟨p,t.CD,dx,_,_,rfl,hp,T.cl_dev,na T.na_dev (by decide +kernel),devF_asked _,q⟩
theorem rx_dev_asked (T:Txt K mg t) {x:VD} {Q:Addr→Addr→V→Prop} (hp:H p=some (.ins t.CD dx (devF x))) (q:Q p t.CD (.int x.asked)):RFa K "asked" (.ref p) H Q:=⟨p,t.CD,dx,_,_,rfl,hp,T.cl_dev,na T.na_dev (by decide +kernel),devF_asked ..,q⟩
theorem w_dev_asked (T:Txt K mg t) {x:VD} {n:Nat} {y:V} (hp:H p=some (.ins t.CD dx (devF x))) (hy:y=.int n) (q:N (upd H p (.ins t.CD dx (devF { x with asked:=n })))):WF K "asked" y (.ref p) H N:=by
  subst hy
  refine ⟨p,t.CD,dx,_,rfl,hp,T.cl_dev,na T.na_dev (by decide +kernel),devF_len ..,?_⟩
  rw [devF_put_asked]
  exact q
theorem r_port_place (T:Txt K mg t) {i:Nat} {x:VP} {g:Addr} {d:V} (hp:H p=some (.ins t.CP dx (portF i x g d))) (q:Q (.int i)):RF K "place" (.ref p) H Q:=⟨p,t.CP,dx,_,_,rfl,hp,T.cl_port,na T.na_port (by decide +kernel),portF_place _ _ _ _,q⟩
theorem r_port_enabled (T:Txt K mg t) {i:Nat} {x:VP} {g:Addr} {d:V} (hp:H p=some (.ins t.CP dx (portF i x g d))) (q:Q (.int (bt x.enabled))):RF K "enabled" (.ref p) H Q:=⟨p,t.CP,dx,_,_,rfl,hp,T.cl_port,na T.na_port (by decide +kernel),portF_enabled _ _ _ _,q⟩
theorem w_port_enabled (T:Txt K mg t) {i:Nat} {x:VP} {g:Addr} {d:V} {b:Bool} {y:V} (hp:H p=some (.ins t.CP dx (portF i x g d))) (hy:y=.int (bt b)) (q:N (upd H p (.ins t.CP dx (portF i { x with enabled:=b } g d)))):WF K "enabled" y (.ref p) H N:=by
  subst hy
  refine ⟨p,t.CP,dx,_,rfl,hp,T.cl_port,na T.na_port (by decide +kernel),portF_len ..,?_⟩
  rw [portF_put_enabled]
  exact q
theorem r_port_rank (T:Txt K mg t) {i:Nat} {x:VP} {g:Addr} {d:V} (hp:H p=some (.ins t.CP dx (portF i x g d))) (q:Q (.int x.rank)):RF K "rank" (.ref p) H Q:=⟨p,t.CP,dx,_,_,rfl,hp,T.cl_port,na T.na_port (by decide +kernel),portF_rank _ _ _ _,q⟩
theorem w_port_rank (T:Txt K mg t) {i:Nat} {x:VP} {g:Addr} {d:V} {n:Nat} {y:V} (hp:H p=some (.ins t.CP dx (portF i x g d))) (hy:y=.int n) (q:N (upd H p (.ins t.CP dx (portF i { x with rank:=n } g d)))):WF K "rank" y (.ref p) H N:=by
  subst hy
  refine ⟨p,t.CP,dx,_,rfl,hp,T.cl_port,na T.na_port (by decide +kernel),portF_len ..,?_⟩
  rw [portF_put_rank]
  exact q
theorem r_port_most (T:Txt K mg t) {i:Nat} {x:VP} {g:Addr} {d:V} (hp:H p=some (.ins t.CP dx (portF i x g d))) (q:Q (.int x.most)):RF K "most" (.ref p) H Q:=⟨p,t.CP,dx,_,_,rfl,hp,T.cl_port,na T.na_port (by decide +kernel),portF_most _ _ _ _,q⟩
theorem w_port_most (T:Txt K mg t) {i:Nat} {x:VP} {g:Addr} {d:V} {n:Nat} {y:V} (hp:H p=some (.ins t.CP dx (portF i x g d))) (hy:y=.int n) (q:N (upd H p (.ins t.CP dx (portF i { x with most:=n } g d)))):WF K "most" y (.ref p) H N:=by
  subst hy
  refine ⟨p,t.CP,dx,_,rfl,hp,T.cl_port,na T.na_port (by decide +kernel),portF_len ..,?_⟩
  rw [portF_put_most]
  exact q
theorem r_port_faulty (T:Txt K mg t) {i:Nat} {x:VP} {g:Addr} {d:V} (hp:H p=some (.ins t.CP dx (portF i x g d))) (q:Q (.int (bt x.faulty))):RF K "faulty" (.ref p) H Q:=⟨p,t.CP,dx,_,_,rfl,hp,T.cl_port,na T.na_port (by decide +kernel),portF_faulty _ _ _ _,q⟩
theorem w_port_faulty (T:Txt K mg t) {i:Nat} {x:VP} {g:Addr} {d:V} {b:Bool} {y:V} (hp:H p=some (.ins t.CP dx (portF i x g d))) (hy:y=.int (bt b)) (q:N (upd H p (.ins t.CP dx (portF i { x with faulty:=b } g d)))):WF K "faulty" y (.ref p) H N:=by
  subst hy
  refine ⟨p,t.CP,dx,_,rfl,hp,T.cl_port,na T.na_port (by decide +kernel),portF_len ..,?_⟩
  rw [portF_put_faulty]
  exact q
theorem r_port_on (T:Txt K mg t) {i:Nat} {x:VP} {g:Addr} {d:V} (hp:H p=some (.ins t.CP dx (portF i x g d))) (q:Q (.int (bt x.on))):RF K "on" (.ref p) H Q:=⟨p,t.CP,dx,_,_,rfl,hp,T.cl_port,na T.na_port (by decide +kernel),portF_on _ _ _ _,q⟩
theorem w_port_on (T:Txt K mg t) {i:Nat} {x:VP} {g:Addr} {d:V} {b:Bool} {y:V} (hp:H p=some (.ins t.CP dx (portF i x g d))) (hy:y=.int (bt b)) (q:N (upd H p (.ins t.CP dx (portF i { x with on:=b } g d)))):WF K "on" y (.ref p) H N:=by
  subst hy
  refine ⟨p,t.CP,dx,_,rfl,hp,T.cl_port,na T.na_port (by decide +kernel),portF_len ..,?_⟩
  rw [portF_put_on]
  exact q
theorem r_port_session (T:Txt K mg t) {i:Nat} {x:VP} {g:Addr} {d:V} (hp:H p=some (.ins t.CP dx (portF i x g d))) (q:Q (.int x.session)):RF K "session" (.ref p) H Q:=⟨p,t.CP,dx,_,_,rfl,hp,T.cl_port,na T.na_port (by decide +kernel),portF_session _ _ _ _,q⟩
theorem rx_port_session (T:Txt K mg t) {i:Nat} {x:VP} {g:Addr} {d:V} {Q:Addr→Addr→V→Prop} (hp:H p=some (.ins t.CP dx (portF i x g d))) (q:Q p t.CP (.int x.session)):RFa K "session" (.ref p) H Q:=⟨p,t.CP,dx,_,_,rfl,hp,T.cl_port,na T.na_port (by decide +kernel),portF_session ..,q⟩
theorem r_port_number (T:Txt K mg t) {i:Nat} {x:VP} {g:Addr} {d:V} (hp:H p=some (.ins t.CP dx (portF i x g d))) (q:Q (.int x.number)):RF K "number" (.ref p) H Q:=⟨p,t.CP,dx,_,_,rfl,hp,T.cl_port,na T.na_port (by decide +kernel),portF_number _ _ _ _,q⟩
theorem rx_port_number (T:Txt K mg t) {i:Nat} {x:VP} {g:Addr} {d:V} {Q:Addr→Addr→V→Prop} (hp:H p=some (.ins t.CP dx (portF i x g d))) (q:Q p t.CP (.int x.number)):RFa K "number" (.ref p) H Q:=⟨p,t.CP,dx,_,_,rfl,hp,T.cl_port,na T.na_port (by decide +kernel),portF_number ..,q⟩
theorem w_port_number (T:Txt K mg t) {i:Nat} {x:VP} {g:Addr} {d:V} {n:Nat} {y:V} (hp:H p=some (.ins t.CP dx (portF i x g d))) (hy:y=.int n) (q:N (upd H p (.ins t.CP dx (portF i { x with number:=n } g d)))):WF K "number" y (.ref p) H N:=by
  subst hy
  refine ⟨p,t.CP,dx,_,rfl,hp,T.cl_port,na T.na_port (by decide +kernel),portF_len ..,?_⟩
  rw [portF_put_number]
  exact q
theorem r_port_grants (T:Txt K mg t) {i:Nat} {x:VP} {g:Addr} {d:V} (hp:H p=some (.ins t.CP dx (portF i x g d))) (q:Q (.ref g)):RF K "grants" (.ref p) H Q:=⟨p,t.CP,dx,_,_,rfl,hp,T.cl_port,na T.na_port (by decide +kernel),portF_grants _ _ _ _,q⟩
theorem w_port_grants (T:Txt K mg t) {i:Nat} {x:VP} {g:Addr} {d:V} {g':Addr} {y:V} (hp:H p=some (.ins t.CP dx (portF i x g d))) (hy:y=.ref g') (q:N (upd H p (.ins t.CP dx (portF i x g' d)))):WF K "grants" y (.ref p) H N:=by
  subst hy
  refine ⟨p,t.CP,dx,_,rfl,hp,T.cl_port,na T.na_port (by decide +kernel),portF_len ..,?_⟩
  rw [portF_put_grants]
  exact q
theorem r_port_wish_number (T:Txt K mg t) {i:Nat} {x:VP} {g:Addr} {d:V} (hp:H p=some (.ins t.CP dx (portF i x g d))) (q:Q (.int x.wish.number)):RF K "wish_number" (.ref p) H Q:=⟨p,t.CP,dx,_,_,rfl,hp,T.cl_port,na T.na_port (by decide +kernel),portF_wish_number _ _ _ _,q⟩
theorem w_port_wish_number (T:Txt K mg t) {i:Nat} {x:VP} {g:Addr} {d:V} {n:Nat} {y:V} (hp:H p=some (.ins t.CP dx (portF i x g d))) (hy:y=.int n) (q:N (upd H p (.ins t.CP dx (portF i { x with wish:={ x.wish with number:=n } } g d)))):WF K "wish_number" y (.ref p) H N:=by
  subst hy
  refine ⟨p,t.CP,dx,_,rfl,hp,T.cl_port,na T.na_port (by decide +kernel),portF_len ..,?_⟩
  rw [portF_put_wish_number]
  exact q
theorem r_port_wish_amount (T:Txt K mg t) {i:Nat} {x:VP} {g:Addr} {d:V} (hp:H p=some (.ins t.CP dx (portF i x g d))) (q:Q (.int x.wish.watts)):RF K "wish_amount" (.ref p) H Q:=⟨p,t.CP,dx,_,_,rfl,hp,T.cl_port,na T.na_port (by decide +kernel),portF_wish_amount _ _ _ _,q⟩
theorem w_port_wish_amount (T:Txt K mg t) {i:Nat} {x:VP} {g:Addr} {d:V} {n:Nat} {y:V} (hp:H p=some (.ins t.CP dx (portF i x g d))) (hy:y=.int n) (q:N (upd H p (.ins t.CP dx (portF i { x with wish:={ x.wish with watts:=n } } g d)))):WF K "wish_amount" y (.ref p) H N:=by
  subst hy
  refine ⟨p,t.CP,dx,_,rfl,hp,T.cl_port,na T.na_port (by decide +kernel),portF_len ..,?_⟩
  rw [portF_put_wish_amount]
  exact q
theorem r_port_energy (T:Txt K mg t) {i:Nat} {x:VP} {g:Addr} {d:V} (hp:H p=some (.ins t.CP dx (portF i x g d))) (q:Q (.int x.energy)):RF K "energy" (.ref p) H Q:=⟨p,t.CP,dx,_,_,rfl,hp,T.cl_port,na T.na_port (by decide +kernel),portF_energy _ _ _ _,q⟩
theorem rx_port_energy (T:Txt K mg t) {i:Nat} {x:VP} {g:Addr} {d:V} {Q:Addr→Addr→V→Prop} (hp:H p=some (.ins t.CP dx (portF i x g d))) (q:Q p t.CP (.int x.energy)):RFa K "energy" (.ref p) H Q:=⟨p,t.CP,dx,_,_,rfl,hp,T.cl_port,na T.na_port (by decide +kernel),portF_energy ..,q⟩
theorem r_port_device (T:Txt K mg t) {i:Nat} {x:VP} {g:Addr} {d:V} (hp:H p=some (.ins t.CP dx (portF i x g d))) (q:Q (d)):RF K "device" (.ref p) H Q:=⟨p,t.CP,dx,_,_,rfl,hp,T.cl_port,na T.na_port (by decide +kernel),portF_device _ _ _ _,q⟩
theorem w_port_device (T:Txt K mg t) {i:Nat} {x:VP} {g:Addr} {d:V} {d':V} {y:V} (hp:H p=some (.ins t.CP dx (portF i x g d))) (hy:y=d') (q:N (upd H p (.ins t.CP dx (portF i x g d')))):WF K "device" y (.ref p) H N:=by
  subst hy
  refine ⟨p,t.CP,dx,_,rfl,hp,T.cl_port,na T.na_port (by decide +kernel),portF_len ..,?_⟩
  rw [portF_put_device]
  exact q
theorem r_world_now (T:Txt K mg t) {w:VW} {sl pl bg:Addr} (hp:H p=some (.ins t.CW dx (worldF w sl pl bg))) (q:Q (.int w.now)):RF K "now" (.ref p) H Q:=⟨p,t.CW,dx,_,_,rfl,hp,T.cl_world,na T.na_world (by decide +kernel),worldF_now _ _ _ _,q⟩
theorem rx_world_now (T:Txt K mg t) {w:VW} {sl pl bg:Addr} {Q:Addr→Addr→V→Prop} (hp:H p=some (.ins t.CW dx (worldF w sl pl bg))) (q:Q p t.CW (.int w.now)):RFa K "now" (.ref p) H Q:=⟨p,t.CW,dx,_,_,rfl,hp,T.cl_world,na T.na_world (by decide +kernel),worldF_now ..,q⟩
theorem r_world_could (T:Txt K mg t) {w:VW} {sl pl bg:Addr} (hp:H p=some (.ins t.CW dx (worldF w sl pl bg))) (q:Q (.int w.could)):RF K "could" (.ref p) H Q:=⟨p,t.CW,dx,_,_,rfl,hp,T.cl_world,na T.na_world (by decide +kernel),worldF_could _ _ _ _,q⟩
theorem rx_world_could (T:Txt K mg t) {w:VW} {sl pl bg:Addr} {Q:Addr→Addr→V→Prop} (hp:H p=some (.ins t.CW dx (worldF w sl pl bg))) (q:Q p t.CW (.int w.could)):RFa K "could" (.ref p) H Q:=⟨p,t.CW,dx,_,_,rfl,hp,T.cl_world,na T.na_world (by decide +kernel),worldF_could ..,q⟩
theorem r_world_cap (T:Txt K mg t) {w:VW} {sl pl bg:Addr} (hp:H p=some (.ins t.CW dx (worldF w sl pl bg))) (q:Q (.int w.cap)):RF K "cap" (.ref p) H Q:=⟨p,t.CW,dx,_,_,rfl,hp,T.cl_world,na T.na_world (by decide +kernel),worldF_cap _ _ _ _,q⟩
theorem r_world_spare (T:Txt K mg t) {w:VW} {sl pl bg:Addr} (hp:H p=some (.ins t.CW dx (worldF w sl pl bg))) (q:Q (.int (bt w.spare))):RF K "spare" (.ref p) H Q:=⟨p,t.CW,dx,_,_,rfl,hp,T.cl_world,na T.na_world (by decide +kernel),worldF_spare _ _ _ _,q⟩
theorem w_world_spare (T:Txt K mg t) {w:VW} {sl pl bg:Addr} {b:Bool} {y:V} (hp:H p=some (.ins t.CW dx (worldF w sl pl bg))) (hy:y=.int (bt b)) (q:N (upd H p (.ins t.CW dx (worldF { w with spare:=b } sl pl bg)))):WF K "spare" y (.ref p) H N:=by
  subst hy
  refine ⟨p,t.CW,dx,_,rfl,hp,T.cl_world,na T.na_world (by decide +kernel),worldF_len ..,?_⟩
  rw [worldF_put_spare]
  exact q
theorem r_world_supplies (T:Txt K mg t) {w:VW} {sl pl bg:Addr} (hp:H p=some (.ins t.CW dx (worldF w sl pl bg))) (q:Q (.ref sl)):RF K "supplies" (.ref p) H Q:=⟨p,t.CW,dx,_,_,rfl,hp,T.cl_world,na T.na_world (by decide +kernel),worldF_supplies _ _ _ _,q⟩
theorem r_world_ports (T:Txt K mg t) {w:VW} {sl pl bg:Addr} (hp:H p=some (.ins t.CW dx (worldF w sl pl bg))) (q:Q (.ref pl)):RF K "ports" (.ref p) H Q:=⟨p,t.CW,dx,_,_,rfl,hp,T.cl_world,na T.na_world (by decide +kernel),worldF_ports _ _ _ _,q⟩
theorem r_world_bag (T:Txt K mg t) {w:VW} {sl pl bg:Addr} (hp:H p=some (.ins t.CW dx (worldF w sl pl bg))) (q:Q (.ref bg)):RF K "bag" (.ref p) H Q:=⟨p,t.CW,dx,_,_,rfl,hp,T.cl_world,na T.na_world (by decide +kernel),worldF_bag _ _ _ _,q⟩
theorem r_line_world (T:Txt K mg t) {v:V} (hp:H p=some (.ins t.CL dx (lineF v))) (q:Q (v)):RF K "world" (.ref p) H Q:=⟨p,t.CL,dx,_,_,rfl,hp,T.cl_line,na T.na_line (by decide +kernel),lineF_world _,q⟩
theorem w_line_world (T:Txt K mg t) {v:V} {v':V} {y:V} (hp:H p=some (.ins t.CL dx (lineF v))) (hy:y=v') (q:N (upd H p (.ins t.CL dx (lineF v')))):WF K "world" y (.ref p) H N:=by
  subst hy
  refine ⟨p,t.CL,dx,_,rfl,hp,T.cl_line,na T.na_line (by decide +kernel),lineF_len ..,?_⟩
  rw [lineF_put_world]
  exact q
end
def Known (P:Program) (w:PySem.World) (K:PySem.W.Frag) (mg:Str→Option Value) (base:Heap) (x:Str) (k:Nat) (ps:List Str) (sp:Sp):Prop :=
  ∃ f fd,FnOk P w K mg base CX0 k f fd ps sp∧mg x=some (.ref f)∧PySem.W.keepIn K (.ref f)=true∧Binds K fd ps []
def KnownC (P:Program) (w:PySem.World) (K:PySem.W.Frag) (mg:Str→Option Value) (base:Heap) (x:Str) (C:Addr) (k:Nat) (ps:List Str) (sp:Sp):Prop :=
  ∃ f fd,FnOk P w K mg base CX0 k f fd ps sp∧mg x=some (.ref C)∧Mk K C f∧Binds K fd ps []
section
variable {X:Cx} {x:Str} {k:Nat} {ps:List Str} {sp:Sp} {p pos:Pos} {e:Expr} {es:List Expr} {t:TA} {C:Addr}
def tF (sp:Sp) (t:TA):TE:=fun σ H Q=>t σ H fun vs H1=>sp vs H1 Q E0
theorem pe_f (F:Known X.prog X.w X.K X.mg X.base x k ps sp) (hr:Room k X.A) (ha:PA X (e::es) t) (hg:Gl X x:=by rfl) (hdb:(x == ("__debug__":Str))=false:=by decide)
    (he:starEach (e::es) X.env=(false,eval e X.env)::starEach es X.env:=by rfl) (hpl:(backTo pos (starEach es X.env)).any (·.1)=false:=by rfl) :
    PE X (.Call (.Name x p) (e::es) [] pos) (tF sp t):=by
  obtain ⟨f,fd,G,h1,h2,h3⟩:=F
  intro pins s σ H Q I h
  refine pe_call (sp:=fun vs H Q E=>sp vs H Q E) G hr hg h1 h2 h3 .nil pass0 ha hdb he hpl pins s σ H Q I ?_
  have e:(fun vs H1=>sp (vs ++ []) H1 Q E0)=fun vs H1=>sp vs H1 Q E0:=by
    funext vs H1
    rw [List.append_nil]
  show t σ H (fun vs H1=>sp (vs ++ []) H1 Q E0)
  rw [e]
  exact h
def tM (C:Addr) (sp:Sp) (t:TA):TE:=fun σ H Q=>t σ H fun vs H1=>∀ x dx,H1 x=none→H1 dx=none→dx≠x →
  sp (.ref x::vs) (upd (upd H1 dx (.own x)) x (.ins C dx [])) (fun v H2=>v=.non∧Q (.ref x) H2) E0
theorem pe_mk (F:KnownC X.prog X.w X.K X.mg X.base x C k ps sp) (hr:Room (k + 1) X.A) (ha:PA X (e::es) t) (hg:Gl X x:=by rfl) (hdb:(x == ("__debug__":Str))=false:=by decide)
    (he:starEach (e::es) X.env=(false,eval e X.env)::starEach es X.env:=by rfl) (hpl:(backTo pos (starEach es X.env)).any (·.1)=false:=by rfl) :
    PE X (.Call (.Name x p) (e::es) [] pos) (tM C sp t):=by
  obtain ⟨f,fd,G,h1,h2,h3⟩:=F
  intro pins s σ H Q I h
  refine pe_make h2 G hr hg h1 h3 .nil pass0 ha hdb he hpl pins s σ H Q I ?_
  have e:(fun vs H1=>∀ x dx,H1 x=none→H1 dx=none→dx≠x→sp (.ref x::(vs ++ [])) (upd (upd H1 dx (.own x)) x (.ins C dx [])) (fun v H2=>v=.non∧Q (.ref x) H2) E0) =
      fun vs H1=>∀ x dx,H1 x=none→H1 dx=none→dx≠x→sp (.ref x::vs) (upd (upd H1 dx (.own x)) x (.ins C dx [])) (fun v H2=>v=.non∧Q (.ref x) H2) E0:=by
    funext vs H1
    rw [List.append_nil]
  show t σ H _
  rw [e]
  exact h
theorem pe_mk0 (F:KnownC X.prog X.w X.K X.mg X.base x C k ps sp) (hr:Room (k + 1) X.A) (hg:Gl X x:=by rfl) (hdb:(x == ("__debug__":Str))=false:=by decide) :
    PE X (.Call (.Name x p) [] [] pos) (tM C sp tNil):=by
  obtain ⟨f,fd,G,h1,h2,h3⟩:=F
  intro pins s σ H Q I h
  exact pe_make0 h2 G hr hg h1 h3 .nil pass0 hdb pins s σ H Q I h
theorem pe_gi {n:Int} (h:∃ t,X.mg x=some (.int n t)) (hg:Gl X x:=by rfl) (hd:(x == ("__debug__":Str))=false:=by decide):PE X (.Name x pos) (tC (.int n)):=by
  obtain ⟨t,h⟩:=h
  exact pe_glob hg h ⟨t,rfl⟩ hd
theorem pe_gr {a:Addr} (h:X.mg x=some (.ref a)) (hg:Gl X x:=by rfl) (hd:(x == ("__debug__":Str))=false:=by decide):PE X (.Name x pos) (tC (.ref a)):=pe_glob hg h rfl hd
end
section
variable {X:Cx} {K:PySem.W.Frag} {e o a value:Expr} {f:Str} {pos pos' tpos:Pos} {ta tv te:TE} {tg:Expr}
theorem pe_fl (he:PE X e ta) (hb:attributeBase e f X.env (eval e X.env)=eval e X.env:=by rfl) (hK:X.K=K:=by rfl):PE X (.Attribute e f pos) (tFld K ta f):=by
  subst hK; exact pe_fld he hb
theorem ps_fl (ha:PE X o ta) (hv:PE X value tv) (hs:swapsWith value (some (.Attribute o f pos')) pos.line X.env=pure false:=by rfl) (hK:X.K=K:=by rfl):PS X (.Assign [.Attribute o f pos'] value pos) (sFld K ta tv f):=by
  subst hK; exact ps_fld ha hv hs
theorem ps_fla {op:Operator} {rd:V→V→Hp→VK→Prop} (ha:PE X o ta) (hv:PE X value tv) (hop:InOp X op rd) (hK:X.K=K:=by rfl):PS X (.AugAssign (.Attribute o f tpos) op value pos) (sFldAug K ta tv rd f):=by
  subst hK; exact ps_fldaug ha hv hop
theorem ix_listK (hK:X.K=K:=by rfl):IxR X (rIxL K):=by subst hK; exact ix_list
theorem ix_tupK (hK:X.K=K:=by rfl):IxR X (rIxT K):=by subst hK; exact ix_tup
theorem pi_listK (hl:PE X e te) (hK:X.K=K:=by rfl):PI X tg e (iList K te):=by subst hK; exact pi_list hl
theorem call_lenK (hK:X.K=K:=by rfl):CallR X (.builtin "len") (fun xs H Q=>∃ p ys,xs=[.ref p]∧(SqL K H p ys∨SqT K H p ys)∧Q (.int ys.length) H):=by subst hK; exact call_len_seq
theorem cr_sumK (hc:X.calm=true:=by rfl) (hK:X.K=K:=by rfl):CallR X (.builtin "sum") (rSum K):=by subst hK; exact cr_sum hc
theorem cr_maxK (hc:X.calm=true:=by rfl) (hK:X.K=K:=by rfl):CallR X (.builtin "max") (rMax K):=by subst hK; exact cr_max hc
theorem cr_allK (hc:X.calm=true:=by rfl) (hK:X.K=K:=by rfl):CallR X (.builtin "all") (rAll K):=by subst hK; exact cr_all hc
theorem sl_listK (hK:X.K=K:=by rfl):SlR X (rSlL K):=by subst hK; exact sl_list
theorem pg_tupK {es:List Expr} {k:Nat} {t:TGs} {n:Nat} (h:PGs X es t) (hc:X.calm=true:=by rfl) (hn:(assignEach es X.env).length=n:=by rfl) (hst:(assignEach es X.env).findIdx? (·.1)=none:=by rfl) (hK:X.K=K:=by rfl):PG X (.Tuple es k pos) (gTup K n t):=by
  subst hK; exact pg_tup hc h hn hst
theorem pi_reversedK {ta:L2.TA} {p:Pos} (hm:X.mg "reversed" = none) (ha:PA X [e] ta) (hg:Gl X "reversed":=by rfl) (hs:starEach [e] X.env=[(false,eval e X.env)]:=by rfl) (hK:X.K=K:=by rfl):PI X tg (.Call (.Name "reversed" p) [e] [] pos) (iRev K ta):=by
  subst hK; exact pi_reversed hg hm ha hs
end
inductive Rl where
  | wd | sl | pl | bg
  | su (i:Nat) | po (i:Nat) | gr (i:Nat) | dv (i:Nat)
  deriving DecidableEq
structure Gad where
  ad:Rl→Addr
  dx:Rl→Addr
abbrev pAt (w:VW) (i:Nat):VP:=Vbcnam.portAt w i
def sAt (w:VW) (i:Nat):VS:=w.supplies.getD i { watts:=0 }
def devV (x:VP) (d:Addr):V:=if x.device.isSome=true then .ref d else .non
def dOf (x:VP):VD:=x.device.getD { cls:=0 }
def gV (g:VG):List V:=[.int g.number,.int g.watts]
def mV:VM→List V
  | .grant p s n m=>[.int 0,.int p,.int s,.int n,.int m]
  | .taken p s n=>[.int 1,.int p,.int s,.int n]
  | .wish p s n m=>[.int 2,.int p,.int s,.int n,.int m]
def refs (l:List Addr):List V:=l.map V.ref
def live (w:VW):Rl→Prop
  | .su i=>i < w.supplies.length
  | .po i=>i < w.ports.length
  | .gr i=>i < w.ports.length
  | .dv i=>i < w.ports.length∧(pAt w i).device.isSome=true
  | _=>True
def cont (t:Cas) (G:Gad) (gs:Nat→List Addr) (ms:List Addr) (w:VW):Rl→HO
  | .wd=>.ins t.CW (G.dx .wd) (worldF w (G.ad .sl) (G.ad .pl) (G.ad .bg))
  | .sl=>.lst (refs ((List.range w.supplies.length).map fun i=>G.ad (.su i)))
  | .pl=>.lst (refs ((List.range w.ports.length).map fun i=>G.ad (.po i)))
  | .bg=>.lst (refs ms)
  | .su i=>.ins t.CS (G.dx (.su i)) (supF (sAt w i))
  | .po i=>.ins t.CP (G.dx (.po i)) (portF i (pAt w i) (G.ad (.gr i)) (devV (pAt w i) (G.ad (.dv i))))
  | .gr i=>.lst (refs (gs i))
  | .dv i=>.ins t.CD (G.dx (.dv i)) (devF (dOf (pAt w i)))
def Tups (H:Hp):List Addr→List (List V)→Prop
  | [],[]=>True
  | a::as,v::vs=>H a=some (.tup v)∧Tups H as vs
  | _,_=>False
structure RepX (t:Cas) (G:Gad) (gs:Nat→List Addr) (ms:List Addr) (H:Hp) (w:VW) (E:Hp):Prop where
  at_:∀ r,live w r→H (G.ad r)=some (cont t G gs ms w r)
  inj:∀ r r',live w r→live w r'→G.ad r=G.ad r'→r=r'
  msg:Tups H ms (w.bag.map mV)
  grt:∀ i,i < w.ports.length→Tups H (gs i) ((pAt w i).grants.map gV)
  fr:∀ b o,E b=some o→H b=some o∧∀ r,live w r→G.ad r≠b
  tab:TabGood lPos lQual t.T H
  et:E t.T=none
def fixd:Rl→Bool
  | .gr _=>false
  | .dv _=>false
  | _=>true
def Rep (t:Cas) (A:Rl→Addr) (H:Hp) (w:VW) (E:Hp):Prop:=∃ G gs ms,(∀ r,fixd r=true→G.ad r=A r)∧RepX t G gs ms H w E
def Soft:HO→Prop
  | .lst _=>True
  | .ins _ _ _=>True
  | .dK _=>True
  | .frz _ _=>True
  | _=>False
theorem cont_soft {t:Cas} {G:Gad} {gs:Nat→List Addr} {ms:List Addr} {w:VW} (r:Rl):Soft (cont t G gs ms w r):=by
  cases r <;> exact trivial
theorem Tups.mono {H H':Hp} (k:∀ a v,H a=some (.tup v)→H' a=some (.tup v)):∀ {as:List Addr} {vs:List (List V)},Tups H as vs→Tups H' as vs
  | [],[],_=>trivial
  | _::_,_::_,⟨h,r⟩=>⟨k _ _ h,Tups.mono k r⟩
theorem Tups.len {H:Hp}:∀ {as:List Addr} {vs:List (List V)},Tups H as vs→as.length=vs.length
  | [],[],_=>rfl
  | _::_,_::_,⟨_,r⟩=>congrArg (· + 1) (Tups.len r)
theorem Tups.get {H:Hp}:∀ {as:List Addr} {vs:List (List V)} {i:Nat} {a:Addr},Tups H as vs→as[i]?=some a→∃ v,vs[i]?=some v∧H a=some (.tup v)
  | [],[],_,_,_,e=>by simp at e
  | _::_,_::_,0,_,⟨h,_⟩,e=>by
    have e:=Option.some.inj e
    subst e
    exact ⟨_,rfl,h⟩
  | _::_,_::_,i + 1,_,⟨_,r⟩,e=>Tups.get (i:=i) r e
theorem Tups.app {H:Hp}:∀ {as bs:List Addr} {vs us:List (List V)},Tups H as vs→Tups H bs us→Tups H (as ++ bs) (vs ++ us)
  | [],_,[],_,_,r=>r
  | _::_,_,_::_,_,⟨h,q⟩,r=>⟨h,Tups.app q r⟩
theorem Tups.erase {H:Hp}:∀ {as:List Addr} {vs:List (List V)} (i:Nat),Tups H as vs→Tups H (as.eraseIdx i) (vs.eraseIdx i)
  | [],[],_,_=>trivial
  | _::_,_::_,0,⟨_,r⟩=>r
  | _::_,_::_,i + 1,⟨h,r⟩=>⟨h,Tups.erase i r⟩
theorem keep_hard {H:Hp} {c b:Addr} {o u:HO} (hc:H c=none∨∃ oc,H c=some oc∧Soft oc) (hb:H b=some u) (hu:¬ Soft u):upd H c o b=some u:=by
  refine (upd_ne fun z=>?_).trans hb
  subst z
  rcases hc with hc | ⟨oc,hc,s⟩
  · rw [hc] at hb; cases hb
  · rw [hc] at hb; cases hb; exact hu s
theorem tab_upd {H:Hp} {c T:Addr} {o:HO} (hc:H c=none∨∃ oc,H c=some oc∧Soft oc) (h:TabGood lPos lQual T H):TabGood lPos lQual T (upd H c o):=by
  obtain ⟨ps,hP,ht,h⟩:=h
  refine ⟨ps,keep_hard hc hP (fun z=>z),ht,?_⟩
  rcases h with h | ⟨c',h,h'⟩
  · exact .inl h
  · exact .inr ⟨c',h,keep_hard hc h' (fun z=>z)⟩
theorem tups_upd {H:Hp} {c:Addr} {o:HO} {as:List Addr} {vs:List (List V)} (hc:H c=none∨∃ oc,H c=some oc∧Soft oc) (h:Tups H as vs):Tups (upd H c o) as vs :=
  h.mono fun _ _ e=>keep_hard hc e (fun z=>z)
theorem pAt_set {w:VW} {i j:Nat} {x:VP} (hi:i < w.ports.length):pAt (Vbcnam.setPort w i x) j=if j=i then x else pAt w j:=by
  unfold pAt Vbcnam.portAt Vbcnam.setPort
  show (w.ports.set i x).getD j {}=_
  rw [List.getD_eq_getElem?_getD,List.getD_eq_getElem?_getD,List.getElem?_set]
  by_cases h:i=j
  · subst h
    rw [if_pos rfl,if_pos hi,if_pos rfl]
    rfl
  · rw [if_neg h,if_neg (Ne.symm h)]
theorem len_set {w:VW} {i:Nat} {x:VP}:(Vbcnam.setPort w i x).ports.length=w.ports.length:=List.length_set
section
variable {t:Cas} {G:Gad} {gs:Nat→List Addr} {ms:List Addr} {H E:Hp} {w w':VW} {A:Rl→Addr}
theorem RepX.soft (R:RepX t G gs ms H w E) {r:Rl} (h:live w r):H (G.ad r)=none∨∃ oc,H (G.ad r)=some oc∧Soft oc:=.inr ⟨_,R.at_ r h,cont_soft r⟩
theorem RepX.put (R:RepX t G gs ms H w E) (r0:Rl) {o:HO} (hl:live w r0) (hw:∀ r,live w' r↔live w r) (ho:cont t G gs ms w' r0=o) (hc:∀ r,r≠r0→live w r→cont t G gs ms w' r=cont t G gs ms w r) (hb:w'.bag=w.bag)
    (hn:w'.ports.length=w.ports.length) (hg:∀ i,i < w.ports.length→(pAt w' i).grants=(pAt w i).grants):RepX t G gs ms (upd H (G.ad r0) o) w' E where
  at_:=fun r h=>by
    have h':=(hw r).mp h
    by_cases e:r=r0
    · subst e; rw [upd_same,ho]
    · rw [upd_ne (fun z=>e (R.inj r r0 h' hl z)),hc r e h']
      exact R.at_ r h'
  inj:=fun r r' h h'=>R.inj r r' ((hw r).mp h) ((hw r').mp h')
  msg:=by rw [hb]; exact tups_upd (R.soft hl) R.msg
  grt:=fun i hi=>by
    rw [hn] at hi
    rw [hg i hi]
    exact tups_upd (R.soft hl) (R.grt i hi)
  fr:=fun b o' e=>by
    obtain ⟨h1,h2⟩:=R.fr b o' e
    exact ⟨by rw [upd_ne (fun z=>h2 r0 hl z.symm)]; exact h1,fun r h=>h2 r ((hw r).mp h)⟩
  tab:=tab_upd (R.soft hl) R.tab
  et:=R.et
theorem RepX.ext (R:RepX t G gs ms H w E) {p:Addr} {o:HO} (hp:H p=none):RepX t G gs ms (upd H p o) w (upd E p o) where
  at_:=fun r h=>by rw [upd_ne (ne_of_none (R.at_ r h) hp)]; exact R.at_ r h
  inj:=R.inj
  msg:=tups_upd (.inl hp) R.msg
  grt:=fun i hi=>tups_upd (.inl hp) (R.grt i hi)
  fr:=fun b o' e=>by
    by_cases hb:b=p
    · subst hb
      rw [upd_same] at e ⊢
      exact ⟨e,fun r h=>ne_of_none (R.at_ r h) hp⟩
    · rw [upd_ne hb] at e ⊢
      exact R.fr b o' e
  tab:=tab_upd (.inl hp) R.tab
  et:=by
    obtain ⟨ps,hT,_⟩:=R.tab
    rw [upd_ne (ne_of_none hT hp)]
    exact R.et
theorem RepX.extw (R:RepX t G gs ms H w E) {p:Addr} {o0 o:HO} (hp:E p=some o0) (hs:Soft o0):RepX t G gs ms (upd H p o) w (upd E p o):=by
  obtain ⟨h1,h2⟩:=R.fr p o0 hp
  have sf:H p=none∨∃ oc,H p=some oc∧Soft oc:=.inr ⟨_,h1,hs⟩
  exact {
    at_:=fun r h=>by rw [upd_ne (h2 r h)]; exact R.at_ r h
    inj:=R.inj
    msg:=tups_upd sf R.msg
    grt:=fun i hi=>tups_upd sf (R.grt i hi)
    fr:=fun b o' e=>by
      by_cases hb:b=p
      · subst hb
        rw [upd_same] at e ⊢
        exact ⟨e,h2⟩
      · rw [upd_ne hb] at e ⊢
        exact R.fr b o' e
    tab:=tab_upd sf R.tab
    et:=by
      obtain ⟨ps,hT,_⟩:=R.tab
      rw [upd_ne (ne_of hT h1 (fun z=>by subst z; exact hs))]
      exact R.et }
theorem RepX.less {E':Hp} (R:RepX t G gs ms H w E) (h:∀ b o,E' b=some o→E b=some o):RepX t G gs ms H w E' where
  at_:=R.at_
  inj:=R.inj
  msg:=R.msg
  grt:=R.grt
  fr:=fun b o e=>R.fr b o (h b o e)
  tab:=R.tab
  et:=by
    cases e:E' t.T with
    | none=>rfl
    | some o =>
      have:=h _ _ e
      rw [R.et] at this
      cases this
theorem RepX.mono {H':Hp} (R:RepX t G gs ms H w E) (k:∀ b o,b≠t.T→H b=some o→H' b=some o) (T:TabGood lPos lQual t.T H'):RepX t G gs ms H' w E:=by
  obtain ⟨ps,hT,_⟩:=R.tab
  have nt:∀ b o,H b=some o→(∀ ps,o≠.tbl ps)→H' b=some o:=fun b o e h=>k b o (fun z=>by rw [z,hT] at e; exact h _ (Option.some.inj e).symm) e
  exact {
    at_:=fun r h=>nt _ _ (R.at_ r h) fun ps z=>by
      have s:=cont_soft (t:=t) (G:=G) (gs:=gs) (ms:=ms) (w:=w) r
      rw [z] at s
      exact s
    inj:=R.inj
    msg:=R.msg.mono fun a v e=>nt _ _ e fun ps z=>by cases z
    grt:=fun i hi=>(R.grt i hi).mono fun a v e=>nt _ _ e fun ps z=>by cases z
    fr:=fun b o e=>⟨k b o (fun z=>by rw [z,R.et] at e; cases e) (R.fr b o e).1,(R.fr b o e).2⟩
    tab:=T
    et:=R.et }
end
section
variable {P:Program} {w₀:PySem.World} {K:PySem.W.Frag} {mg:Str→Option Value} {base:Heap} {t:Cas} {f:Addr} {fd:FuncData}
def sp_base_of (t:Cas):Sp:=fun vs H Q _=>∃ (p dx:Addr) (x:VD),vs=[.ref p]∧H p=some (.ins t.CD dx (devF x))∧(1≤x.cls∧x.cls≤4)∧Q (.int (Vbcnam.base x.cls)) H
theorem ok_base_of (T:Txt K mg t) (F:Fun K "base_of" "base_of" s_base_of f fd):FnOk P w₀ K mg base CX0 1 f fd ["device"] (sp_base_of t):=by
  refine F.ok sc_base_of (fun vs H Q E h=>?_) (fun cdv A outer s H vs Q E hr h=>?_)
  · obtain ⟨p,dx,x,rfl,_⟩:=h; rfl
  · obtain ⟨p,dx,x,rfl,hp,hc,q⟩:=h
    have nd:=sc_base_of.nd
    obtain ⟨aB,mB,sB⟩:=T.bases
    refine ⟨_,(pss_one (ps_ret (pe_ix (ix_tupK (K:=K)) (pe_gr mB) (pe_fl (K:=K) (pv 0)) (fun _ _=>rfl)))),?_⟩
    refine ⟨_,rfl,r_dev_power_class T hp ⟨aB,_,_,.int (Vbcnam.base x.cls),rfl,rfl,sB H,?_,q⟩⟩
    refine atI_nat ?_
    obtain ⟨h1,h2⟩:=hc
    have:x.cls=1∨x.cls=2∨x.cls=3∨x.cls=4:=by omega
    rcases this with e | e | e | e <;> rw [e] <;> rfl
structure Ok (w:VW):Prop where
  ns:w.supplies.length≤4
  np:w.ports.length≤48
  cls:∀ i,i < w.ports.length→∀ y,(pAt w i).device=some y→1≤y.cls∧y.cls≤4
  on:∀ i,i < w.ports.length→(pAt w i).on=true→(pAt w i).grants≠[]∧(pAt w i).device.isSome=true
  gl:∀ i,i < w.ports.length→(pAt w i).grants.length≤8
  bag:w.bag.length≤w.cap
  cap:w.cap≤10000
theorem refs_get {n:Nat} {g:Nat→Addr} {i:Nat} {x:V} (h:(refs ((List.range n).map g))[i]?=some x):i < n∧x=.ref (g i):=by
  unfold refs at h
  rw [List.map_map,List.getElem?_map] at h
  by_cases hi:i < n
  · rw [List.getElem?_range hi] at h
    exact ⟨hi,(Option.some.inj h).symm⟩
  · rw [List.getElem?_eq_none (by simpa using hi)] at h
    cases h
theorem take_snoc {α:Type} {l:List α} {i:Nat} {x:α} (h:l[i]?=some x):l.take (i + 1)=l.take i ++ [x]:=by
  rw [List.take_add_one,h]
  rfl
theorem sAt_get {w:VW} {i:Nat} (h:i < w.supplies.length):w.supplies[i]?=some (sAt w i):=by
  unfold sAt
  rw [List.getD_eq_getElem?_getD,List.getElem?_eq_getElem h]
  rfl
theorem pAt_get {w:VW} {i:Nat} (h:i < w.ports.length):w.ports[i]?=some (pAt w i):=by
  unfold pAt Vbcnam.portAt
  rw [List.getD_eq_getElem?_getD,List.getElem?_eq_getElem h]
  rfl
def stand (l:List VS):List Nat:=(l.filter fun s=>s.on).map fun s=>s.watts
def numV (l:List Nat):List V:=l.map fun (n:Nat)=>V.int n
def sp_amounts_on (t:Cas):Sp:=fun vs H Q _=>∃ (A:Rl→Addr) (w:VW) (E:Hp),vs=[.ref (A .wd)]∧Rep t A H w E∧Ok w ∧
  ∀ H' p,E p=none→Rep t A H' w (upd E p (.lst (numV (Vbcnam.standing w))))→Q (.ref p) H'
theorem ok_amounts_on (T:Txt K mg t) (F:Fun K "amounts_on" "amounts_on" s_amounts_on f fd):FnOk P w₀ K mg base CX0 1 f fd ["world"] (sp_amounts_on t):=by
  refine F.ok sc_amounts_on (fun vs H Q E h=>?_) (fun cdv A outer s H vs Q E hr h=>?_)
  · obtain ⟨_,_,_,rfl,_⟩:=h; rfl
  · obtain ⟨A,w,E,rfl,⟨G,gs,ms,hA,R⟩,O,q⟩:=h
    have nd:=sc_amounts_on.nd
    refine ⟨_,(pss_one (ps_ret (pe_lc (own:=[("supply",1)]) rfl nd (pi_listK (K:=K) (pe_fl (K:=K) (pv 0))) (by show BlkOk ["world","supply"] (defScope s_amounts_on) _ _; exact ⟨rfl,by decide +kernel,by decide +kernel,by decide +kernel,by decide +kernel⟩) (fun _ _ _ _ _=>pg_name (i:=1) nd rfl (Or.inl rfl)) (fun _ _ _ _ _=>pts_one (pt_cmpR op_eq (pe_fl (K:=K) (pv 1)) pe_int (nomark _))) (fun _ _ _ _ _=>(pe_fl (K:=K) (pv 1)))))),?_⟩
    rw [← hA .wd rfl]
    refine ⟨_,rfl,r_world_supplies T (R.at_ .wd trivial) ⟨G.ad .sl,rfl,⟨_,SqL.of (R.at_ .sl trivial)⟩,fun D hD=>?_⟩⟩
    have ED:E D=none:=by
      cases e:E D with
      | none=>rfl
      | some o=>rw [(R.fr D o e).1] at hD; cases hD
    refine lc_list (K:=K) (a:=G.ad .sl) (xs:=refs ((List.range w.supplies.length).map fun i=>G.ad (.su i))) (fun i H'=>RepX t G gs ms H' w (upd E D (.lst (numV (stand (w.supplies.take i))))))
      (R.ext hD) (fun i H' hi R'=>SqL.of (R'.at_ .sl trivial)) (fun i x H' hx R'=>?_) (fun H' R'=>?_)
    · obtain ⟨hi,rfl⟩:=refs_get hx
      have hs:=R'.at_ (.su i) hi
      have hD':=(R'.fr D _ upd_same).1
      have sg:=sAt_get hi
      refine ⟨rfl,_,rfl,r_sup_on T hs ⟨rfl,_,rfl,?_⟩⟩
      cases ho:(sAt w i).on with
      | true =>
        refine ite2 (fun _=>?_) (fun h=>absurd rfl h)
        refine ⟨_,rfl,r_sup_amount T hs ⟨_,hD',?_,?_⟩⟩
        · unfold numV stand
          rw [List.length_map,List.length_map]
          refine Nat.lt_of_le_of_lt (List.length_filter_le _ _) (Nat.lt_of_le_of_lt (List.take_sublist i w.supplies).length_le (Nat.lt_of_le_of_lt O.ns (by decide)))
        · have e:numV (stand (w.supplies.take (i + 1)))=numV (stand (w.supplies.take i)) ++ [V.int (sAt w i).watts]:=by
            unfold numV stand
            rw [take_snoc sg,List.filter_append,List.map_append,List.map_append,List.filter_cons,if_pos ho,List.filter_nil]
            rfl
          rw [e]
          have R2:=R'.extw (o:=.lst (numV (stand (w.supplies.take i)) ++ [V.int (sAt w i).watts])) upd_same trivial
          rw [upd_upd] at R2
          exact R2
      | false =>
        refine ite2 (fun h=>absurd h (by decide)) (fun _=>?_)
        have e:stand (w.supplies.take (i + 1))=stand (w.supplies.take i):=by
          unfold stand
          rw [take_snoc sg,List.filter_append,List.filter_cons,if_neg (by rw [ho]; decide),List.filter_nil,List.append_nil]
        rw [e]
        exact R'
    · refine q H' D ED ⟨G,gs,ms,hA,?_⟩
      have e:w.supplies.take (refs ((List.range w.supplies.length).map fun i=>G.ad (.su i))).length=w.supplies:=by
        unfold refs
        rw [List.length_map,List.length_map,List.length_range,List.take_length]
      rw [e] at R'
      exact R'
def spW (t:Cas) (val:VW→V):Sp:=fun vs H Q _=>∃ (A:Rl→Addr) (w:VW) (E:Hp),vs=[.ref (A .wd)]∧Rep t A H w E∧Ok w∧∀ H',Rep t A H' w E→Q (val w) H'
def spP (t:Cas) (pre:VP→Prop) (val:VP→V):Sp:=fun vs H Q _=>∃ (A:Rl→Addr) (w:VW) (E:Hp) (i:Nat),vs=[.ref (A (.po i))]∧Rep t A H w E∧Ok w∧i < w.ports.length∧pre (pAt w i)∧∀ H',Rep t A H' w E→Q (val (pAt w i)) H'
theorem Rep.less {A:Rl→Addr} {H E E':Hp} {w:VW} (R:Rep t A H w E) (h:∀ b o,E' b=some o→E b=some o):Rep t A H w E' :=
  let ⟨G,gs,ms,hA,R⟩:=R
  ⟨G,gs,ms,hA,R.less h⟩
theorem Rep.drop {A:Rl→Addr} {H E:Hp} {w:VW} {p:Addr} {o:HO} (R:Rep t A H w (upd E p o)) (hp:E p=none):Rep t A H w E :=
  R.less fun b o' e=>by rw [upd_ne (ne_of_none e hp)]; exact e
theorem Rep.beside {A:Rl→Addr} {H E:Hp} {w:VW} {p:Addr} {o:HO} (R:Rep t A H w E) (hp:E p=some o):H p=some o :=
  let ⟨_,_,_,_,R⟩:=R
  (R.fr p o hp).1
theorem foldl_add:∀ (l:List Nat) (a:Nat),((l.foldl (fun a b=>a + b) a:Nat):Int)=(a:Int) + (l.map fun (n:Nat)=>(n:Int)).sum
  | [],a=>by simp
  | x::l,a=>by
    rw [List.foldl_cons,foldl_add l,List.map_cons,List.sum_cons]
    omega
theorem sum_cast (l:List Nat):(l.map fun (n:Nat)=>(n:Int)).sum=(Vbcnam.sum l:Nat):=by
  unfold Vbcnam.sum
  rw [foldl_add]
  omega
theorem foldl_max:∀ (l:List Nat) (a:Nat),a≤l.foldl max a∧(∀ y ∈ l,y≤l.foldl max a)∧(l.foldl max a=a∨l.foldl max a ∈ l)
  | [],a=>⟨Nat.le_refl _,(fun _ h=>nomatch h),.inl rfl⟩
  | x::l,a=>by
    obtain ⟨h1,h2,h3⟩:=foldl_max l (max a x)
    rw [List.foldl_cons]
    refine ⟨Nat.le_trans (Nat.le_max_left _ _) h1,fun y hy=>?_,?_⟩
    · rcases List.mem_cons.mp hy with rfl | hy
      · exact Nat.le_trans (Nat.le_max_right _ _) h1
      · exact h2 y hy
    · rcases h3 with h3 | h3
      · rw [h3]
        by_cases h:a≤x
        · exact .inr (by rw [Nat.max_eq_right h]; exact List.mem_cons_self)
        · exact .inl (Nat.max_eq_left (by omega))
      · exact .inr (List.mem_cons_of_mem _ h3)
theorem greatest_cast {l:List Nat} {m:Int} (h1:m ∈ l.map fun (n:Nat)=>(n:Int)) (h2:∀ y,(y ∈ l.map fun (n:Nat)=>(n:Int))→y≤m):m=(Vbcnam.greatest l:Nat):=by
  obtain ⟨k,hk,rfl⟩:=List.mem_map.mp h1
  obtain ⟨_,g2,g3⟩:=foldl_max l 0
  have a1:=g2 k hk
  unfold Vbcnam.greatest
  rcases g3 with g3 | g3
  · omega
  · have:=h2 _ (List.mem_map.mpr ⟨_,g3,rfl⟩)
    omega
theorem foldl_le:∀ (l:List Nat) (a b:Nat),a≤b→l.foldl max a≤l.foldl (fun a b=>a + b) b
  | [],_,_,h=>h
  | x::l,a,b,h=>by
    rw [List.foldl_cons,List.foldl_cons]
    exact foldl_le l _ _ (by omega)
theorem great_le_sum (l:List Nat):Vbcnam.greatest l≤Vbcnam.sum l:=foldl_le l 0 0 (Nat.le_refl _)
theorem numV_map (l:List Nat):numV l=(l.map fun (n:Nat)=>(n:Int)).map V.int:=by
  unfold numV
  rw [List.map_map]
  rfl
theorem ok_can_give (T:Txt K mg t) (F:Fun K "can_give" "can_give" s_can_give f fd) (F_amounts_on:Known P w₀ K mg base "amounts_on" 1 ["world"] (sp_amounts_on t)) :
    FnOk P w₀ K mg base CX0 2 f fd ["world"] (spW t fun w=>.int (Vbcnam.can w)):=by
  refine F.ok sc_can_give (fun vs H Q E h=>?_) (fun cdv A outer s H vs Q E hr h=>?_)
  · obtain ⟨_,_,_,rfl,_⟩:=h; rfl
  · obtain ⟨A,w,E,rfl,R,O,q⟩:=h
    have nd:=sc_can_give.nd
    refine ⟨_,(pss_one (ps_ret (pe_callB (cr_sumK (K:=K)) (by rfl) T.b_sum boot_sum (pa_cons (pe_f F_amounts_on (hr.mono (by decide)) (pa_cons (pv 0) pa_nil)) pa_nil)))),?_⟩
    refine ⟨_,rfl,A,w,E,rfl,R,O,fun H' p hp R'=>⟨p,_,rfl,SqL.of (by rw [← numV_map]; exact R'.beside upd_same),?_⟩⟩
    rw [sum_cast]
    exact q H' (R'.drop hp)
theorem ok_may_give (T:Txt K mg t) (F:Fun K "may_give" "may_give" s_may_give f fd) (F_amounts_on:Known P w₀ K mg base "amounts_on" 1 ["world"] (sp_amounts_on t))
    (F_can_give:Known P w₀ K mg base "can_give" 2 ["world"] (spW t fun w=>.int (Vbcnam.can w))) :
    FnOk P w₀ K mg base CX0 3 f fd ["world"] (spW t fun w=>.int (Vbcnam.may w)):=by
  refine F.ok sc_may_give (fun vs H Q E h=>?_) (fun cdv A outer s H vs Q E hr h=>?_)
  · obtain ⟨_,_,_,rfl,_⟩:=h; rfl
  · obtain ⟨A,w,E,rfl,R,O,q⟩:=h
    have nd:=sc_may_give.nd
    refine ⟨_,(pss_cons (ps_if (pt_cmpR op_eq (pe_fl (K:=K) (pv 0)) pe_int (nomark _)) (pss_one (ps_ret (pe_f F_can_give (hr.mono (by decide)) (pa_cons (pv 0) pa_nil)))) pss_nil) (pss_one (ps_ret (pe_op op_sub (pe_f F_can_give (hr.mono (by decide)) (pa_cons (pv 0) pa_nil)) (pe_maxD (K:=K) (pe_f F_amounts_on (hr.mono (by decide)) (pa_cons (pv 0) pa_nil)) T.b_max))))),?_⟩
    obtain ⟨G,gs,ms,hA,RX⟩:=id R
    have hw:=RX.at_ .wd trivial
    rw [hA .wd rfl] at hw
    refine ⟨_,rfl,r_world_spare T hw ⟨rfl,_,rfl,?_⟩⟩
    cases hs:w.spare with
    | false =>
      refine ite2 (fun _=>?_) (fun h=>absurd rfl h)
      refine ⟨_,rfl,A,w,E,rfl,R,O,fun H' R'=>?_⟩
      have e:Vbcnam.may w=Vbcnam.can w:=by unfold Vbcnam.may; rw [if_neg (by rw [hs]; decide)]
      have z:Q (.int (Vbcnam.may w)) H':=q H' R'
      rw [e] at z
      exact z
    | true =>
      refine ite2 (fun h=>absurd h (by decide)) (fun _=>?_)
      refine ⟨_,rfl,A,w,E,rfl,R,O,fun H1 R1=>?_⟩
      refine ⟨_,rfl,A,w,E,rfl,R1,O,fun H2 p hp R2=>⟨p,_,rfl,SqL.of (by rw [← numV_map]; exact R2.beside upd_same),fun m h0 h1=>?_⟩⟩
      refine ⟨_,_,rfl,rfl,?_⟩
      have e:(Vbcnam.can w:Int) - m=(Vbcnam.may w:Nat):=by
        unfold Vbcnam.may
        rw [if_pos hs]
        have hm:m=(Vbcnam.greatest (Vbcnam.standing w):Nat):=by
          cases hl:Vbcnam.standing w with
          | nil=>rw [hl] at h0; exact h0 rfl
          | cons a l =>
            have z:=h1 (by rw [hl]; simp)
            exact greatest_cast (by rw [← hl]; exact z.1) (by rw [← hl]; exact z.2)
        have le:Vbcnam.greatest (Vbcnam.standing w)≤Vbcnam.can w:=great_le_sum _
        omega
      have z:Q (.int (Vbcnam.may w)) H2:=q H2 (R2.drop hp)
      rw [← e] at z
      exact z
end
section
variable {P:Program} {w₀:PySem.World} {K:PySem.W.Frag} {mg:Str→Option Value} {base:Heap} {t:Cas} {f:Addr} {fd:FuncData}
theorem yesI {σ:L2.St} {H:Hp} {A B:Hp→Prop} (h:A H):tYes σ H (fun b H3=>if b=true then A H3 else B H3):=by
  show (if true=true then A H else B H)
  rw [if_pos rfl]
  exact h
theorem refs_at {l:List Addr} {i:Nat} {x:V} (h:(refs l)[i]?=some x):∃ a,l[i]?=some a∧x=.ref a:=by
  unfold refs at h
  rw [List.getElem?_map] at h
  cases e:l[i]? with
  | none=>rw [e] at h; cases h
  | some a=>rw [e] at h; exact ⟨a,rfl,(Option.some.inj h).symm⟩
theorem RepX.none_of {G:Gad} {gs:Nat→List Addr} {ms:List Addr} {H E:Hp} {w:VW} (R:RepX t G gs ms H w E) {D:Addr} (hD:H D=none):E D=none:=by
  cases e:E D with
  | none=>rfl
  | some o=>rw [(R.fr D o e).1] at hD; cases hD
theorem RepX.grant {G:Gad} {gs:Nat→List Addr} {ms:List Addr} {H E:Hp} {w:VW} (R:RepX t G gs ms H w E) {i j:Nat} {a:Addr} (hi:i < w.ports.length) (ha:(gs i)[j]?=some a) :
    ∃ g,(pAt w i).grants[j]?=some g∧H a=some (.tup (gV g)):=by
  obtain ⟨v,hv,h⟩:=(R.grt i hi).get ha
  rw [List.getElem?_map] at hv
  cases e:(pAt w i).grants[j]? with
  | none=>rw [e] at hv; cases hv
  | some g =>
    rw [e] at hv
    have hv:=Option.some.inj hv
    subst hv
    exact ⟨g,rfl,h⟩
theorem RepX.glen {G:Gad} {gs:Nat→List Addr} {ms:List Addr} {H E:Hp} {w:VW} (R:RepX t G gs ms H w E) {i:Nat} (hi:i < w.ports.length):(gs i).length=(pAt w i).grants.length:=by
  rw [(R.grt i hi).len,List.length_map]
theorem RepX.mlen {G:Gad} {gs:Nat→List Addr} {ms:List Addr} {H E:Hp} {w:VW} (R:RepX t G gs ms H w E):ms.length=w.bag.length:=by
  rw [R.msg.len,List.length_map]
def wats (l:List VG):List Nat:=l.map fun g=>g.watts
theorem ok_reserved_at (T:Txt K mg t) (F:Fun K "reserved_at" "reserved_at" s_reserved_at f fd):FnOk P w₀ K mg base CX0 1 f fd ["port"] (spP t (fun _=>True) fun x=>.int (Vbcnam.reserved x)):=by
  refine F.ok sc_reserved_at (fun vs H Q E h=>?_) (fun cdv A outer s H vs Q E hr h=>?_)
  · obtain ⟨_,_,_,_,rfl,_⟩:=h; rfl
  · obtain ⟨A,w,E,i,rfl,R,O,hi,_,q⟩:=h
    have q:∀ H',Rep t A H' w E→Q (.int (Vbcnam.reserved (pAt w i))) H':=q
    have nd:=sc_reserved_at.nd
    refine ⟨_,(pss_cons (ps_if (pt_cmpR op_eq (pe_fl (K:=K) (pv 0)) pe_int (nomark _)) (pss_one (ps_ret pe_int)) pss_nil) (pss_one (ps_ret (pe_callB (cr_maxK (K:=K)) (by rfl) T.b_max boot_max (pa_cons (pe_lc (own:=[("grant",1)]) rfl nd (pi_listK (K:=K) (pe_fl (K:=K) (pv 0))) (by show BlkOk ["port","grant"] (defScope s_reserved_at) _ _; exact ⟨rfl,by decide +kernel,by decide +kernel,by decide +kernel,by decide +kernel⟩) (fun _ _ _ _ _=>pg_name (i:=1) nd rfl (Or.inl rfl)) (fun _ _ _ _ _=>pts_nil) (fun _ _ _ _ _=>(pe_ix (ix_tupK (K:=K)) (pv 1) pe_int (fun _ _=>rfl)))) pa_nil))))),?_⟩
    obtain ⟨G,gs,ms,hA,RX⟩:=id R
    rw [← hA (.po i) rfl]
    have hp:=RX.at_ (.po i) hi
    refine ⟨_,rfl,r_port_on T hp ⟨rfl,_,rfl,?_⟩⟩
    cases ho:(pAt w i).on with
    | false =>
      refine ite2 (fun _=>?_) (fun h=>absurd rfl h)
      have e:Vbcnam.reserved (pAt w i)=0:=by unfold Vbcnam.reserved; rw [if_neg (by rw [ho]; decide)]
      have z:=q H R
      rw [e] at z
      exact z
    | true =>
      refine ite2 (fun h=>absurd h (by decide)) (fun _=>?_)
      have e:Vbcnam.reserved (pAt w i)=Vbcnam.greatest (wats (pAt w i).grants):=by unfold Vbcnam.reserved; rw [if_pos ho]; rfl
      rw [e] at q
      refine ⟨_,rfl,r_port_grants T hp ⟨G.ad (.gr i),rfl,⟨_,SqL.of (RX.at_ (.gr i) hi)⟩,fun D hD=>?_⟩⟩
      refine lc_list (K:=K) (a:=G.ad (.gr i)) (xs:=refs (gs i)) (fun j H'=>RepX t G gs ms H' w (upd E D (.lst (numV (wats ((pAt w i).grants.take j))))))
        (RX.ext hD) (fun j H' _ R'=>SqL.of (R'.at_ (.gr i) hi)) (fun j x H' hx R'=>?_) (fun H' R'=>?_)
      · obtain ⟨a,ha,rfl⟩:=refs_at hx
        obtain ⟨g,hg,hga⟩:=R'.grant hi ha
        refine ⟨rfl,?_⟩
        refine yesI ?_
        refine ⟨_,rfl,a,_,_,.int g.watts,rfl,rfl,SqT.of hga,rfl,_,(R'.fr D _ upd_same).1,?_,?_⟩
        · unfold numV wats
          rw [List.length_map,List.length_map]
          exact Nat.lt_of_le_of_lt (List.take_sublist j _).length_le (Nat.lt_of_le_of_lt (O.gl i hi) (by decide))
        · have e2:numV (wats ((pAt w i).grants.take (j + 1)))=numV (wats ((pAt w i).grants.take j)) ++ [V.int g.watts]:=by
            unfold numV wats
            rw [take_snoc hg,List.map_append,List.map_append]
            rfl
          rw [e2]
          have R2:=R'.extw (o:=.lst (numV (wats ((pAt w i).grants.take j)) ++ [V.int g.watts])) upd_same trivial
          rw [upd_upd] at R2
          exact R2
      · have e2:(pAt w i).grants.take (refs (gs i)).length=(pAt w i).grants:=by
          unfold refs
          rw [List.length_map,RX.glen hi,List.take_length]
        rw [e2] at R'
        refine ⟨D,_,rfl,SqL.of (by rw [← numV_map]; exact (R'.fr D _ upd_same).1),?_,fun m h1 h2=>?_⟩
        · unfold wats
          rw [List.length_map,List.length_map]
          exact List.length_pos_iff.mpr (O.on i hi ho).1
        · have z:=q H' (Rep.drop ⟨G,gs,ms,hA,R'⟩ (RX.none_of hD))
          rw [← greatest_cast h1 h2] at z
          exact z
theorem map_take_snoc {α β:Type} {l:List α} {g:α→β} {i:Nat} {x:α} (h:l[i]?=some x):(l.take (i + 1)).map g=(l.take i).map g ++ [g x]:=by
  rw [take_snoc h,List.map_append]
  rfl
theorem ok_all_reserved (T:Txt K mg t) (F:Fun K "all_reserved" "all_reserved" s_all_reserved f fd) (F_reserved_at:Known P w₀ K mg base "reserved_at" 1 ["port"] (spP t (fun _=>True) fun x=>.int (Vbcnam.reserved x))) :
    FnOk P w₀ K mg base CX0 2 f fd ["world"] (spW t fun w=>.int (Vbcnam.allReserved w)):=by
  refine F.ok sc_all_reserved (fun vs H Q E h=>?_) (fun cdv A outer s H vs Q E hr h=>?_)
  · obtain ⟨_,_,_,rfl,_⟩:=h; rfl
  · obtain ⟨A,w,E,rfl,R,O,q⟩:=h
    have q:∀ H',Rep t A H' w E→Q (.int (Vbcnam.allReserved w)) H':=q
    have nd:=sc_all_reserved.nd
    refine ⟨_,(pss_one (ps_ret (pe_callB (cr_sumK (K:=K)) (by rfl) T.b_sum boot_sum (pa_cons (pe_lc (own:=[("port",1)]) rfl nd (pi_listK (K:=K) (pe_fl (K:=K) (pv 0))) (by show BlkOk ["world","port"] (defScope s_all_reserved) _ _; exact ⟨rfl,by decide +kernel,by decide +kernel,by decide +kernel,by decide +kernel⟩) (fun _ _ _ _ _=>pg_name (i:=1) nd rfl (Or.inl rfl)) (fun _ _ _ _ _=>pts_nil) (fun _ _ _ _ _=>(pe_f F_reserved_at (hr.mono (by decide)) (pa_cons (pv 1) pa_nil)))) pa_nil)))),?_⟩
    obtain ⟨G,gs,ms,hA,RX⟩:=id R
    have hw:=RX.at_ .wd trivial
    rw [hA .wd rfl,] at hw
    refine ⟨_,rfl,r_world_ports T hw ⟨G.ad .pl,rfl,⟨_,SqL.of (RX.at_ .pl trivial)⟩,fun D hD=>?_⟩⟩
    have ED:=RX.none_of hD
    refine lc_list (K:=K) (a:=G.ad .pl) (xs:=refs ((List.range w.ports.length).map fun i=>G.ad (.po i))) (fun i H'=>Rep t A H' w (upd E D (.lst (numV ((w.ports.take i).map Vbcnam.reserved)))))
      ⟨G,gs,ms,hA,RX.ext hD⟩ (fun i H' _ R'=>?_) (fun i x H' hx R'=>?_) (fun H' R'=>?_)
    · obtain ⟨G',gs',ms',hA',RX'⟩:=R'
      have z:=RX'.at_ .pl trivial
      rw [hA' .pl rfl,← hA .pl rfl] at z
      refine SqL.of (z.trans ?_)
      show some (HO.lst _)=_
      congr 3
      exact List.map_congr_left fun j _=>(hA' (.po j) rfl).trans (hA (.po j) rfl).symm
    · obtain ⟨hi,rfl⟩:=refs_get hx
      refine ⟨rfl,?_⟩
      refine yesI ?_
      refine ⟨_,rfl,A,w,_,i,by rw [hA (.po i) rfl],R',O,hi,trivial,fun H2 R2=>⟨_,R2.beside upd_same,?_,?_⟩⟩
      · unfold numV
        rw [List.length_map,List.length_map]
        exact Nat.lt_of_le_of_lt (List.take_sublist i _).length_le (Nat.lt_of_le_of_lt O.np (by decide))
      · have e2:numV ((w.ports.take (i + 1)).map Vbcnam.reserved)=numV ((w.ports.take i).map Vbcnam.reserved) ++ [V.int (Vbcnam.reserved (pAt w i))]:=by
          rw [map_take_snoc (pAt_get hi)]
          unfold numV
          rw [List.map_append]
          rfl
        rw [e2]
        obtain ⟨G',gs',ms',hA',RX'⟩:=R2
        have R3:=RX'.extw (o:=.lst (numV ((w.ports.take i).map Vbcnam.reserved) ++ [V.int (Vbcnam.reserved (pAt w i))])) upd_same trivial
        rw [upd_upd] at R3
        exact ⟨G',gs',ms',hA',R3⟩
    · have e2:w.ports.take (refs ((List.range w.ports.length).map fun i=>G.ad (.po i))).length=w.ports:=by
        unfold refs
        rw [List.length_map,List.length_map,List.length_range,List.take_length]
      rw [e2] at R'
      refine ⟨D,_,rfl,SqL.of (by rw [← numV_map]; exact R'.beside upd_same),?_⟩
      rw [sum_cast]
      exact q H' (R'.drop ED)
theorem devV_some {x:VP} {d:Addr} {y:VD} (h:x.device=some y):devV x d=.ref d:=by unfold devV; rw [h]; rfl
theorem devV_none {x:VP} {d:Addr} (h:x.device=none):devV x d=.non:=by unfold devV; rw [h]; rfl
theorem RepX.dev {G:Gad} {gs:Nat→List Addr} {ms:List Addr} {H E:Hp} {w:VW} (R:RepX t G gs ms H w E) {i:Nat} {y:VD} (hi:i < w.ports.length) (hy:(pAt w i).device=some y) :
    H (G.ad (.dv i))=some (.ins t.CD (G.dx (.dv i)) (devF y)):=by
  have z:=R.at_ (.dv i) ⟨hi,by rw [hy]; rfl⟩
  have e:dOf (pAt w i)=y:=by unfold dOf; rw [hy]; rfl
  have z2:H (G.ad (.dv i))=some (.ins t.CD (G.dx (.dv i)) (devF (dOf (pAt w i)))):=z
  rw [e] at z2
  exact z2
theorem RepX.prt {G:Gad} {gs:Nat→List Addr} {ms:List Addr} {H E:Hp} {w:VW} (R:RepX t G gs ms H w E) {i:Nat} (hi:i < w.ports.length) :
    H (G.ad (.po i))=some (.ins t.CP (G.dx (.po i)) (portF i (pAt w i) (G.ad (.gr i)) (devV (pAt w i) (G.ad (.dv i))))):=R.at_ (.po i) hi
theorem RepX.prtD {G:Gad} {gs:Nat→List Addr} {ms:List Addr} {H E:Hp} {w:VW} (R:RepX t G gs ms H w E) {i:Nat} {y:VD} (hi:i < w.ports.length) (hy:(pAt w i).device=some y) :
    H (G.ad (.po i))=some (.ins t.CP (G.dx (.po i)) (portF i (pAt w i) (G.ad (.gr i)) (.ref (G.ad (.dv i))))):=by rw [R.prt hi,devV_some hy]
theorem RepX.prtN {G:Gad} {gs:Nat→List Addr} {ms:List Addr} {H E:Hp} {w:VW} (R:RepX t G gs ms H w E) {i:Nat} (hi:i < w.ports.length) (hy:(pAt w i).device=none) :
    H (G.ad (.po i))=some (.ins t.CP (G.dx (.po i)) (portF i (pAt w i) (G.ad (.gr i)) .non)):=by rw [R.prt hi,devV_none hy]
theorem ok_drawn_at (T:Txt K mg t) (F:Fun K "drawn_at" "drawn_at" s_drawn_at f fd):FnOk P w₀ K mg base CX0 1 f fd ["port"] (spP t (fun _=>True) fun x=>.int (Vbcnam.drawn x)):=by
  refine F.ok sc_drawn_at (fun vs H Q E h=>?_) (fun cdv A outer s H vs Q E hr h=>?_)
  · obtain ⟨_,_,_,_,rfl,_⟩:=h; rfl
  · obtain ⟨A,w,E,i,rfl,R,O,hi,_,q⟩:=h
    have q:Q (.int (Vbcnam.drawn (pAt w i))) H:=q H R
    have nd:=sc_drawn_at.nd
    refine ⟨_,(pss_cons (ps_if (PW.pt (pw_or (pt_cmpR op_eq (pe_fl (K:=K) (pv 0)) pe_int (nomark _)) (pw_or1 (pt_cmpR op_isN (pe_fl (K:=K) (pv 0)) pe_non (nomark _))))) (pss_one (ps_ret pe_int)) pss_nil) (pss_one (ps_ret (pe_fl (K:=K) (pe_fl (K:=K) (pv 0)))))),?_⟩
    obtain ⟨G,gs,ms,hA,RX⟩:=id R
    rw [← hA (.po i) rfl]
    unfold Vbcnam.drawn at q
    refine ⟨_,rfl,r_port_on T (RX.prt hi) ⟨rfl,_,rfl,?_⟩⟩
    cases ho:(pAt w i).on with
    | false =>
      refine ite2 (fun _=>ite2 (fun _=>?_) (fun h=>absurd rfl h)) (fun h=>absurd rfl h)
      rw [ho] at q
      cases hd:(pAt w i).device with
      | none=>rw [hd] at q; exact q
      | some y=>rw [hd] at q; exact q
    | true =>
      refine ite2 (fun h=>absurd h (by decide)) (fun _=>?_)
      rw [ho] at q
      cases hd:(pAt w i).device with
      | none =>
        refine ⟨_,rfl,r_port_device T (RX.prtN hi hd) ⟨rfl,_,rfl,?_⟩⟩
        refine ite2 (fun _=>?_) (fun h=>absurd rfl h)
        rw [hd] at q
        exact q
      | some y =>
        refine ⟨_,rfl,r_port_device T (RX.prtD hi hd) ⟨rfl,_,rfl,?_⟩⟩
        refine ite2 (fun h=>nomatch of_decide_eq_true h) (fun _=>?_)
        rw [hd] at q
        exact ⟨_,rfl,r_port_device T (RX.prtD hi hd) (r_dev_draws T (RX.dev hi hd) q)⟩
theorem ok_all_drawn (T:Txt K mg t) (F:Fun K "all_drawn" "all_drawn" s_all_drawn f fd) (F_drawn_at:Known P w₀ K mg base "drawn_at" 1 ["port"] (spP t (fun _=>True) fun x=>.int (Vbcnam.drawn x))) :
    FnOk P w₀ K mg base CX0 2 f fd ["world"] (spW t fun w=>.int (Vbcnam.allDrawn w)):=by
  refine F.ok sc_all_drawn (fun vs H Q E h=>?_) (fun cdv A outer s H vs Q E hr h=>?_)
  · obtain ⟨_,_,_,rfl,_⟩:=h; rfl
  · obtain ⟨A,w,E,rfl,R,O,q⟩:=h
    have q:∀ H',Rep t A H' w E→Q (.int (Vbcnam.allDrawn w)) H':=q
    have nd:=sc_all_drawn.nd
    refine ⟨_,(pss_one (ps_ret (pe_callB (cr_sumK (K:=K)) (by rfl) T.b_sum boot_sum (pa_cons (pe_lc (own:=[("port",1)]) rfl nd (pi_listK (K:=K) (pe_fl (K:=K) (pv 0))) (by show BlkOk ["world","port"] (defScope s_all_drawn) _ _; exact ⟨rfl,by decide +kernel,by decide +kernel,by decide +kernel,by decide +kernel⟩) (fun _ _ _ _ _=>pg_name (i:=1) nd rfl (Or.inl rfl)) (fun _ _ _ _ _=>pts_nil) (fun _ _ _ _ _=>(pe_f F_drawn_at (hr.mono (by decide)) (pa_cons (pv 1) pa_nil)))) pa_nil)))),?_⟩
    obtain ⟨G,gs,ms,hA,RX⟩:=id R
    have hw:=RX.at_ .wd trivial
    rw [hA .wd rfl,] at hw
    refine ⟨_,rfl,r_world_ports T hw ⟨G.ad .pl,rfl,⟨_,SqL.of (RX.at_ .pl trivial)⟩,fun D hD=>?_⟩⟩
    have ED:=RX.none_of hD
    refine lc_list (K:=K) (a:=G.ad .pl) (xs:=refs ((List.range w.ports.length).map fun i=>G.ad (.po i))) (fun i H'=>Rep t A H' w (upd E D (.lst (numV ((w.ports.take i).map Vbcnam.drawn)))))
      ⟨G,gs,ms,hA,RX.ext hD⟩ (fun i H' _ R'=>?_) (fun i x H' hx R'=>?_) (fun H' R'=>?_)
    · obtain ⟨G',gs',ms',hA',RX'⟩:=R'
      have z:=RX'.at_ .pl trivial
      rw [hA' .pl rfl,← hA .pl rfl] at z
      refine SqL.of (z.trans ?_)
      show some (HO.lst _)=_
      congr 3
      exact List.map_congr_left fun j _=>(hA' (.po j) rfl).trans (hA (.po j) rfl).symm
    · obtain ⟨hi,rfl⟩:=refs_get hx
      refine ⟨rfl,?_⟩
      refine yesI ?_
      refine ⟨_,rfl,A,w,_,i,by rw [hA (.po i) rfl],R',O,hi,trivial,fun H2 R2=>⟨_,R2.beside upd_same,?_,?_⟩⟩
      · unfold numV
        rw [List.length_map,List.length_map]
        exact Nat.lt_of_le_of_lt (List.take_sublist i _).length_le (Nat.lt_of_le_of_lt O.np (by decide))
      · have e2:numV ((w.ports.take (i + 1)).map Vbcnam.drawn)=numV ((w.ports.take i).map Vbcnam.drawn) ++ [V.int (Vbcnam.drawn (pAt w i))]:=by
          rw [map_take_snoc (pAt_get hi)]
          unfold numV
          rw [List.map_append]
          rfl
        rw [e2]
        obtain ⟨G',gs',ms',hA',RX'⟩:=R2
        have R3:=RX'.extw (o:=.lst (numV ((w.ports.take i).map Vbcnam.drawn) ++ [V.int (Vbcnam.drawn (pAt w i))])) upd_same trivial
        rw [upd_upd] at R3
        exact ⟨G',gs',ms',hA',R3⟩
    · have e2:w.ports.take (refs ((List.range w.ports.length).map fun i=>G.ad (.po i))).length=w.ports:=by
        unfold refs
        rw [List.length_map,List.length_map,List.length_range,List.take_length]
      rw [e2] at R'
      refine ⟨D,_,rfl,SqL.of (by rw [← numV_map]; exact R'.beside upd_same),?_⟩
      rw [sum_cast]
      exact q H' (R'.drop ED)
theorem latest_get {x:VP} {g:VG} {l:List VG} (h:x.grants=l ++ [g]):Vbcnam.latest x=g.watts:=by
  unfold Vbcnam.latest
  rw [h,List.getLast?_concat]
  rfl
theorem snoc_of {α:Type} {l:List α} (h:l≠[]):∃ r x,l=r ++ [x]:=⟨l.dropLast,l.getLast h,(List.dropLast_concat_getLast h).symm⟩
theorem ok_latest_amount (T:Txt K mg t) (F:Fun K "latest_amount" "latest_amount" s_latest_amount f fd):FnOk P w₀ K mg base CX0 1 f fd ["port"] (spP t (fun x=>x.grants≠[]) fun x=>.int (Vbcnam.latest x)):=by
  refine F.ok sc_latest_amount (fun vs H Q E h=>?_) (fun cdv A outer s H vs Q E hr h=>?_)
  · obtain ⟨_,_,_,_,rfl,_⟩:=h; rfl
  · obtain ⟨A,w,E,i,rfl,R,O,hi,hne,q⟩:=h
    have q:Q (.int (Vbcnam.latest (pAt w i))) H:=q H R
    have nd:=sc_latest_amount.nd
    refine ⟨_,(pss_one (ps_ret (pe_ix (ix_tupK (K:=K)) (pe_ix (ix_listK (K:=K)) (pe_fl (K:=K) (pv 0)) (pe_un un_neg pe_int) (fun _ _=>rfl)) pe_int (fun _ _=>rfl)))),?_⟩
    obtain ⟨G,gs,ms,hA,RX⟩:=id R
    rw [← hA (.po i) rfl]
    have hgs:gs i≠[]:=fun z=>hne (by have:=RX.glen hi; rw [z] at this; exact List.eq_nil_of_length_eq_zero this.symm)
    obtain ⟨r,a,ea⟩:=snoc_of hgs
    obtain ⟨l,g,eg⟩:=snoc_of hne
    have hl:r.length=l.length:=by
      have:=RX.glen hi
      rw [ea,eg,List.length_append,List.length_append] at this
      simpa using this
    obtain ⟨g',hg',hga⟩:=RX.grant (j:=r.length) (a:=a) hi (by rw [ea]; simp)
    have eg':g'=g:=by
      rw [eg,hl] at hg'
      simpa using hg'.symm
    subst eg'
    rw [latest_get eg] at q
    have hgr:=RX.at_ (.gr i) hi
    refine ⟨_,rfl,r_port_grants T (RX.prt hi) ⟨_,rfl,_,_,_,V.ref a,rfl,rfl,SqL.of hgr,?_,a,_,_,.int g'.watts,rfl,rfl,SqT.of hga,rfl,q⟩⟩
    show atI (refs (gs i)) (-1)=some (V.ref a)
    rw [ea]
    unfold refs
    rw [List.map_append]
    exact atI_last _ _
theorem ok_bag_is_full (T:Txt K mg t) (F:Fun K "bag_is_full" "bag_is_full" s_bag_is_full f fd):FnOk P w₀ K mg base CX0 1 f fd ["world"] (spW t fun w=>.bl (Vbcnam.full w)):=by
  refine F.ok sc_bag_is_full (fun vs H Q E h=>?_) (fun cdv A outer s H vs Q E hr h=>?_)
  · obtain ⟨_,_,_,rfl,_⟩:=h; rfl
  · obtain ⟨A,w,E,rfl,R,O,q⟩:=h
    have q:Q (.bl (Vbcnam.full w)) H:=q H R
    have nd:=sc_bag_is_full.nd
    refine ⟨_,(pss_one (ps_ret (pe_cmpR op_ge (pe_callB (call_lenK (K:=K)) (by rfl) T.b_len PySem.boot_len (pa_cons (pe_fl (K:=K) (pv 0)) pa_nil)) (pe_fl (K:=K) (pv 0)) (nomark _)))),?_⟩
    obtain ⟨G,gs,ms,hA,RX⟩:=id R
    rw [← hA .wd rfl]
    have hw:=RX.at_ .wd trivial
    refine ⟨_,rfl,r_world_bag T hw ⟨_,_,rfl,.inl (SqL.of (RX.at_ .bg trivial)),_,rfl,r_world_cap T hw ⟨_,_,rfl,rfl,?_⟩⟩⟩
    have e:decide ((w.cap:Int)≤((refs ms).length:Nat))=Vbcnam.full w:=by
      unfold Vbcnam.full refs
      rw [List.length_map,RX.mlen]
      exact decide_eq_decide.mpr (by omega)
    rw [← e] at q
    exact q
def fitB (x:VP):Bool:=(Vbcnam.fit x).isSome
theorem ok_is_fit (T:Txt K mg t) (F:Fun K "is_fit" "is_fit" s_is_fit f fd):FnOk P w₀ K mg base CX0 1 f fd ["port"] (spP t (fun _=>True) fun x=>.bl (fitB x)):=by
  refine F.ok sc_is_fit (fun vs H Q E h=>?_) (fun cdv A outer s H vs Q E hr h=>?_)
  · obtain ⟨_,_,_,_,rfl,_⟩:=h; rfl
  · obtain ⟨A,w,E,i,rfl,R,O,hi,_,q⟩:=h
    have q:Q (.bl (fitB (pAt w i))) H:=q H R
    have nd:=sc_is_fit.nd
    refine ⟨_,(pss_one (ps_ret (pe_and (pe_cmpR op_eq (pe_fl (K:=K) (pv 0)) pe_int (nomark _)) (pe_and (pe_cmpR op_eq (pe_fl (K:=K) (pv 0)) pe_int (nomark _)) (pe_one (pe_cmpR op_notN (pe_fl (K:=K) (pv 0)) pe_non (nomark _))))))),?_⟩
    obtain ⟨G,gs,ms,hA,RX⟩:=id R
    rw [← hA (.po i) rfl]
    refine ⟨_,rfl,r_port_enabled T (RX.prt hi) ⟨rfl,_,rfl,?_⟩⟩
    cases he:(pAt w i).enabled with
    | false =>
      refine ite2 (fun h=>absurd h (by decide)) (fun _=>?_)
      have e:fitB (pAt w i)=false:=by unfold fitB Vbcnam.fit; rw [if_neg (by rw [he]; simp)]; rfl
      rw [e] at q
      exact q
    | true =>
      refine ite2 (fun _=>?_) (fun h=>absurd rfl h)
      refine ⟨_,rfl,r_port_faulty T (RX.prt hi) ⟨rfl,_,rfl,?_⟩⟩
      cases hf:(pAt w i).faulty with
      | true =>
        refine ite2 (fun h=>absurd h (by decide)) (fun _=>?_)
        have e:fitB (pAt w i)=false:=by unfold fitB Vbcnam.fit; rw [if_neg (by rw [hf]; simp)]; rfl
        rw [e] at q
        exact q
      | false =>
        refine ite2 (fun _=>?_) (fun h=>absurd rfl h)
        have e:fitB (pAt w i)=(pAt w i).device.isSome:=by unfold fitB Vbcnam.fit; rw [if_pos ⟨he,hf⟩]
        rw [e] at q
        cases hd:(pAt w i).device with
        | none =>
          rw [hd] at q
          exact ⟨_,rfl,r_port_device T (RX.prtN hi hd) ⟨rfl,q⟩⟩
        | some y =>
          rw [hd] at q
          exact ⟨_,rfl,r_port_device T (RX.prtD hi hd) ⟨rfl,q⟩⟩
theorem ok_surplus_wished (T:Txt K mg t) (F:Fun K "surplus_wished" "surplus_wished" s_surplus_wished f fd) (F_base_of:Known P w₀ K mg base "base_of" 1 ["device"] (sp_base_of t)) :
    FnOk P w₀ K mg base CX0 2 f fd ["port"] (spP t (fun x=>x.device.isSome=true) fun x=>.int ((min x.wish.watts x.most - Vbcnam.base (dOf x).cls:Nat):Int)):=by
  refine F.ok sc_surplus_wished (fun vs H Q E h=>?_) (fun cdv A outer s H vs Q E hr h=>?_)
  · obtain ⟨_,_,_,_,rfl,_⟩:=h; rfl
  · obtain ⟨A,w,E,i,rfl,R,O,hi,hd,q⟩:=h
    have q:Q (.int ((min (pAt w i).wish.watts (pAt w i).most - Vbcnam.base (dOf (pAt w i)).cls:Nat):Int)) H:=q H R
    have nd:=sc_surplus_wished.nd
    refine ⟨_,(pss_one (ps_ret (pe_callB (call_max2 rfl) (by rfl) T.b_max boot_max (pa_cons pe_int (pa_cons (pe_op op_sub (pe_callB (call_min2 rfl) (by rfl) T.b_min boot_min (pa_cons (pe_fl (K:=K) (pv 0)) (pa_cons (pe_fl (K:=K) (pv 0)) pa_nil))) (pe_f F_base_of (hr.mono (by decide)) (pa_cons (pe_fl (K:=K) (pv 0)) pa_nil))) pa_nil))))),?_⟩
    obtain ⟨G,gs,ms,hA,RX⟩:=id R
    rw [← hA (.po i) rfl]
    obtain ⟨y,hy⟩:=Option.isSome_iff_exists.mp hd
    have ey:dOf (pAt w i)=y:=by unfold dOf; rw [hy]; rfl
    rw [ey] at q
    refine ⟨_,rfl,r_port_wish_amount T (RX.prt hi) ⟨_,rfl,r_port_most T (RX.prt hi) ⟨_,_,rfl,?_⟩⟩⟩
    refine ⟨_,rfl,r_port_device T (RX.prtD hi hy) ⟨_,_,y,rfl,RX.dev hi hy,O.cls i hi y hy,_,_,rfl,rfl,_,_,rfl,?_⟩⟩
    have e:(if ((if ((pAt w i).most:Int) < ((pAt w i).wish.watts:Int) then ((pAt w i).most:Int) else ((pAt w i).wish.watts:Int)) - (Vbcnam.base y.cls:Int)) > 0 then ((if ((pAt w i).most:Int) < ((pAt w i).wish.watts:Int) then ((pAt w i).most:Int) else ((pAt w i).wish.watts:Int)) - (Vbcnam.base y.cls:Int)) else 0)
        = ((min (pAt w i).wish.watts (pAt w i).most - Vbcnam.base y.cls:Nat):Int):=by
      by_cases h:((pAt w i).most:Int) < ((pAt w i).wish.watts:Int)
      · rw [if_pos h]
        have e1:min (pAt w i).wish.watts (pAt w i).most=(pAt w i).most:=Nat.min_eq_right (by omega)
        rw [e1]
        split <;> omega
      · rw [if_neg h]
        have e1:min (pAt w i).wish.watts (pAt w i).most=(pAt w i).wish.watts:=Nat.min_eq_left (by omega)
        rw [e1]
        split <;> omega
    rw [← e] at q
    exact q
end
end WP
namespace WO
open Vbcnam
variable {α:Type}
theorem sorted_ext (key:α→Int):∀ (l1 l2:List α),l1.Pairwise (fun a b=>key a≤key b)→l2.Pairwise (fun a b=>key a≤key b)→(∀ c,l1.filter (fun a=>key a == c)=l2.filter (fun a=>key a == c))→l1=l2
  | [],l2,_,_,h=>by
    cases l2 with
    | nil=>rfl
    | cons y r =>
      have:=h (key y)
      simp at this
  | x::r,[],_,_,h=>by
    have:=h (key x)
    simp at this
  | x::r,y::s,p1,p2,h=>by
    have a1:=List.pairwise_cons.mp p1
    have a2:=List.pairwise_cons.mp p2
    have mem:∀ (u v:α) (l m:List α),(∀ c,(u::l).filter (fun a=>key a == c)=(v::m).filter (fun a=>key a == c))→(∀ b ∈ m,key v≤key b)→key v≤key u:=by
      intro u v l m hh hm
      have e:u ∈ (v::m).filter (fun a=>key a == key u):=by
        rw [← hh (key u)]
        simp
      have e2:=(List.mem_filter.mp e).1
      rcases List.mem_cons.mp e2 with rfl | e2
      · exact Int.le_refl _
      · exact hm u e2
    have k1:key y≤key x:=mem x y r s h a2.1
    have k2:key x≤key y:=mem y x s r (fun c=>(h c).symm) a1.1
    have ke:key x=key y:=Int.le_antisymm k2 k1
    have hx:=h (key x)
    rw [List.filter_cons,if_pos (by simp),List.filter_cons,if_pos (by simp [ke])] at hx
    have exy:x=y:=(List.cons.inj hx).1
    subst exy
    have t:r=s:=sorted_ext key r s a1.2 a2.2 fun c=>by
      have hc:=h c
      rw [List.filter_cons,List.filter_cons] at hc
      split at hc
      · exact (List.cons.inj hc).2
      · exact hc
    rw [t]
def rk (w:World) (i:Nat):Int:=((portAt w i).rank:Int)
theorem insert_mem (w:World) (a:Nat):∀ (l:List Nat) (x:Nat),x ∈ Vbcnam.insert w a l↔x=a∨x ∈ l
  | [],x=>by unfold Vbcnam.insert; simp
  | b::l,x=>by
    unfold Vbcnam.insert
    split
    · simp
    · rw [List.mem_cons,insert_mem w a l x,List.mem_cons]
      constructor
      · rintro (h | h | h)
        · exact .inr (.inl h)
        · exact .inl h
        · exact .inr (.inr h)
      · rintro (h | h | h)
        · exact .inr (.inl h)
        · exact .inl h
        · exact .inr (.inr h)
theorem insert_sorted (w:World) (a:Nat):∀ (l:List Nat),(∀ b ∈ l,a < b)→l.Pairwise (fun x y=>rk w x≤rk w y)→(Vbcnam.insert w a l).Pairwise (fun x y=>rk w x≤rk w y)
  | [],_,_=>by unfold Vbcnam.insert; simp
  | b::l,h,p=>by
    have pc:=List.pairwise_cons.mp p
    have hb:=h b List.mem_cons_self
    unfold Vbcnam.insert
    split
    · rename_i hc
      have hr:rk w a≤rk w b:=by unfold rk; omega
      refine List.pairwise_cons.mpr ⟨fun y hy=>?_,p⟩
      rcases List.mem_cons.mp hy with rfl | hy
      · exact hr
      · exact Int.le_trans hr (pc.1 y hy)
    · rename_i hc
      have hr:rk w b≤rk w a:=by unfold rk; omega
      refine List.pairwise_cons.mpr ⟨fun y hy=>?_,insert_sorted w a l (fun b' hb'=>h b' (List.mem_cons_of_mem _ hb')) pc.2⟩
      rcases (insert_mem w a l y).mp hy with rfl | hy
      · exact hr
      · exact pc.1 y hy
theorem insert_filter (w:World) (a:Nat) (c:Int):∀ (l:List Nat),(∀ b ∈ l,a < b)→l.Pairwise (fun x y=>rk w x≤rk w y) →
    (Vbcnam.insert w a l).filter (fun i=>rk w i == c)=(a::l).filter (fun i=>rk w i == c)
  | [],_,_=>by unfold Vbcnam.insert; rfl
  | b::l,h,p=>by
    have pc:=List.pairwise_cons.mp p
    have hb:=h b List.mem_cons_self
    unfold Vbcnam.insert
    split
    · rfl
    · rename_i hc
      have hr:rk w b < rk w a:=by unfold rk; omega
      have ih:=insert_filter w a c l (fun b' hb'=>h b' (List.mem_cons_of_mem _ hb')) pc.2
      rw [List.filter_cons,ih,List.filter_cons,List.filter_cons (x:=a),List.filter_cons (x:=b)]
      by_cases e1:rk w a=c
      · have e2:¬ rk w b=c:=by omega
        simp [e1,e2]
      · simp [e1]
theorem order_all (w:World):∀ (l:List Nat),l.Pairwise (· < ·)→(∀ x,x ∈ l.foldr (Vbcnam.insert w) []↔x ∈ l)∧(l.foldr (Vbcnam.insert w) []).Pairwise (fun x y=>rk w x≤rk w y)∧∀ c,(l.foldr (Vbcnam.insert w) []).filter (fun i=>rk w i == c)=l.filter (fun i=>rk w i == c)
  | [],_=>⟨fun _=>Iff.rfl,List.Pairwise.nil,fun _=>rfl⟩
  | a::l,p=>by
    have pc:=List.pairwise_cons.mp p
    obtain ⟨h1,h2,h3⟩:=order_all w l pc.2
    have lt:∀ b ∈ l.foldr (Vbcnam.insert w) [],a < b:=fun b hb=>pc.1 b ((h1 b).mp hb)
    rw [List.foldr_cons]
    refine ⟨fun x=>?_,insert_sorted w a _ lt h2,fun c=>?_⟩
    · rw [insert_mem,h1,List.mem_cons]
    · rw [insert_filter w a c _ lt h2,List.filter_cons,h3,List.filter_cons]
theorem range_lt (n:Nat):(List.range n).Pairwise (· < ·):=List.pairwise_lt_range
theorem order_mem (w:World) (x:Nat):x ∈ order w↔x < w.ports.length:=by
  unfold order
  rw [(order_all w _ (range_lt _)).1,List.mem_range]
theorem order_sorted (w:World):(order w).Pairwise (fun x y=>rk w x≤rk w y):=(order_all w _ (range_lt _)).2.1
theorem order_filter (w:World) (c:Int):(order w).filter (fun i=>rk w i == c)=(List.range w.ports.length).filter (fun i=>rk w i == c):=(order_all w _ (range_lt _)).2.2 c
theorem insert_perm (w:World) (a:Nat):∀ l:List Nat,(Vbcnam.insert w a l).Perm (a::l)
  | []=>by unfold Vbcnam.insert; exact List.Perm.refl _
  | b::l=>by
    unfold Vbcnam.insert
    split
    · exact List.Perm.refl _
    · exact ((insert_perm w a l).cons b).trans (List.Perm.swap a b l)
theorem foldr_perm (w:World):∀ l:List Nat,(l.foldr (Vbcnam.insert w) []).Perm l
  | []=>List.Perm.refl _
  | a::l=>(insert_perm w a _).trans ((foldr_perm w l).cons a)
theorem order_perm (w:World):(order w).Perm (List.range w.ports.length):=foldr_perm w _
theorem order_nodup (w:World):(order w).Nodup:=(order_perm w).nodup_iff.mpr List.nodup_range
theorem order_len (w:World):(order w).length=w.ports.length:=by rw [(order_perm w).length_eq,List.length_range]
end WO
set_option maxHeartbeats 4000000
namespace WP
open PySem PySem.Spec PyProof.Rows L2
section
variable {P:Program} {w₀:PySem.World} {K:PySem.W.Frag} {mg:Str→Option Value} {base:Heap} {t:Cas} {f:Addr} {fd:FuncData}
theorem Fun_okC {x qual:Str} {st:Stmt} {N ps:List Str} {k:Nat} {sp:Sp} (F:Fun K x qual st f fd) (S:FnScope N ps (defScope st)) (len:∀ vs H Q E,sp vs H Q E→vs.length=ps.length)
    (hbody:∀ (cdv:Value) (hc:fd.code=cdv) (A:Around) (outer:List Env) (s:Shared) (H:Hp) (vs:List V) (Q:VK) (E:XK),Room k (A.deeper (envOfC qual (defScope st) s.heap.objs.size f cdv))→sp vs H Q E →
      ∃ t,PSs (cxOf CX0 P w₀ K mg base N qual (defScope st) f cdv A outer s H E).nox (defBody st) t∧t { nx:=fun _ H'=>Q .non H',rt:=Q } (start N vs) H):FnOk P w₀ K mg base CX0 (k + 1) f fd ps sp:=by
  obtain ⟨oc,od,kV,doc,pm,an,cdv,ct,osl,e,lk,hcd⟩:=F.ex
  subst e
  refine fn_of lk hcd S len fun A outer s H vs Q E hr hsp=>?_
  obtain ⟨t,h,q⟩:=hbody cdv rfl A outer s H vs Q E hr hsp
  exact ⟨t,h.nox,q⟩
def ordA (A:Rl→Addr) (w:VW):List Addr:=(Vbcnam.order w).map fun i=>A (.po i)
def sp_order (t:Cas):Sp:=fun vs H Q _=>∃ (A:Rl→Addr) (w:VW) (E:Hp),vs=[.ref (A .wd)]∧Rep t A H w E∧Ok w ∧
  ∀ H' p,E p=none→Rep t A H' w (upd E p (.lst (refs (ordA A w))))→Q (.ref p) H'
theorem key_order {w:VW} {a:Nat→Addr} {out:List Addr} (h:KeyOut ((List.range w.ports.length).map (WO.rk w)) ((List.range w.ports.length).map a) out):out=(Vbcnam.order w).map a:=by
  obtain ⟨qs,h1,h2,h3,h4⟩:=h
  have z:((List.range w.ports.length).map (WO.rk w)).zip ((List.range w.ports.length).map a)=(List.range w.ports.length).map fun i=>(WO.rk w i,a i):=by
    exact List.zip_map'
  have e:qs=(Vbcnam.order w).map fun i=>(WO.rk w i,a i):=by
    refine WO.sorted_ext (fun p:Int × Addr=>p.1) _ _ h3 ?_ fun c=>?_
    · rw [List.pairwise_map]
      exact WO.order_sorted w
    · rw [h4 c,z,List.filter_map,List.filter_map]
      show ((List.range w.ports.length).filter (fun i=>WO.rk w i == c)).map _=((Vbcnam.order w).filter (fun i=>WO.rk w i == c)).map _
      rw [WO.order_filter]
  rw [h2,e,List.map_map]
  rfl
theorem ok_order_of_ports (T:Txt K mg t) (F:Fun K "order_of_ports" "order_of_ports" s_order_of_ports f fd) (hc:fd.code=.ref t.c) (hC:PySem.W.CodeHd base t.c t.T) (hbm:L2.BMain base mg) :
    FnOk P w₀ K mg base CX0 4 f fd ["world"] (sp_order t):=by
  refine Fun_okC F sc_order_of_ports (fun vs H Q E h=>?_) (fun cdv hcd A outer s H vs Q E hr h=>?_)
  · obtain ⟨_,_,_,rfl,_⟩:=h; rfl
  · obtain ⟨A,w,E,rfl,R,O,q⟩:=h
    rw [hc] at hcd
    subst hcd
    have nd:=sc_order_of_ports.nd
    refine ⟨_,(pss_one (ps_ret (pe_sortkey (P:=t.T) (c:=t.c) (v:="port") (fld:="rank") (te:=tFld K (tVar 0) "ports") (pe_fl (K:=K) (pv 0)) hr (by rfl) T.b_sorted boot_sorted rfl hC hbm rfl rfl ⟨rfl,rfl,rfl,by decide +kernel,rfl,by decide +kernel,by decide +kernel⟩ (fun _ _ _ _ _=>rfl) (fun _ _ _ _ _=>pe_fl (K:=K) (pv 0))))),?_⟩
    obtain ⟨G,gs,ms,hA,RX⟩:=id R
    rw [← hA .wd rfl]
    refine ⟨_,rfl,r_world_ports T (RX.at_ .wd trivial) ⟨G.ad .pl,(List.range w.ports.length).map (fun i=>G.ad (.po i)),(List.range w.ports.length).map (WO.rk w),rfl,SqL.of (RX.at_ .pl trivial),by rw [List.length_map,List.length_map],RX.tab,fun i a k ha hk=>?_,fun D H' out ko hl T' kp hD hD'=>?_⟩⟩
    · rw [List.getElem?_map] at ha hk
      by_cases hi:i < w.ports.length
      · rw [List.getElem?_range hi] at ha hk
        have ha:=Option.some.inj ha
        have hk:=Option.some.inj hk
        subst ha hk
        exact ⟨_,_,_,RX.prt hi,T.cl_port,na T.na_port (by decide +kernel),portF_rank _ _ _ _⟩
      · rw [List.getElem?_eq_none (by simpa using hi)] at ha
        cases ha
    · have eo:=key_order ko
      have eo2:out=ordA A w:=by
        rw [eo]
        exact List.map_congr_left fun j _=>hA (.po j) rfl
      have ED:=RX.none_of hD
      refine q H' D ED ⟨G,gs,ms,hA,?_⟩
      have R1:=RX.mono kp T'
      rw [← eo2]
      exact {
        at_:=R1.at_
        inj:=R1.inj
        msg:=R1.msg
        grt:=R1.grt
        fr:=fun b o e=>by
          by_cases hb:b=D
          · subst hb
            rw [upd_same] at e
            cases e
            exact ⟨hD',fun r hr'=>ne_of_none (RX.at_ r hr') hD⟩
          · rw [upd_ne hb] at e
            exact R1.fr b o e
        tab:=R1.tab
        et:=by
          obtain ⟨ps,hT,_⟩:=RX.tab
          rw [upd_ne (ne_of_none hT hD)]
          exact R1.et }
end
abbrev setP (w:VW) (i:Nat) (x:VP):VW:=Vbcnam.setPort w i x
section
variable {t:Cas} {G:Gad} {gs:Nat→List Addr} {ms:List Addr} {H E:Hp} {w:VW} {i:Nat} {x x':VP}
theorem setP_self (hi:i < w.ports.length):setP w i (pAt w i)=w:=by
  have h:=pAt_get hi
  unfold setP Vbcnam.setPort
  have e:w.ports.set i (pAt w i)=w.ports:=by
    apply List.ext_getElem?
    intro j
    rw [List.getElem?_set]
    by_cases hj:i=j
    · subst hj
      rw [if_pos rfl,if_pos hi,h]
    · rw [if_neg hj]
  rw [e]
theorem setP_setP {y:VP}:setP (setP w i x) i y=setP w i y:=by
  unfold setP Vbcnam.setPort
  show { w with ports:=(w.ports.set i x).set i y }=_
  rw [List.set_set]
theorem pAt_self (hi:i < w.ports.length):pAt (setP w i x) i=x:=by rw [pAt_set hi,if_pos rfl]
theorem pAt_other {j:Nat} (hi:i < w.ports.length) (hj:j≠i):pAt (setP w i x) j=pAt w j:=by rw [pAt_set hi,if_neg hj]
theorem plen {y:VP}:(setP w i y).ports.length=w.ports.length:=List.length_set
theorem devV_eq {a b:VP} {d:Addr} (h:a.device.isSome=b.device.isSome):devV a d=devV b d:=by unfold devV; rw [h]
theorem RepX.setP (R:RepX t G gs ms H w E) (hi:i < w.ports.length) (x':VP) (hg:x'.grants=(pAt w i).grants) (hd:x'.device=(pAt w i).device) :
    RepX t G gs ms (upd H (G.ad (.po i)) (.ins t.CP (G.dx (.po i)) (portF i x' (G.ad (.gr i)) (devV x' (G.ad (.dv i)))))) (setP w i x') E:=by
  refine R.put (.po i) hi (fun r=>?_) ?_ (fun r hr hl=>?_) rfl plen fun j hj=>?_
  · cases r with
    | dv j =>
      show (j < (WP.setP w i x').ports.length∧(pAt (WP.setP w i x') j).device.isSome=true)↔(j < w.ports.length∧(pAt w j).device.isSome=true)
      rw [plen]
      by_cases hj:j=i
      · subst hj; rw [pAt_self hi,hd]
      · rw [pAt_other hi hj]
    | po j=>show j < (WP.setP w i x').ports.length↔_; rw [plen]; exact Iff.rfl
    | gr j=>show j < (WP.setP w i x').ports.length↔_; rw [plen]; exact Iff.rfl
    | _=>exact Iff.rfl
  · show HO.ins t.CP (G.dx (.po i)) (portF i (pAt (WP.setP w i x') i) _ (devV (pAt (WP.setP w i x') i) _))=_
    rw [pAt_self hi]
  · cases r with
    | po j =>
      have hj:j≠i:=fun z=>hr (by rw [z])
      show HO.ins t.CP (G.dx (.po j)) (portF j (pAt (WP.setP w i x') j) _ (devV (pAt (WP.setP w i x') j) _))=HO.ins t.CP (G.dx (.po j)) (portF j (pAt w j) _ (devV (pAt w j) _))
      rw [pAt_other hi hj]
    | dv j =>
      show HO.ins t.CD (G.dx (.dv j)) (devF (dOf (pAt (WP.setP w i x') j)))=HO.ins t.CD (G.dx (.dv j)) (devF (dOf (pAt w j)))
      by_cases hj:j=i
      · subst hj
        rw [pAt_self hi]
        unfold dOf
        rw [hd]
      · rw [pAt_other hi hj]
    | pl =>
      show HO.lst (refs ((List.range (WP.setP w i x').ports.length).map _))=HO.lst (refs ((List.range w.ports.length).map _))
      rw [plen]
    | _=>rfl
  · by_cases hji:j=i
    · subst hji; rw [pAt_self hi,hg]
    · rw [pAt_other hi hji]
theorem RepX.setD (R:RepX t G gs ms H w E) (hi:i < w.ports.length) {y:VD} (hy:(pAt w i).device=some y) (y':VD) :
    RepX t G gs ms (upd H (G.ad (.dv i)) (.ins t.CD (G.dx (.dv i)) (devF y'))) (WP.setP w i { pAt w i with device:=some y' }) E:=by
  have hs:(pAt w i).device.isSome=true:=by rw [hy]; rfl
  refine R.put (.dv i) ⟨hi,hs⟩ (fun r=>?_) ?_ (fun r hr hl=>?_) rfl plen fun j hj=>?_
  · cases r with
    | dv j =>
      show (j < (WP.setP w i _).ports.length∧(pAt (WP.setP w i { pAt w i with device:=some y' }) j).device.isSome=true)↔(j < w.ports.length∧(pAt w j).device.isSome=true)
      rw [plen]
      by_cases hj:j=i
      · subst hj; rw [pAt_self hi,hs]; exact Iff.rfl
      · rw [pAt_other hi hj]
    | po j=>show j < (WP.setP w i _).ports.length↔_; rw [plen]; exact Iff.rfl
    | gr j=>show j < (WP.setP w i _).ports.length↔_; rw [plen]; exact Iff.rfl
    | _=>exact Iff.rfl
  · show HO.ins t.CD (G.dx (.dv i)) (devF (dOf (pAt (WP.setP w i { pAt w i with device:=some y' }) i)))=_
    rw [pAt_self hi]
    rfl
  · cases r with
    | po j =>
      show HO.ins t.CP (G.dx (.po j)) (portF j (pAt (WP.setP w i { pAt w i with device:=some y' }) j) _ (devV (pAt (WP.setP w i { pAt w i with device:=some y' }) j) _))=HO.ins t.CP (G.dx (.po j)) (portF j (pAt w j) _ (devV (pAt w j) _))
      by_cases hj:j=i
      · subst hj
        rw [pAt_self hi,devV_eq (a:={ pAt w j with device:=some y' }) (b:=pAt w j) (by rw [hs]; rfl)]
        rfl
      · rw [pAt_other hi hj]
    | dv j =>
      have hj:j≠i:=fun z=>hr (by rw [z])
      show HO.ins t.CD (G.dx (.dv j)) (devF (dOf (pAt (WP.setP w i { pAt w i with device:=some y' }) j)))=HO.ins t.CD (G.dx (.dv j)) (devF (dOf (pAt w j)))
      rw [pAt_other hi hj]
    | pl =>
      show HO.lst (refs ((List.range (WP.setP w i _).ports.length).map _))=HO.lst (refs ((List.range w.ports.length).map _))
      rw [plen]
    | _=>rfl
  · by_cases hji:j=i
    · subst hji; rw [pAt_self hi]
    · rw [pAt_other hi hji]
theorem RepX.rebag (R:RepX t G gs ms H w E) {ms':List Addr} {b':List VM} (hT:Tups H ms' (b'.map mV)):RepX t G gs ms' (upd H (G.ad .bg) (.lst (refs ms'))) { w with bag:=b' } E where
  at_:=fun r h=>by
    have h':live w r:=by cases r <;> exact h
    by_cases e:r=.bg
    · subst e; rw [upd_same]; rfl
    · rw [upd_ne (fun z=>e (R.inj r .bg h' trivial z)),R.at_ r h']
      cases r <;> first | rfl | exact absurd rfl e
  inj:=fun r r' h h'=>R.inj r r' (by cases r <;> exact h) (by cases r' <;> exact h')
  msg:=tups_upd (R.soft (r:=.bg) trivial) hT
  grt:=fun j hj=>tups_upd (R.soft (r:=.bg) trivial) (R.grt j hj)
  fr:=fun b o e=>by
    obtain ⟨h1,h2⟩:=R.fr b o e
    exact ⟨by rw [upd_ne (fun z=>h2 .bg trivial z.symm)]; exact h1,fun r h=>h2 r (by cases r <;> exact h)⟩
  tab:=tab_upd (R.soft (r:=.bg) trivial) R.tab
  et:=R.et
theorem RepX.grput (R:RepX t G gs ms H w E) (hi:i < w.ports.length) {q:Addr} {g:VG} (hq:H q=some (.tup (gV g))) :
    RepX t G (fun j=>if j=i then gs i ++ [q] else gs j) ms (upd H (G.ad (.gr i)) (.lst (refs (gs i ++ [q])))) (WP.setP w i { pAt w i with grants:=(pAt w i).grants ++ [g] }) E:=by
  have lv:∀ r,live (WP.setP w i { pAt w i with grants:=(pAt w i).grants ++ [g] }) r→live w r:=fun r h=>by
    cases r with
    | dv j =>
      have h:j < (WP.setP w i _).ports.length∧(pAt (WP.setP w i _) j).device.isSome=true:=h
      rw [plen] at h
      by_cases hj:j=i
      · subst hj; rw [pAt_self hi] at h; exact h
      · rw [pAt_other hi hj] at h; exact h
    | po j=>have h:j < (WP.setP w i _).ports.length:=h; rw [plen] at h; exact h
    | gr j=>have h:j < (WP.setP w i _).ports.length:=h; rw [plen] at h; exact h
    | _=>exact h
  have sf:=R.soft (r:=.gr i) hi
  exact {
    at_:=fun r h=>by
      have h':=lv r h
      by_cases e:r=.gr i
      · subst e
        rw [upd_same]
        show some (HO.lst (refs (gs i ++ [q])))=some (HO.lst (refs (if i=i then gs i ++ [q] else gs i)))
        rw [if_pos rfl]
      · rw [upd_ne (fun z=>e (R.inj r (.gr i) h' hi z)),R.at_ r h']
        cases r with
        | gr j =>
          have hj:j≠i:=fun z=>e (by rw [z])
          show some (HO.lst (refs (gs j)))=some (HO.lst (refs (if j=i then gs i ++ [q] else gs j)))
          rw [if_neg hj]
        | po j =>
          show some (HO.ins t.CP (G.dx (.po j)) (portF j (pAt w j) _ (devV (pAt w j) _)))=some (HO.ins t.CP (G.dx (.po j)) (portF j (pAt (WP.setP w i _) j) _ (devV (pAt (WP.setP w i _) j) _)))
          by_cases hj:j=i
          · subst hj; rw [pAt_self hi]; rfl
          · rw [pAt_other hi hj]
        | dv j =>
          show some (HO.ins t.CD (G.dx (.dv j)) (devF (dOf (pAt w j))))=some (HO.ins t.CD (G.dx (.dv j)) (devF (dOf (pAt (WP.setP w i _) j))))
          by_cases hj:j=i
          · subst hj; rw [pAt_self hi]; rfl
          · rw [pAt_other hi hj]
        | pl =>
          show some (HO.lst (refs ((List.range w.ports.length).map _)))=some (HO.lst (refs ((List.range (WP.setP w i _).ports.length).map _)))
          rw [plen]
        | _=>rfl
    inj:=fun r r' h h'=>R.inj r r' (lv r h) (lv r' h')
    msg:=tups_upd sf R.msg
    grt:=fun j hj=>by
      rw [plen] at hj
      by_cases e:j=i
      · subst e
        show Tups _ (if j=j then gs j ++ [q] else gs j) _
        rw [if_pos rfl,pAt_self hi]
        show Tups _ (gs j ++ [q]) (((pAt w j).grants ++ [g]).map gV)
        rw [List.map_append]
        exact tups_upd sf ((R.grt j hi).app ⟨hq,trivial⟩)
      · show Tups _ (if j=i then gs i ++ [q] else gs j) _
        rw [if_neg e,pAt_other hi e]
        exact tups_upd sf (R.grt j hj)
    fr:=fun b o e=>by
      obtain ⟨h1,h2⟩:=R.fr b o e
      exact ⟨by rw [upd_ne (fun z=>h2 (.gr i) hi z.symm)]; exact h1,fun r h=>h2 r (lv r h)⟩
    tab:=tab_upd sf R.tab
    et:=R.et }
def reAd (G:Gad) (i:Nat) (g d dd:Addr):Gad:=⟨fun r=>if r=.gr i then g else if r=.dv i then d else G.ad r,fun r=>if r=.dv i then dd else G.dx r⟩
theorem RepX.anew (R:RepX t G gs ms H w E) (hi:i < w.ports.length) {g d dd:Addr} {l:List Addr} (x':VP) {E':Hp} (hE:∀ b o,E' b=some o→E b=some o)
    (hg:(g=G.ad (.gr i)∧l=gs i∧x'.grants=(pAt w i).grants)∨(E g=some (.lst (refs l))∧Tups H l (x'.grants.map gV)∧E' g=none))
    (hd:(d=G.ad (.dv i)∧dd=G.dx (.dv i)∧x'.device=(pAt w i).device)∨(x'.device=none)∨∃ y,x'.device=some y∧E d=some (.ins t.CD dd (devF y))∧E' d=none) :
    RepX t (reAd G i g d dd) (fun j=>if j=i then l else gs j) ms (upd H (G.ad (.po i)) (.ins t.CP (G.dx (.po i)) (portF i x' g (devV x' d)))) (WP.setP w i x') E':=by
  have adg:(reAd G i g d dd).ad (.gr i)=g:=if_pos rfl
  have add:(reAd G i g d dd).ad (.dv i)=d:=by show (if Rl.dv i=.gr i then g else if Rl.dv i=.dv i then d else _)=d; rw [if_neg (by simp),if_pos rfl]
  have ado:∀ r,r≠.gr i→r≠.dv i→(reAd G i g d dd).ad r=G.ad r:=fun r h1 h2=>by show (if r=.gr i then g else if r=.dv i then d else _)=_; rw [if_neg h1,if_neg h2]
  have dxo:∀ r,r≠.dv i→(reAd G i g d dd).dx r=G.dx r:=fun r h=>if_neg h
  have dxd:(reAd G i g d dd).dx (.dv i)=dd:=if_pos rfl
  have lvo:∀ r,r≠.dv i→(live (WP.setP w i x') r↔live w r):=fun r h=>by
    cases r with
    | dv j =>
      have hj:j≠i:=fun z=>h (by rw [z])
      show (j < (WP.setP w i x').ports.length∧(pAt (WP.setP w i x') j).device.isSome=true)↔_
      rw [plen,pAt_other hi hj]
      exact Iff.rfl
    | po j=>show j < (WP.setP w i x').ports.length↔_; rw [plen]; exact Iff.rfl
    | gr j=>show j < (WP.setP w i x').ports.length↔_; rw [plen]; exact Iff.rfl
    | _=>exact Iff.rfl
  have lvd:live (WP.setP w i x') (.dv i)↔x'.device.isSome=true:=by
    show (i < (WP.setP w i x').ports.length∧(pAt (WP.setP w i x') i).device.isSome=true)↔_
    rw [plen,pAt_self hi]
    exact ⟨fun h=>h.2,fun h=>⟨hi,h⟩⟩
  have sf:=R.soft (r:=.po i) hi
  -- what stands at the new addresses
  have Hg:H g=some (.lst (refs l)):=by
    rcases hg with ⟨rfl,rfl,_⟩ | ⟨h,_⟩
    · exact R.at_ (.gr i) hi
    · exact (R.fr _ _ h).1
  have Hd:∀ y,x'.device=some y→H d=some (.ins t.CD dd (devF y)):=fun y hy=>by
    rcases hd with ⟨rfl,rfl,h⟩ | h | ⟨y',h,h2,_⟩
    · rw [hy] at h
      exact R.dev hi h.symm
    · rw [hy] at h; cases h
    · rw [hy] at h
      cases h
      exact (R.fr _ _ h2).1
  -- they are the port's alone
  have ng:∀ r,live w r→r≠.gr i→G.ad r≠g:=fun r h hr=>by
    rcases hg with ⟨rfl,_,_⟩ | ⟨h2,_⟩
    · exact fun z=>hr (R.inj r (.gr i) h hi z)
    · exact (R.fr _ _ h2).2 r h
  have nd:∀ y,x'.device=some y→∀ r,live w r→r≠.dv i→G.ad r≠d:=fun y hy r h hr=>by
    rcases hd with ⟨rfl,_,h2⟩ | h2 | ⟨y',h2,h3,_⟩
    · exact fun z=>hr (R.inj r (.dv i) h ⟨hi,by rw [← h2,hy]; rfl⟩ z)
    · rw [hy] at h2; cases h2
    · exact (R.fr _ _ h3).2 r h
  have ngd:∀ y,x'.device=some y→g≠d:=fun y hy=>ne_of Hg (Hd y hy) (by intro z; cases z)
  have npg:g≠G.ad (.po i):=fun z=>ng (.po i) hi (by simp) z.symm
  have npd:∀ y,x'.device=some y→d≠G.ad (.po i):=fun y hy z=>nd y hy (.po i) hi (by simp) z.symm
  exact {
    at_:=fun r h=>by
      by_cases e1:r=.gr i
      · subst e1
        rw [adg,upd_ne npg,Hg]
        show _=some (HO.lst (refs (if i=i then l else gs i)))
        rw [if_pos rfl]
      · by_cases e2:r=.dv i
        · subst e2
          obtain ⟨y,hy⟩:=Option.isSome_iff_exists.mp (lvd.mp h)
          rw [add,upd_ne (npd y hy),Hd y hy]
          show _=some (HO.ins t.CD ((reAd G i g d dd).dx (.dv i)) (devF (dOf (pAt (WP.setP w i x') i))))
          rw [dxd,pAt_self hi]
          unfold dOf
          rw [hy]
          rfl
        · have h':=(lvo r e2).mp h
          rw [ado r e1 e2]
          by_cases e3:r=.po i
          · subst e3
            rw [upd_same]
            show _=some (HO.ins t.CP ((reAd G i g d dd).dx (.po i)) (portF i (pAt (WP.setP w i x') i) ((reAd G i g d dd).ad (.gr i)) (devV (pAt (WP.setP w i x') i) ((reAd G i g d dd).ad (.dv i)))))
            rw [dxo _ (by simp),pAt_self hi,adg,add]
          · rw [upd_ne (fun z=>e3 (R.inj r (.po i) h' hi z)),R.at_ r h']
            cases r with
            | wd=>rfl
            | sl=>rfl
            | bg=>rfl
            | su j=>rfl
            | pl =>
              show some (HO.lst (refs ((List.range w.ports.length).map fun i=>G.ad (.po i))))=some (HO.lst (refs ((List.range (WP.setP w i x').ports.length).map _)))
              rw [plen]
              rfl
            | gr j =>
              have hj:j≠i:=fun z=>e1 (by rw [z])
              show some (HO.lst (refs (gs j)))=some (HO.lst (refs (if j=i then l else gs j)))
              rw [if_neg hj]
            | po j =>
              have hj:j≠i:=fun z=>e3 (by rw [z])
              show some (HO.ins t.CP (G.dx (.po j)) (portF j (pAt w j) (G.ad (.gr j)) (devV (pAt w j) (G.ad (.dv j)))))=some (HO.ins t.CP ((reAd G i g d dd).dx (.po j)) (portF j (pAt (WP.setP w i x') j) ((reAd G i g d dd).ad (.gr j)) (devV (pAt (WP.setP w i x') j) ((reAd G i g d dd).ad (.dv j)))))
              rw [dxo _ (by simp),pAt_other hi hj,ado (.gr j) (by simp [hj]) (by simp),ado (.dv j) (by simp) (by simp [hj])]
            | dv j =>
              have hj:j≠i:=fun z=>e2 (by rw [z])
              show some (HO.ins t.CD (G.dx (.dv j)) (devF (dOf (pAt w j))))=some (HO.ins t.CD ((reAd G i g d dd).dx (.dv j)) (devF (dOf (pAt (WP.setP w i x') j))))
              rw [dxo _ (by simp [hj]),pAt_other hi hj]
    inj:=fun r r' h h' z=>by
      by_cases e1:r=.gr i
      · subst e1
        rw [adg] at z
        by_cases f1:r'=.gr i
        · exact f1.symm
        · by_cases f2:r'=.dv i
          · subst f2
            rw [add] at z
            obtain ⟨y,hy⟩:=Option.isSome_iff_exists.mp (lvd.mp h')
            exact absurd z (ngd y hy)
          · rw [ado r' f1 f2] at z
            exact absurd z.symm (ng r' ((lvo r' f2).mp h') f1)
      · by_cases e2:r=.dv i
        · subst e2
          rw [add] at z
          obtain ⟨y,hy⟩:=Option.isSome_iff_exists.mp (lvd.mp h)
          by_cases f1:r'=.gr i
          · subst f1
            rw [adg] at z
            exact absurd z.symm (ngd y hy)
          · by_cases f2:r'=.dv i
            · exact f2.symm
            · rw [ado r' f1 f2] at z
              exact absurd z.symm (nd y hy r' ((lvo r' f2).mp h') f2)
        · rw [ado r e1 e2] at z
          by_cases f1:r'=.gr i
          · subst f1
            rw [adg] at z
            exact absurd z (ng r ((lvo r e2).mp h) e1)
          · by_cases f2:r'=.dv i
            · subst f2
              rw [add] at z
              obtain ⟨y,hy⟩:=Option.isSome_iff_exists.mp (lvd.mp h')
              exact absurd z (nd y hy r ((lvo r e2).mp h) e2)
            · rw [ado r' f1 f2] at z
              exact R.inj r r' ((lvo r e2).mp h) ((lvo r' f2).mp h') z
    msg:=tups_upd sf R.msg
    grt:=fun j hj=>by
      rw [plen] at hj
      by_cases e:j=i
      · subst e
        show Tups _ (if j=j then l else gs j) _
        rw [if_pos rfl,pAt_self hi]
        rcases hg with ⟨_,rfl,h⟩ | ⟨_,h,_⟩
        · rw [h]; exact tups_upd sf (R.grt j hi)
        · exact tups_upd sf h
      · show Tups _ (if j=i then l else gs j) _
        rw [if_neg e,pAt_other hi e]
        exact tups_upd sf (R.grt j hj)
    fr:=fun b o e=>by
      obtain ⟨h1,h2⟩:=R.fr b o (hE b o e)
      refine ⟨by rw [upd_ne (fun z=>h2 (.po i) hi z.symm)]; exact h1,fun r h=>?_⟩
      by_cases e1:r=.gr i
      · subst e1
        rw [adg]
        rcases hg with ⟨z,_,_⟩ | ⟨_,_,z⟩
        · rw [z]; exact h2 (.gr i) hi
        · exact fun q=>by rw [q,e] at z; cases z
      · by_cases e2:r=.dv i
        · subst e2
          rw [add]
          obtain ⟨y,hy⟩:=Option.isSome_iff_exists.mp (lvd.mp h)
          rcases hd with ⟨z,_,h3⟩ | h3 | ⟨y',h3,h4,z⟩
          · rw [z]; exact h2 (.dv i) ⟨hi,by rw [← h3,hy]; rfl⟩
          · rw [hy] at h3; cases h3
          · exact fun q=>by rw [q,e] at z; cases z
        · rw [ado r e1 e2]
          exact h2 r ((lvo r e2).mp h)
    tab:=tab_upd sf R.tab
    et:=by
      cases e:E' t.T with
      | none=>rfl
      | some o=>rw [← R.et,hE _ _ e] }
end
section
variable {t:Cas} {G:Gad} {gs:Nat→List Addr} {ms:List Addr} {H E:Hp} {w:VW} {i:Nat} {x x':VP} {A:Rl→Addr}
theorem RepX.toI (R:RepX t G gs ms H w E) (hi:i < w.ports.length):RepX t G gs ms H (WP.setP w i (pAt w i)) E:=by rw [setP_self hi]; exact R
theorem RepX.prtI (R:RepX t G gs ms H (WP.setP w i x) E) (hi:i < w.ports.length):H (G.ad (.po i))=some (.ins t.CP (G.dx (.po i)) (portF i x (G.ad (.gr i)) (devV x (G.ad (.dv i))))):=by
  have z:=R.prt (i:=i) (by rw [plen]; exact hi)
  rw [pAt_self hi] at z
  exact z
theorem RepX.devI {y:VD} (R:RepX t G gs ms H (WP.setP w i x) E) (hi:i < w.ports.length) (hy:x.device=some y):H (G.ad (.dv i))=some (.ins t.CD (G.dx (.dv i)) (devF y)) :=
  R.dev (i:=i) (by rw [plen]; exact hi) (by rw [pAt_self hi]; exact hy)
theorem RepX.setI (R:RepX t G gs ms H (WP.setP w i x) E) (hi:i < w.ports.length) (x':VP) (hg:x'.grants=x.grants) (hd:x'.device=x.device) :
    RepX t G gs ms (upd H (G.ad (.po i)) (.ins t.CP (G.dx (.po i)) (portF i x' (G.ad (.gr i)) (devV x' (G.ad (.dv i)))))) (WP.setP w i x') E:=by
  have z:=R.setP (i:=i) (by rw [plen]; exact hi) x' (by rw [pAt_self hi]; exact hg) (by rw [pAt_self hi]; exact hd)
  rw [setP_setP] at z
  exact z
theorem RepX.setDI {y:VD} (R:RepX t G gs ms H (WP.setP w i x) E) (hi:i < w.ports.length) (hy:x.device=some y) (y':VD) :
    RepX t G gs ms (upd H (G.ad (.dv i)) (.ins t.CD (G.dx (.dv i)) (devF y'))) (WP.setP w i { x with device:=some y' }) E:=by
  have z:=R.setD (i:=i) (by rw [plen]; exact hi) (by rw [pAt_self hi]; exact hy) y'
  rw [setP_setP,pAt_self hi] at z
  exact z
theorem RepX.grputI {q:Addr} {g:VG} (R:RepX t G gs ms H (WP.setP w i x) E) (hi:i < w.ports.length) (hq:H q=some (.tup (gV g))) :
    RepX t G (fun j=>if j=i then gs i ++ [q] else gs j) ms (upd H (G.ad (.gr i)) (.lst (refs (gs i ++ [q])))) (WP.setP w i { x with grants:=x.grants ++ [g] }) E:=by
  have z:=R.grput (i:=i) (by rw [plen]; exact hi) hq
  rw [setP_setP,pAt_self hi] at z
  exact z
theorem RepX.regr (R:RepX t G gs ms H (WP.setP w i x) E) (hi:i < w.ports.length) {q:Addr} {l:List Addr} {g':List VG} {E':Hp} (hE:∀ b o,E' b=some o→E b=some o) (hq:E q=some (.lst (refs l))) (hT:Tups H l (g'.map gV)) (hq':E' q=none) :
    RepX t (reAd G i q (G.ad (.dv i)) (G.dx (.dv i))) (fun j=>if j=i then l else gs j) ms (upd H (G.ad (.po i)) (.ins t.CP (G.dx (.po i)) (portF i { x with grants:=g' } q (devV x (G.ad (.dv i)))))) (WP.setP w i { x with grants:=g' }) E':=by
  have z:=R.anew (i:=i) (by rw [plen]; exact hi) (g:=q) (d:=G.ad (.dv i)) (dd:=G.dx (.dv i)) (l:=l) { x with grants:=g' } hE (.inr ⟨hq,hT,hq'⟩) (.inl ⟨rfl,rfl,by rw [pAt_self hi]⟩)
  rw [setP_setP] at z
  exact z
theorem reAd_fix {g d dd:Addr} (hA:∀ r,fixd r=true→G.ad r=A r):∀ r,fixd r=true→(reAd G i g d dd).ad r=A r:=fun r h=>by
  show (if r=.gr i then g else if r=.dv i then d else G.ad r)=A r
  rw [if_neg (by rintro rfl; cases h),if_neg (by rintro rfl; cases h)]
  exact hA r h
end
section
variable {K:PySem.W.Frag} {mg:Str→Option Value} {t:Cas} {G:Gad} {gs:Nat→List Addr} {ms:List Addr} {H E:Hp} {w:VW} {i:Nat} {x:VP} {y:VD} {N:Hp→Prop} {u:V}
def AF (C:Addr) (f:Str) (z:V) (a:Addr) (H:Hp) (N:Hp→Prop):Prop:=∃ dx' fs',H a=some (.ins C dx' fs')∧fs'.length < 1000∧N (upd H a (.ins C dx' (putF f z fs')))
theorem AF.of {C dx:Addr} {f:Str} {z:V} {a:Addr} {fs:List (Str × V)} (hp:H a=some (.ins C dx fs)) (hl:fs.length < 1000) (q:N (upd H a (.ins C dx (putF f z fs)))):AF C f z a H N:=⟨dx,fs,hp,hl,q⟩
theorem wp_enabled (T:Txt K mg t) (R:RepX t G gs ms H (WP.setP w i x) E) (hi:i < w.ports.length) {b:Bool} (hy:u=.int (bt b)) (q:∀ H',RepX t G gs ms H' (WP.setP w i { x with enabled:=b }) E→N H'):WF K "enabled" u (.ref (G.ad (.po i))) H N :=
  w_port_enabled T (R.prtI hi) hy (q _ (R.setI hi _ rfl rfl))
theorem wp_rank (T:Txt K mg t) (R:RepX t G gs ms H (WP.setP w i x) E) (hi:i < w.ports.length) {n:Nat} (hy:u=.int n) (q:∀ H',RepX t G gs ms H' (WP.setP w i { x with rank:=n }) E→N H'):WF K "rank" u (.ref (G.ad (.po i))) H N :=
  w_port_rank T (R.prtI hi) hy (q _ (R.setI hi _ rfl rfl))
theorem wp_most (T:Txt K mg t) (R:RepX t G gs ms H (WP.setP w i x) E) (hi:i < w.ports.length) {n:Nat} (hy:u=.int n) (q:∀ H',RepX t G gs ms H' (WP.setP w i { x with most:=n }) E→N H'):WF K "most" u (.ref (G.ad (.po i))) H N :=
  w_port_most T (R.prtI hi) hy (q _ (R.setI hi _ rfl rfl))
theorem wp_faulty (T:Txt K mg t) (R:RepX t G gs ms H (WP.setP w i x) E) (hi:i < w.ports.length) {b:Bool} (hy:u=.int (bt b)) (q:∀ H',RepX t G gs ms H' (WP.setP w i { x with faulty:=b }) E→N H'):WF K "faulty" u (.ref (G.ad (.po i))) H N :=
  w_port_faulty T (R.prtI hi) hy (q _ (R.setI hi _ rfl rfl))
theorem wp_on (T:Txt K mg t) (R:RepX t G gs ms H (WP.setP w i x) E) (hi:i < w.ports.length) {b:Bool} (hy:u=.int (bt b)) (q:∀ H',RepX t G gs ms H' (WP.setP w i { x with on:=b }) E→N H'):WF K "on" u (.ref (G.ad (.po i))) H N :=
  w_port_on T (R.prtI hi) hy (q _ (R.setI hi _ rfl rfl))
theorem ap_session (R:RepX t G gs ms H (WP.setP w i x) E) (hi:i < w.ports.length) {n:Nat} (hy:u=.int n) (q:∀ H',RepX t G gs ms H' (WP.setP w i { x with session:=n }) E→N H'):AF t.CP "session" u (G.ad (.po i)) H N:=by
  subst hy
  refine AF.of (R.prtI hi) (portF_len ..) ?_
  rw [portF_put_session]
  exact q _ (R.setI hi _ rfl rfl)
theorem wp_number (T:Txt K mg t) (R:RepX t G gs ms H (WP.setP w i x) E) (hi:i < w.ports.length) {n:Nat} (hy:u=.int n) (q:∀ H',RepX t G gs ms H' (WP.setP w i { x with number:=n }) E→N H'):WF K "number" u (.ref (G.ad (.po i))) H N :=
  w_port_number T (R.prtI hi) hy (q _ (R.setI hi _ rfl rfl))
theorem ap_number (R:RepX t G gs ms H (WP.setP w i x) E) (hi:i < w.ports.length) {n:Nat} (hy:u=.int n) (q:∀ H',RepX t G gs ms H' (WP.setP w i { x with number:=n }) E→N H'):AF t.CP "number" u (G.ad (.po i)) H N:=by
  subst hy
  refine AF.of (R.prtI hi) (portF_len ..) ?_
  rw [portF_put_number]
  exact q _ (R.setI hi _ rfl rfl)
theorem wp_wish_number (T:Txt K mg t) (R:RepX t G gs ms H (WP.setP w i x) E) (hi:i < w.ports.length) {n:Nat} (hy:u=.int n) (q:∀ H',RepX t G gs ms H' (WP.setP w i { x with wish:={ x.wish with number:=n } }) E→N H'):WF K "wish_number" u (.ref (G.ad (.po i))) H N :=
  w_port_wish_number T (R.prtI hi) hy (q _ (R.setI hi _ rfl rfl))
theorem wp_wish_amount (T:Txt K mg t) (R:RepX t G gs ms H (WP.setP w i x) E) (hi:i < w.ports.length) {n:Nat} (hy:u=.int n) (q:∀ H',RepX t G gs ms H' (WP.setP w i { x with wish:={ x.wish with watts:=n } }) E→N H'):WF K "wish_amount" u (.ref (G.ad (.po i))) H N :=
  w_port_wish_amount T (R.prtI hi) hy (q _ (R.setI hi _ rfl rfl))
theorem ap_energy (R:RepX t G gs ms H (WP.setP w i x) E) (hi:i < w.ports.length) {n:Nat} (hy:u=.int n) (q:∀ H',RepX t G gs ms H' (WP.setP w i { x with energy:=n }) E→N H'):AF t.CP "energy" u (G.ad (.po i)) H N:=by
  subst hy
  refine AF.of (R.prtI hi) (portF_len ..) ?_
  rw [portF_put_energy]
  exact q _ (R.setI hi _ rfl rfl)
theorem wd_number (T:Txt K mg t) (R:RepX t G gs ms H (WP.setP w i x) E) (hi:i < w.ports.length) (hd:x.device=some y) {n:Nat} (hy:u=.int n) (q:∀ H',RepX t G gs ms H' (WP.setP w i { x with device:=some { y with number:=n } }) E→N H'):WF K "number" u (.ref (G.ad (.dv i))) H N :=
  w_dev_number T (R.devI hi hd) hy (q _ (R.setDI hi hd _))
theorem wd_limit (T:Txt K mg t) (R:RepX t G gs ms H (WP.setP w i x) E) (hi:i < w.ports.length) (hd:x.device=some y) {n:Nat} (hy:u=.int n) (q:∀ H',RepX t G gs ms H' (WP.setP w i { x with device:=some { y with limit:=n } }) E→N H'):WF K "limit" u (.ref (G.ad (.dv i))) H N :=
  w_dev_limit T (R.devI hi hd) hy (q _ (R.setDI hi hd _))
theorem wd_draws (T:Txt K mg t) (R:RepX t G gs ms H (WP.setP w i x) E) (hi:i < w.ports.length) (hd:x.device=some y) {n:Nat} (hy:u=.int n) (q:∀ H',RepX t G gs ms H' (WP.setP w i { x with device:=some { y with draws:=n } }) E→N H'):WF K "draws" u (.ref (G.ad (.dv i))) H N :=
  w_dev_draws T (R.devI hi hd) hy (q _ (R.setDI hi hd _))
theorem ad_asked (R:RepX t G gs ms H (WP.setP w i x) E) (hi:i < w.ports.length) (hd:x.device=some y) {n:Nat} (hy:u=.int n) (q:∀ H',RepX t G gs ms H' (WP.setP w i { x with device:=some { y with asked:=n } }) E→N H'):AF t.CD "asked" u (G.ad (.dv i)) H N:=by
  subst hy
  refine AF.of (R.devI hi hd) (devF_len ..) ?_
  rw [devF_put_asked]
  exact q _ (R.setDI hi hd _)
theorem RepX.set_now (R:RepX t G gs ms H w E) (n:Nat):RepX t G gs ms (upd H (G.ad .wd) (.ins t.CW (G.dx .wd) (worldF { w with now:=n } (G.ad .sl) (G.ad .pl) (G.ad .bg)))) { w with now:=n } E:=by
  refine R.put .wd trivial (fun r=>?_) rfl (fun r hr hl=>?_) rfl rfl fun j hj=>rfl
  · cases r <;> exact Iff.rfl
  · cases r <;> first | rfl | exact absurd rfl hr
theorem aw_now (R:RepX t G gs ms H w E) {n:Nat} (hy:u=.int n) (q:∀ H',RepX t G gs ms H' { w with now:=n } E→N H'):AF t.CW "now" u (G.ad .wd) H N:=by
  subst hy
  refine AF.of (R.at_ .wd trivial) (worldF_len ..) ?_
  rw [worldF_put_now]
  exact q _ (R.set_now n)
theorem RepX.set_could (R:RepX t G gs ms H w E) (n:Nat):RepX t G gs ms (upd H (G.ad .wd) (.ins t.CW (G.dx .wd) (worldF { w with could:=n } (G.ad .sl) (G.ad .pl) (G.ad .bg)))) { w with could:=n } E:=by
  refine R.put .wd trivial (fun r=>?_) rfl (fun r hr hl=>?_) rfl rfl fun j hj=>rfl
  · cases r <;> exact Iff.rfl
  · cases r <;> first | rfl | exact absurd rfl hr
theorem aw_could (R:RepX t G gs ms H w E) {n:Nat} (hy:u=.int n) (q:∀ H',RepX t G gs ms H' { w with could:=n } E→N H'):AF t.CW "could" u (G.ad .wd) H N:=by
  subst hy
  refine AF.of (R.at_ .wd trivial) (worldF_len ..) ?_
  rw [worldF_put_could]
  exact q _ (R.set_could n)
theorem RepX.set_spare (R:RepX t G gs ms H w E) (b:Bool):RepX t G gs ms (upd H (G.ad .wd) (.ins t.CW (G.dx .wd) (worldF { w with spare:=b } (G.ad .sl) (G.ad .pl) (G.ad .bg)))) { w with spare:=b } E:=by
  refine R.put .wd trivial (fun r=>?_) rfl (fun r hr hl=>?_) rfl rfl fun j hj=>rfl
  · cases r <;> exact Iff.rfl
  · cases r <;> first | rfl | exact absurd rfl hr
theorem ww_spare (T:Txt K mg t) (R:RepX t G gs ms H w E) {b:Bool} (hy:u=.int (bt b)) (q:∀ H',RepX t G gs ms H' { w with spare:=b } E→N H'):WF K "spare" u (.ref (G.ad .wd)) H N :=
  w_world_spare T (R.at_ .wd trivial) hy (q _ (R.set_spare b))
theorem wp_grants (T:Txt K mg t) (R:RepX t G gs ms H (WP.setP w i x) E) (hi:i < w.ports.length) {q:Addr} {l:List Addr} {g':List VG} {E':Hp} (hy:u=.ref q) (hE:∀ b o,E' b=some o→E b=some o) (hq:E q=some (.lst (refs l))) (hT:Tups H l (g'.map gV)) (hq':E' q=none)
    (k:∀ H',RepX t (reAd G i q (G.ad (.dv i)) (G.dx (.dv i))) (fun j=>if j=i then l else gs j) ms H' (WP.setP w i { x with grants:=g' }) E'→N H'):WF K "grants" u (.ref (G.ad (.po i))) H N :=
  w_port_grants T (R.prtI hi) hy (k _ (R.regr hi hE hq hT hq'))
end
section
variable {P:Program} {w₀:PySem.World} {K:PySem.W.Frag} {mg:Str→Option Value} {base:Heap} {t:Cas} {f:Addr} {fd:FuncData}
def anewD (y:VD) (s l:Nat):VD:={ y with session:=s,number:=0,limit:=l,draws:=0,asked:=0 }
def sp_restart_device (t:Cas):Sp:=fun vs H Q _=>∃ (p dx:Addr) (y:VD) (s l:Nat),vs=[.ref p,.int s,.int l]∧H p=some (.ins t.CD dx (devF y))∧Q .non (upd H p (.ins t.CD dx (devF (anewD y s l))))
theorem ok_restart_device (T:Txt K mg t) (F:Fun K "restart_device" "restart_device" s_restart_device f fd):FnOk P w₀ K mg base CX0 1 f fd ["device","session","limit"] (sp_restart_device t):=by
  refine F.ok sc_restart_device (fun vs H Q E h=>?_) (fun cdv A outer s H vs Q E hr h=>?_)
  · obtain ⟨_,_,_,_,_,rfl,_⟩:=h; rfl
  · obtain ⟨p,dx,y,s,l,rfl,hp,q⟩:=h
    have nd:=sc_restart_device.nd
    refine ⟨_,(pss_cons (ps_fl (K:=K) (pv 0) (pv 1)) (pss_cons (ps_fl (K:=K) (pv 0) pe_int) (pss_cons (ps_fl (K:=K) (pv 0) (pv 2)) (pss_cons (ps_fl (K:=K) (pv 0) pe_int) (pss_one (ps_fl (K:=K) (pv 0) pe_int)))))),?_⟩
    refine ⟨_,rfl,_,rfl,w_dev_session T hp rfl ?_⟩
    refine ⟨_,rfl,w_dev_number T (n:=0) upd_same rfl ?_⟩
    refine ⟨_,rfl,_,rfl,w_dev_limit T (n:=l) upd_same rfl ?_⟩
    refine ⟨_,rfl,w_dev_draws T (n:=0) upd_same rfl ?_⟩
    refine ⟨_,rfl,w_dev_asked T (n:=0) upd_same rfl ?_⟩
    rw [upd_upd,upd_upd,upd_upd,upd_upd]
    exact q
theorem cut_none {x:VP} (h:x.device=none):Vbcnam.cut x={ x with on:=false,grants:=[],number:=0,wish:={ number:=0,watts:=0 } }:=by
  obtain ⟨a,b,c,d,e,g,j,k,l,m,n⟩:=x
  have h:n=none:=h
  subst h
  rfl
theorem cut_some {x:VP} {y:VD} (h:x.device=some y):Vbcnam.cut x={ x with on:=false,grants:=[],number:=0,wish:={ number:=0,watts:=0 },device:=some (anewD y 0 0) }:=by
  obtain ⟨a,b,c,d,e,g,j,k,l,m,n⟩:=x
  have h:n=some y:=h
  subst h
  rfl
def spM (t:Cas) (pre:VP→Prop) (g:VP→VP):Sp:=fun vs H Q _=>∃ (A:Rl→Addr) (w:VW) (E:Hp) (i:Nat),vs=[.ref (A (.po i))]∧Rep t A H w E∧Ok w∧i < w.ports.length∧pre (pAt w i)∧∀ H',Rep t A H' (setP w i (g (pAt w i))) E→Q .non H'
theorem ok_cut (T:Txt K mg t) (F:Fun K "cut" "cut" s_cut f fd) (F_restart_device:Known P w₀ K mg base "restart_device" 1 ["device","session","limit"] (sp_restart_device t)) :
    FnOk P w₀ K mg base CX0 2 f fd ["port"] (spM t (fun _=>True) Vbcnam.cut):=by
  refine F.ok sc_cut (fun vs H Q E h=>?_) (fun cdv A outer s H vs Q E hr h=>?_)
  · obtain ⟨_,_,_,_,rfl,_⟩:=h; rfl
  · obtain ⟨A,w,E,i,rfl,⟨G,gs,ms,hA,RX⟩,O,hi,_,q⟩:=h
    have nd:=sc_cut.nd
    refine ⟨_,(pss_cons (ps_fl (K:=K) (pv 0) pe_int) (pss_cons (ps_fl (K:=K) (pv 0) (pe_lst pa_nil)) (pss_cons (ps_fl (K:=K) (pv 0) pe_int) (pss_cons (ps_fl (K:=K) (pv 0) pe_int) (pss_cons (ps_fl (K:=K) (pv 0) pe_int) (pss_one (ps_if (pt_cmpR op_notN (pe_fl (K:=K) (pv 0)) pe_non (nomark _)) (pss_one (ps_expr (pe_f F_restart_device (hr.mono (by decide)) (pa_cons (pe_fl (K:=K) (pv 0)) (pa_cons pe_int (pa_cons pe_int pa_nil)))))) pss_nil))))))),?_⟩
    rw [← hA (.po i) rfl]
    have R0:=RX.toI hi
    refine ⟨_,rfl,wp_on T R0 hi (b:=false) rfl fun H1 R1=>?_⟩
    refine ⟨Nat.zero_le _,fun q0 hq0=>⟨_,rfl,wp_grants T (R1.ext hq0) hi (q:=q0) (l:=[]) (g':=[]) (E':=E) rfl (fun b o e=>by rw [upd_ne (ne_of_none e (R1.none_of hq0))]; exact e) upd_same trivial (R1.none_of hq0) fun H2 R2=>?_⟩⟩
    have hA2:=reAd_fix (i:=i) (g:=q0) (d:=G.ad (.dv i)) (dd:=G.dx (.dv i)) hA
    have ep:G.ad (.po i)=(reAd G i q0 (G.ad (.dv i)) (G.dx (.dv i))).ad (.po i):=(hA (.po i) rfl).trans (hA2 (.po i) rfl).symm
    rw [ep]
    generalize reAd G i q0 (G.ad (.dv i)) (G.dx (.dv i))=G2 at R2 hA2
    refine ⟨_,rfl,wp_number T R2 hi (n:=0) rfl fun H3 R3=>?_⟩
    refine ⟨_,rfl,wp_wish_number T R3 hi (n:=0) rfl fun H4 R4=>?_⟩
    refine ⟨_,rfl,wp_wish_amount T R4 hi (n:=0) rfl fun H5 R5=>?_⟩
    have q:∀ H',Rep t A H' (setP w i (Vbcnam.cut (pAt w i))) E→Q .non H':=q
    cases hd:(pAt w i).device with
    | none =>
      have hp:=R5.prtI hi
      rw [devV_none (by exact hd)] at hp
      refine ⟨_,rfl,r_port_device T hp ⟨rfl,_,rfl,?_⟩⟩
      refine ite2 (fun h=>absurd h (by decide)) (fun _=>?_)
      rw [cut_none hd] at q
      exact q H5 ⟨G2,_,ms,hA2,R5⟩
    | some y =>
      have hp:=R5.prtI hi
      rw [devV_some (y:=y) (by exact hd)] at hp
      refine ⟨_,rfl,r_port_device T hp ⟨rfl,_,rfl,?_⟩⟩
      refine ite2 (fun _=>?_) (fun h=>absurd rfl h)
      refine ⟨_,rfl,r_port_device T hp ⟨_,_,y,0,0,rfl,R5.devI hi hd,?_⟩⟩
      have R6:=R5.setDI hi hd (anewD y 0 0)
      rw [cut_some hd] at q
      exact q _ ⟨G2,_,ms,hA2,R6⟩
theorem noE {E:Hp} {q:Addr} {o:HO} (h:E q=none):∀ b u,E b=some u→upd E q o b=some u:=fun b u e=>by rw [upd_ne (ne_of_none e h)]; exact e
theorem ok_light (T:Txt K mg t) (F:Fun K "light" "light" s_light f fd) (F_restart_device:Known P w₀ K mg base "restart_device" 1 ["device","session","limit"] (sp_restart_device t))
    (F_base_of:Known P w₀ K mg base "base_of" 1 ["device"] (sp_base_of t)) :
    FnOk P w₀ K mg base CX0 2 f fd ["port"] (spM t (fun x=>x.device.isSome=true) fun x=>Vbcnam.lit x (dOf x)):=by
  refine F.ok sc_light (fun vs H Q E h=>?_) (fun cdv A outer s H vs Q E hr h=>?_)
  · obtain ⟨_,_,_,_,rfl,_⟩:=h; rfl
  · obtain ⟨A,w,E,i,rfl,⟨G,gs,ms,hA,RX⟩,O,hi,hs,q⟩:=h
    have q:∀ H',Rep t A H' (setP w i (Vbcnam.lit (pAt w i) (dOf (pAt w i)))) E→Q .non H':=q
    obtain ⟨y,hd⟩:=Option.isSome_iff_exists.mp hs
    have ey:dOf (pAt w i)=y:=by unfold dOf; rw [hd]; rfl
    rw [ey] at q
    have nd:=sc_light.nd
    refine ⟨_,(pss_cons (ps_set (i:=1) nd rfl (Or.inl rfl) (pe_f F_base_of (hr.mono (by decide)) (pa_cons (pe_fl (K:=K) (pv 0)) pa_nil))) (pss_cons (ps_fl (K:=K) (pv 0) pe_int) (pss_cons (ps_fla (K:=K) (pv 0) pe_int in_add) (pss_cons (ps_fl (K:=K) (pv 0) pe_int) (pss_cons (ps_fl (K:=K) (pv 0) (pe_lst (pa_cons (pe_tup (pa_cons pe_int (pa_cons (pv 1) pa_nil))) pa_nil))) (pss_cons (ps_fl (K:=K) (pv 0) pe_int) (pss_cons (ps_fl (K:=K) (pv 0) (pv 1)) (pss_one (ps_expr (pe_f F_restart_device (hr.mono (by decide)) (pa_cons (pe_fl (K:=K) (pv 0)) (pa_cons (pe_fl (K:=K) (pv 0)) (pa_cons (pv 1) pa_nil))))))))))))),?_⟩
    rw [← hA (.po i) rfl]
    have R0:=RX.toI hi
    refine ⟨_,rfl,r_port_device T (RX.prtD hi hd) ⟨_,_,y,rfl,RX.dev hi hd,O.cls i hi y hd,?_⟩⟩
    refine ⟨_,rfl,wp_on T R0 hi (b:=true) rfl fun H1 R1=>?_⟩
    refine ⟨_,rfl,rx_port_session T (R1.prtI hi) ⟨_,_,rfl,rfl,ap_session R1 hi (n:=(pAt w i).session + 1) rfl fun H2 R2=>?_⟩⟩
    refine ⟨_,rfl,wp_number T R2 hi (n:=0) rfl fun H3 R3=>?_⟩
    refine ⟨_,rfl,(by show 2≤sizeLine; decide),fun q1 hq1=>⟨(by show 1≤sizeLine; decide),fun q0 hq0=>?_⟩⟩
    have R4:=(R3.ext (o:=.tup [.int 0,.int (Vbcnam.base y.cls)]) hq1).ext (o:=.lst [.ref q1]) hq0
    have E1:=R3.none_of hq1
    have E0:=(R3.ext (o:=.tup [.int 0,.int (Vbcnam.base y.cls)]) hq1).none_of hq0
    have n01:q1≠q0:=fun z=>by rw [z,upd_same] at hq0; cases hq0
    have E00:E q0=none:=by rw [upd_ne (Ne.symm n01)] at E0; exact E0
    refine ⟨_,rfl,wp_grants T R4 hi (q:=q0) (l:=[q1]) (g':=[{ number:=0,watts:=Vbcnam.base y.cls }]) (E':=E) rfl (fun b u e=>noE E0 b u (noE E1 b u e)) upd_same
      ⟨(R4.fr q1 (.tup [.int 0,.int (Vbcnam.base y.cls)]) ((upd_ne n01).trans upd_same)).1,trivial⟩ E00 fun H5 R5=>?_⟩
    have hA2:=reAd_fix (i:=i) (g:=q0) (d:=G.ad (.dv i)) (dd:=G.dx (.dv i)) hA
    have ep:G.ad (.po i)=(reAd G i q0 (G.ad (.dv i)) (G.dx (.dv i))).ad (.po i):=(hA (.po i) rfl).trans (hA2 (.po i) rfl).symm
    rw [ep]
    generalize reAd G i q0 (G.ad (.dv i)) (G.dx (.dv i))=G2 at R5 hA2
    refine ⟨_,rfl,wp_wish_number T R5 hi (n:=0) rfl fun H6 R6=>?_⟩
    refine ⟨_,rfl,_,rfl,wp_wish_amount T R6 hi (n:=Vbcnam.base y.cls) rfl fun H7 R7=>?_⟩
    have hp:=R7.prtI hi
    rw [devV_some (y:=y) (by exact hd)] at hp
    refine ⟨_,rfl,r_port_device T hp ⟨_,rfl,r_port_session T hp ⟨_,rfl,_,_,y,(pAt w i).session + 1,Vbcnam.base y.cls,rfl,R7.devI hi hd,?_⟩⟩⟩
    exact q _ ⟨G2,_,ms,hA2,R7.setDI hi hd (anewD y ((pAt w i).session + 1) (Vbcnam.base y.cls))⟩
def sp_put (t:Cas):Sp:=fun vs H Q _=>∃ (A:Rl→Addr) (w:VW) (E:Hp) (q:Addr) (m:VM),vs=[.ref (A .wd),.ref q]∧Rep t A H w E∧Ok w∧E q=some (.tup (mV m))∧∀ H',Rep t A H' (Vbcnam.put w m) E→Q .non H'
theorem ok_put (T:Txt K mg t) (F:Fun K "put" "put" s_put f fd) (F_bag_is_full:Known P w₀ K mg base "bag_is_full" 1 ["world"] (spW t fun w=>.bl (Vbcnam.full w))) :
    FnOk P w₀ K mg base CX0 2 f fd ["world","message"] (sp_put t):=by
  refine F.ok sc_put (fun vs H Q E h=>?_) (fun cdv A outer s H vs Q E hr h=>?_)
  · obtain ⟨_,_,_,_,_,rfl,_⟩:=h; rfl
  · obtain ⟨A,w,E,q,m,rfl,R,O,hq,k⟩:=h
    have nd:=sc_put.nd
    refine ⟨_,(pss_one (ps_if (pt_not (pt_val (pe_f F_bag_is_full (hr.mono (by decide)) (pa_cons (pv 0) pa_nil)))) (pss_one (ps_expr (pe_bm PySem.F.plainAttrs_list PySem.F.slot_list_append PySem.F.type_list_append mt_append (pe_fl (K:=K) (pv 0)) (pa_cons (pv 1) pa_nil)))) pss_nil)),?_⟩
    refine ⟨_,rfl,A,w,E,rfl,R,O,fun H1 R1=>⟨_,rfl,?_⟩⟩
    obtain ⟨G,gs,ms,hA,RX⟩:=id R1
    cases hf:Vbcnam.full w with
    | true =>
      refine ite2 (fun h=>absurd h (by decide)) (fun _=>?_)
      have e:Vbcnam.put w m=w:=by
        unfold Vbcnam.put
        have:=of_decide_eq_true hf
        rw [if_neg (by omega)]
      rw [e] at k
      exact k H1 R1
    | false =>
      refine ite2 (fun _=>?_) (fun h=>absurd rfl h)
      have hlt:w.bag.length < w.cap:=by
        have:=of_decide_eq_false hf
        omega
      have e:Vbcnam.put w m={ w with bag:=w.bag ++ [m] }:=by
        unfold Vbcnam.put
        rw [if_pos hlt]
      rw [e] at k
      have hw:=RX.at_ .wd trivial
      have hb:=RX.at_ .bg trivial
      rw [hA .wd rfl] at hw
      have hml:(refs ms).length < sizeLine:=by
        unfold refs
        rw [List.length_map,RX.mlen]
        exact Nat.lt_of_lt_of_le hlt (Nat.le_trans O.cap (by decide))
      refine ⟨_,rfl,r_world_bag T hw ⟨.inl ⟨rfl,_,SqL.of hb⟩,_,rfl,_,_,_,rfl,rfl,hb,hml,?_⟩⟩
      have R2:=RX.rebag (ms':=ms ++ [q]) (b':=w.bag ++ [m]) (by rw [List.map_append]; exact RX.msg.app ⟨(RX.fr q _ hq).1,trivial⟩)
      have e2:refs (ms ++ [q])=refs ms ++ [V.ref q]:=by unfold refs; rw [List.map_append]; rfl
      rw [e2] at R2
      exact k _ ⟨G,gs,_,hA,R2⟩
end
theorem Ok.set {w:VW} {i:Nat} {x':VP} (O:Ok w) (hi:i < w.ports.length) (h1:∀ y,x'.device=some y→1≤y.cls∧y.cls≤4) (h2:x'.on=true→x'.grants≠[]∧x'.device.isSome=true) (h3:x'.grants.length≤8):Ok (setP w i x') where
  ns:=O.ns
  np:=by rw [plen]; exact O.np
  cls:=fun j hj y hy=>by
    rw [plen] at hj
    by_cases e:j=i
    · subst e; rw [pAt_self hi] at hy; exact h1 y hy
    · rw [pAt_other hi e] at hy; exact O.cls j hj y hy
  on:=fun j hj ho=>by
    rw [plen] at hj
    by_cases e:j=i
    · subst e; rw [pAt_self hi] at ho ⊢; exact h2 ho
    · rw [pAt_other hi e] at ho ⊢; exact O.on j hj ho
  gl:=fun j hj=>by
    rw [plen] at hj
    by_cases e:j=i
    · subst e; rw [pAt_self hi]; exact h3
    · rw [pAt_other hi e]; exact O.gl j hj
  bag:=O.bag
  cap:=O.cap
theorem Ok.put {w:VW} {m:VM} (O:Ok w):Ok (Vbcnam.put w m):=by
  unfold Vbcnam.put
  split
  · rename_i h
    exact { ns:=O.ns,np:=O.np,cls:=O.cls,on:=O.on,gl:=O.gl,cap:=O.cap,bag:=by show (w.bag ++ [m]).length≤w.cap; rw [List.length_append]; exact h }
  · exact O
theorem put_ports {w:VW} {m:VM}:(Vbcnam.put w m).ports=w.ports:=by unfold Vbcnam.put; split <;> rfl
theorem put_pAt {w:VW} {m:VM} {i:Nat}:pAt (Vbcnam.put w m) i=pAt w i:=by unfold pAt Vbcnam.portAt; rw [put_ports]
section
variable {P:Program} {w₀:PySem.World} {K:PySem.W.Frag} {mg:Str→Option Value} {base:Heap} {t:Cas} {f:Addr} {fd:FuncData}
theorem Rep.ext {A:Rl→Addr} {H E:Hp} {w:VW} {p:Addr} {o:HO} (R:Rep t A H w E) (hp:H p=none):Rep t A (upd H p o) w (upd E p o)∧E p=none :=
  let ⟨G,gs,ms,hA,R⟩:=R
  ⟨⟨G,gs,ms,hA,R.ext hp⟩,R.none_of hp⟩
theorem Rep.prt {A:Rl→Addr} {H E:Hp} {w:VW} {i:Nat} (R:Rep t A H w E) (hi:i < w.ports.length):∃ dx g d,H (A (.po i))=some (.ins t.CP dx (portF i (pAt w i) g (devV (pAt w i) d))):=by
  obtain ⟨G,gs,ms,hA,R⟩:=R
  have z:=R.prt hi
  rw [hA (.po i) rfl] at z
  exact ⟨_,_,_,z⟩
theorem Rep.wld {A:Rl→Addr} {H E:Hp} {w:VW} (R:Rep t A H w E):∃ dx,H (A .wd)=some (.ins t.CW dx (worldF w (A .sl) (A .pl) (A .bg))):=by
  obtain ⟨G,gs,ms,hA,R⟩:=R
  have z:H (G.ad .wd)=some (.ins t.CW (G.dx .wd) (worldF w (G.ad .sl) (G.ad .pl) (G.ad .bg))):=R.at_ .wd trivial
  rw [hA .wd rfl,hA .sl rfl,hA .pl rfl,hA .bg rfl] at z
  exact ⟨_,z⟩
def sp_tell (t:Cas):Sp:=fun vs H Q _=>∃ (A:Rl→Addr) (w:VW) (E:Hp) (i:Nat),vs=[.ref (A .wd),.ref (A (.po i))]∧Rep t A H w E∧Ok w∧i < w.ports.length∧(pAt w i).grants≠[] ∧
  ∀ H',Rep t A H' (Vbcnam.put w (Vbcnam.tellsGrant i (pAt w i))) E→Q .non H'
theorem ok_tell (T:Txt K mg t) (F:Fun K "tell" "tell" s_tell f fd) (F_put:Known P w₀ K mg base "put" 2 ["world","message"] (sp_put t))
    (F_latest_amount:Known P w₀ K mg base "latest_amount" 1 ["port"] (spP t (fun x=>x.grants≠[]) fun x=>.int (Vbcnam.latest x))) :
    FnOk P w₀ K mg base CX0 3 f fd ["world","port"] (sp_tell t):=by
  refine F.ok sc_tell (fun vs H Q E h=>?_) (fun cdv A outer s H vs Q E hr h=>?_)
  · obtain ⟨_,_,_,_,rfl,_⟩:=h; rfl
  · obtain ⟨A,w,E,i,rfl,R,O,hi,hne,k⟩:=h
    have nd:=sc_tell.nd
    refine ⟨_,(pss_one (ps_expr (pe_f F_put (hr.mono (by decide)) (pa_cons (pv 0) (pa_cons (pe_tup (pa_cons (pe_gi T.i_GRANT_MESSAGE) (pa_cons (pe_fl (K:=K) (pv 1)) (pa_cons (pe_fl (K:=K) (pv 1)) (pa_cons (pe_fl (K:=K) (pv 1)) (pa_cons (pe_f F_latest_amount (hr.mono (by decide)) (pa_cons (pv 1) pa_nil)) pa_nil)))))) pa_nil))))),?_⟩
    obtain ⟨dx,g,d,hp⟩:=R.prt hi
    refine ⟨_,rfl,_,rfl,r_port_place T hp ⟨_,rfl,r_port_session T hp ⟨_,rfl,r_port_number T hp ?_⟩⟩⟩
    refine ⟨_,rfl,A,w,E,i,rfl,R,O,hi,hne,fun H1 R1=>⟨(by show 5≤sizeLine; decide),fun q0 hq0=>?_⟩⟩
    obtain ⟨R2,E0⟩:=R1.ext (o:=.tup (mV (Vbcnam.tellsGrant i (pAt w i)))) hq0
    exact ⟨A,w,_,q0,Vbcnam.tellsGrant i (pAt w i),rfl,R2,O,upd_same,fun H2 R3=>k H2 (R3.drop E0)⟩
theorem ok_ask (T:Txt K mg t) (F:Fun K "ask" "ask" s_ask f fd) (F_put:Known P w₀ K mg base "put" 2 ["world","message"] (sp_put t)) :
    FnOk P w₀ K mg base CX0 3 f fd ["world","port","amount"] (fun vs H Q _=>∃ (A:Rl→Addr) (w:VW) (E:Hp) (i n:Nat) (y:VD),vs=[.ref (A .wd),.ref (A (.po i)),.int n]∧Rep t A H w E∧Ok w∧i < w.ports.length∧(pAt w i).device=some y ∧
      ∀ H',Rep t A H' (Vbcnam.put (setP w i { pAt w i with device:=some { y with asked:=y.asked + 1 } }) (.wish i y.session (y.asked + 1) n)) E→Q .non H'):=by
  refine F.ok sc_ask (fun vs H Q E h=>?_) (fun cdv A outer s H vs Q E hr h=>?_)
  · obtain ⟨_,_,_,_,_,_,rfl,_⟩:=h; rfl
  · obtain ⟨A,w,E,i,n,y,rfl,⟨G,gs,ms,hA,RX⟩,O,hi,hd,k⟩:=h
    have nd:=sc_ask.nd
    refine ⟨_,(pss_cons (ps_set (i:=3) nd rfl (Or.inl rfl) (pe_fl (K:=K) (pv 1))) (pss_cons (ps_fla (K:=K) (pv 3) pe_int in_add) (pss_one (ps_expr (pe_f F_put (hr.mono (by decide)) (pa_cons (pv 0) (pa_cons (pe_tup (pa_cons (pe_gi T.i_WISH_MESSAGE) (pa_cons (pe_fl (K:=K) (pv 1)) (pa_cons (pe_fl (K:=K) (pv 3)) (pa_cons (pe_fl (K:=K) (pv 3)) (pa_cons (pv 2) pa_nil)))))) pa_nil))))))),?_⟩
    rw [← hA (.po i) rfl]
    have R0:=RX.toI hi
    refine ⟨_,rfl,r_port_device T (RX.prtD hi hd) ?_⟩
    refine ⟨_,rfl,rx_dev_asked T (RX.dev hi hd) ⟨_,_,rfl,rfl,ad_asked R0 hi hd (n:=y.asked + 1) rfl fun H1 R1=>?_⟩⟩
    have hp:=R1.prtI hi
    have hv:=R1.devI hi rfl
    refine ⟨_,rfl,_,rfl,r_port_place T hp ⟨_,rfl,r_dev_session T hv ⟨_,rfl,r_dev_asked T hv ⟨_,rfl,(by show 5≤sizeLine; decide),fun q0 hq0=>?_⟩⟩⟩⟩
    have O1:Ok (setP w i { pAt w i with device:=some { y with asked:=y.asked + 1 } }):=O.set hi (fun z hz=>by cases hz; exact O.cls i hi y hd) (fun h=>⟨(O.on i hi h).1,rfl⟩) (O.gl i hi)
    exact ⟨A,_,_,q0,.wish i y.session (y.asked + 1) n,rfl,⟨G,gs,ms,hA,R1.ext hq0⟩,O1,upd_same,fun H2 R3=>k H2 (R3.drop (R1.none_of hq0))⟩
def sp_give (t:Cas):Sp:=fun vs H Q _=>∃ (A:Rl→Addr) (w:VW) (E:Hp) (i n:Nat),vs=[.ref (A .wd),.ref (A (.po i)),.int n]∧Rep t A H w E∧Ok w∧i < w.ports.length∧(pAt w i).grants≠[] ∧
  ∀ H',Rep t A H' (Vbcnam.gives w i n) E→Q .non H'
theorem ok_give (T:Txt K mg t) (F:Fun K "give" "give" s_give f fd) (F_tell:Known P w₀ K mg base "tell" 3 ["world","port"] (sp_tell t)) :
    FnOk P w₀ K mg base CX0 4 f fd ["world","port","amount"] (sp_give t):=by
  refine F.ok sc_give (fun vs H Q E h=>?_) (fun cdv A outer s H vs Q E hr h=>?_)
  · obtain ⟨_,_,_,_,_,rfl,_⟩:=h; rfl
  · obtain ⟨A,w,E,i,n,rfl,R,O,hi,hne,k⟩:=h
    have nd:=sc_give.nd
    refine ⟨_,(pss_cons (ps_if (pt_cmpR op_lt (pe_callB (call_lenK (K:=K)) (by rfl) T.b_len PySem.boot_len (pa_cons (pe_fl (K:=K) (pv 1)) pa_nil)) (pe_gi T.i_MOST_GRANTS) (nomark _)) (pss_cons (ps_fla (K:=K) (pv 1) pe_int in_add) (pss_one (ps_expr (pe_bm PySem.F.plainAttrs_list PySem.F.slot_list_append PySem.F.type_list_append mt_append (pe_fl (K:=K) (pv 1)) (pa_cons (pe_tup (pa_cons (pe_fl (K:=K) (pv 1)) (pa_cons (pv 2) pa_nil))) pa_nil))))) pss_nil) (pss_one (ps_expr (pe_f F_tell (hr.mono (by decide)) (pa_cons (pv 0) (pa_cons (pv 1) pa_nil)))))),?_⟩
    obtain ⟨G,gs,ms,hA,RX⟩:=id R
    have hpo:=hA (.po i) rfl
    have R0:=RX.toI hi
    have hgr:=RX.at_ (.gr i) hi
    have hp:=RX.prt hi
    rw [hpo] at hp
    refine ⟨_,rfl,r_port_grants T hp ⟨_,_,rfl,.inl (SqL.of hgr),_,_,rfl,rfl,_,rfl,?_⟩⟩
    have el:(refs (gs i)).length=(pAt w i).grants.length:=by unfold refs; rw [List.length_map,RX.glen hi]
    by_cases h8:8≤(pAt w i).grants.length
    · refine ite2 (fun h=>absurd (of_decide_eq_true h) (by rw [el]; omega)) (fun _=>?_)
      have e:Vbcnam.gives w i n=Vbcnam.put w (Vbcnam.tellsGrant i (pAt w i)):=by unfold Vbcnam.gives; exact if_pos h8
      rw [e] at k
      exact ⟨_,rfl,_,rfl,A,w,E,i,rfl,R,O,hi,hne,k⟩
    · refine ite2 (fun _=>?_) (fun h=>absurd (decide_eq_true (by rw [el]; omega)) h)
      have e:Vbcnam.gives w i n=Vbcnam.put (setP w i { pAt w i with number:=(pAt w i).number + 1,grants:=(pAt w i).grants ++ [{ number:=(pAt w i).number + 1,watts:=n }] }) (Vbcnam.tellsGrant i { pAt w i with number:=(pAt w i).number + 1,grants:=(pAt w i).grants ++ [{ number:=(pAt w i).number + 1,watts:=n }] }):=by
        unfold Vbcnam.gives
        exact if_neg h8
      rw [e] at k
      rw [← hpo]
      refine ⟨_,rfl,rx_port_number T (RX.prt hi) ⟨_,_,rfl,rfl,ap_number R0 hi (n:=(pAt w i).number + 1) rfl fun H1 R1=>?_⟩⟩
      have hp1:=R1.prtI hi
      have hg1:=R1.at_ (.gr i) (by show i < _; rw [plen]; exact hi)
      refine ⟨_,rfl,r_port_grants T hp1 ⟨.inl ⟨rfl,_,SqL.of hg1⟩,_,rfl,r_port_number T hp1 ⟨_,rfl,(by show 2≤sizeLine; decide),fun q0 hq0=>?_⟩⟩⟩
      have R2:=R1.ext (o:=.tup (gV { number:=(pAt w i).number + 1,watts:=n })) hq0
      have hg2:=R2.at_ (.gr i) (by show i < _; rw [plen]; exact hi)
      refine ⟨_,_,_,rfl,rfl,hg2,(by rw [el]; exact Nat.lt_of_lt_of_le (Nat.lt_of_not_le h8) (by decide)),?_⟩
      have R3:=R2.grputI hi (R2.fr q0 _ upd_same).1
      have e2:refs (gs i ++ [q0])=refs (gs i) ++ [V.ref q0]:=by unfold refs; rw [List.map_append]; rfl
      rw [e2] at R3
      have O1:Ok (setP w i { pAt w i with number:=(pAt w i).number + 1,grants:=(pAt w i).grants ++ [{ number:=(pAt w i).number + 1,watts:=n }] }) :=
        O.set hi (O.cls i hi) (fun h=>⟨by simp,(O.on i hi h).2⟩) (by show ((pAt w i).grants ++ [_]).length≤8; rw [List.length_append]; show _ + 1≤8; omega)
      refine ⟨_,rfl,_,rfl,A,_,_,i,by rw [hpo],⟨G,_,ms,hA,R3⟩,O1,by rw [plen]; exact hi,by rw [pAt_self hi]; simp,fun H4 R4=>?_⟩
      rw [pAt_self hi] at R4
      exact k H4 (R4.drop (R1.none_of hq0))
end
end WP
namespace WO
open Vbcnam
def tot (l:List (Nat × Nat)):Nat:=sum (l.map fun x=>x.2)
theorem foldl_from:∀ (l:List Nat) (a:Nat),l.foldl (fun a b=>a + b) a=a + l.foldl (fun a b=>a + b) 0
  | [],a=>rfl
  | x::l,a=>by rw [List.foldl_cons,List.foldl_cons,foldl_from l (a + x),foldl_from l (0 + x)]; omega
theorem sum_cons (x:Nat) (l:List Nat):sum (x::l)=x + sum l:=by
  show l.foldl (fun a b=>a + b) (0 + x)=x + l.foldl (fun a b=>a + b) 0
  rw [foldl_from]
  omega
theorem tot_cons (p b:Nat) (l:List (Nat × Nat)):tot ((p,b)::l)=b + tot l:=sum_cons b _
theorem tot_nil:tot []=0:=rfl
theorem tot_app:∀ a b:List (Nat × Nat),tot (a ++ b)=tot a + tot b
  | [],b=>by rw [List.nil_append,tot_nil]; omega
  | (p,x)::a,b=>by rw [List.cons_append,tot_cons,tot_cons,tot_app a b]; omega
theorem lights_none {w:World} {p left:Nat} {l:List Nat} (h:fit (portAt w p)=none):lights w (p::l) left=lights w l left:=by
  rw [lights]
  split
  · rfl
  · rename_i e; exact nomatch h.symm.trans e
theorem lights_yes {w:World} {p left:Nat} {l:List Nat} {d:Device} (h:fit (portAt w p)=some d) (hb:base d.cls≤left):lights w (p::l) left=(p,base d.cls)::lights w l (left - base d.cls):=by
  rw [lights]
  split
  · rename_i e; exact nomatch h.symm.trans e
  · rename_i d' e
    rw [h] at e
    cases e
    exact if_pos hb
theorem lights_no {w:World} {p left:Nat} {l:List Nat} {d:Device} (h:fit (portAt w p)=some d) (hb:¬ base d.cls≤left):lights w (p::l) left=lights w l left:=by
  rw [lights]
  split
  · rename_i e; exact nomatch h.symm.trans e
  · rename_i d' e
    rw [h] at e
    cases e
    exact if_neg hb
theorem lights_app (w:World):∀ (a b:List Nat) (left:Nat),lights w (a ++ b) left=lights w a left ++ lights w b (left - tot (lights w a left))
  | [],b,left=>by
    show lights w b left=[] ++ lights w b (left - 0)
    rw [List.nil_append,Nat.sub_zero]
  | p::a,b,left=>by
    rw [List.cons_append]
    cases h:fit (portAt w p) with
    | none=>rw [lights_none h,lights_none h]; exact lights_app w a b left
    | some d =>
      by_cases hb:base d.cls≤left
      · rw [lights_yes h hb,lights_yes h hb,lights_app w a b,List.cons_append,tot_cons]
        congr 3
        first | done | omega
      · rw [lights_no h hb,lights_no h hb]; exact lights_app w a b left
theorem lights_sub (w:World):∀ (l:List Nat) (left:Nat),((lights w l left).map fun x=>x.1).Sublist l
  | [],_=>List.Sublist.refl _
  | p::l,left=>by
    unfold lights
    split
    · exact (lights_sub w l left).cons p
    · split
      · exact (lights_sub w l _).cons_cons p
      · exact (lights_sub w l left).cons p
theorem lights_base (w:World):∀ (l:List Nat) (left:Nat) (x:Nat × Nat),x ∈ lights w l left→∃ d,fit (portAt w x.1)=some d∧x.2=base d.cls
  | [],_,x,h=>nomatch h
  | p::l,left,x,h=>by
    unfold lights at h
    split at h
    · exact lights_base w l left x h
    · rename_i d hd
      split at h
      · rcases List.mem_cons.mp h with rfl | h
        · exact ⟨d,hd,rfl⟩
        · exact lights_base w l _ x h
      · exact lights_base w l left x h
def exLeft (w:World):List (Nat × Nat)→Nat→Nat
  | [],left=>left
  | (p,b)::l,left=>exLeft w l (left - min left (min (portAt w p).wish.watts (portAt w p).most - b))
def exE (w:World) (p b left:Nat):Nat:=min left (min (portAt w p).wish.watts (portAt w p).most - b)
theorem extras_cons (w:World) (p b left:Nat) (l:List (Nat × Nat)):extras w ((p,b)::l) left=(p,b + exE w p b left)::extras w l (left - exE w p b left):=rfl
theorem exLeft_cons (w:World) (p b left:Nat) (l:List (Nat × Nat)):exLeft w ((p,b)::l) left=exLeft w l (left - exE w p b left):=rfl
theorem extras_app (w:World):∀ (a b:List (Nat × Nat)) (left:Nat),extras w (a ++ b) left=extras w a left ++ extras w b (exLeft w a left)
  | [],b,left=>rfl
  | (p,x)::a,b,left=>by rw [List.cons_append,extras_cons,extras_cons,exLeft_cons,extras_app w a b,List.cons_append]
theorem exLeft_app (w:World):∀ (a b:List (Nat × Nat)) (left:Nat),exLeft w (a ++ b) left=exLeft w b (exLeft w a left)
  | [],b,left=>rfl
  | (p,x)::a,b,left=>by rw [List.cons_append,exLeft_cons,exLeft_cons,exLeft_app w a b]
theorem extras_fst (w:World):∀ (l:List (Nat × Nat)) (left:Nat),(extras w l left).map (fun x=>x.1)=l.map fun x=>x.1
  | [],_=>rfl
  | (p,b)::l,left=>by
    rw [extras_cons,List.map_cons,List.map_cons,extras_fst w l]
def lit1 (w:World):List (Nat × Nat):=lights w (order w) (may w)
def left1 (w:World):Nat:=may w - tot (lit1 w)
theorem plan_eq (w:World):plan w=extras w (lit1 w) (left1 w):=rfl
theorem plan_fst (w:World):(plan w).map (fun x=>x.1)=(lit1 w).map fun x=>x.1:=extras_fst w _ _
theorem lit1_nodup (w:World):((lit1 w).map fun x=>x.1).Nodup:=(order_nodup w).sublist (lights_sub w _ _)
theorem plan_nodup (w:World):((plan w).map fun x=>x.1).Nodup:=by rw [plan_fst]; exact lit1_nodup w
theorem lit1_mem {w:World} {x:Nat × Nat} (h:x ∈ lit1 w):x.1 < w.ports.length∧∃ d,fit (portAt w x.1)=some d∧x.2=base d.cls :=
  ⟨(order_mem w x.1).mp ((lights_sub w _ _).subset (List.mem_map.mpr ⟨x,h,rfl⟩)),lights_base w _ _ x h⟩
theorem plan_mem {w:World} {x:Nat × Nat} (h:x ∈ plan w):x.1 < w.ports.length∧∃ d,fit (portAt w x.1)=some d:=by
  have h2:x.1 ∈ (lit1 w).map fun x=>x.1:=by rw [← plan_fst]; exact List.mem_map.mpr ⟨x,h,rfl⟩
  obtain ⟨y,hy,e⟩:=List.mem_map.mp h2
  obtain ⟨h3,d,h4,_⟩:=lit1_mem hy
  rw [e] at h3 h4
  exact ⟨h3,d,h4⟩
end WO
set_option maxHeartbeats 4000000
namespace WP
open PySem PySem.Spec PyProof.Rows L2
def kvP (x:Nat × Nat):Key × V:=(Sum.inl (x.1:Int),V.int (x.2:Nat))
def keysV (l:List (Nat × Nat)):List V:=l.map fun x=>V.int (x.1:Nat)
def planKV (l:List (Nat × Nat)):List (Key × V):=l.map kvP
theorem upd_comm {H:Hp} {a b:Addr} {o u:HO} (h:a≠b):upd (upd H a o) b u=upd (upd H b u) a o:=by
  funext c
  by_cases h1:c=a
  · subst h1; rw [upd_ne h,upd_same,upd_same]
  · by_cases h2:c=b
    · subst h2; rw [upd_same,upd_ne h1,upd_same]
    · rw [upd_ne h2,upd_ne h1,upd_ne h1,upd_ne h2]
theorem planKV_val:∀ (l:List (Nat × Nat)) (p:Nat),valV (planKV l) (Sum.inl (p:Int))=(Vbcnam.planned l p).map fun (n:Nat)=>V.int n
  | [],p=>rfl
  | (q,a)::l,p=>by
    have ih:=planKV_val l p
    unfold Vbcnam.planned at ih ⊢
    rw [List.find?_cons]
    by_cases h:q=p
    · subst h
      have e:((q,a).1 == q)=true:=beq_self_eq_true q
      rw [e]
      exact valV_pos (p:=kvP (q,a)) (r:=planKV l) rfl
    · have e:((q,a).1 == p)=false:=beq_eq_false_iff_ne.mpr h
      rw [e]
      refine (valV_neg (p:=kvP (q,a)) (r:=planKV l) ?_).trans ih
      intro z
      have z:(Sum.inl (q:Int):Key)=Sum.inl (p:Int):=z
      injection z with z
      omega
theorem planned_none {l:List (Nat × Nat)} {p:Nat} (h:p ∉ l.map fun x=>x.1):Vbcnam.planned l p=none:=by
  unfold Vbcnam.planned
  rw [List.find?_eq_none.mpr fun x hx=>?_]
  · rfl
  · intro e
    exact h (List.mem_map.mpr ⟨x,hx,eq_of_beq e⟩)
theorem planned_some {l:List (Nat × Nat)} (hn:(l.map fun x=>x.1).Nodup):∀ {p a:Nat},(p,a) ∈ l→Vbcnam.planned l p=some a:=by
  intro p a h
  unfold Vbcnam.planned
  induction l with
  | nil=>cases h
  | cons x l ih =>
    rw [List.map_cons] at hn
    obtain ⟨h1,h2⟩:=List.nodup_cons.mp hn
    rw [List.find?_cons]
    rcases List.mem_cons.mp h with e | e
    · subst e
      have e2:((p,a).1 == p)=true:=beq_self_eq_true p
      rw [e2]
      rfl
    · have e2:(x.1 == p)=false:=beq_eq_false_iff_ne.mpr fun z=>h1 (by rw [z]; exact List.mem_map.mpr ⟨(p,a),e,rfl⟩)
      rw [e2]
      exact ih h2 e
theorem planKV_put {done rest:List (Nat × Nat)} {p b c:Nat} (h1:p ∉ done.map fun x=>x.1) (h2:p ∉ rest.map fun x=>x.1) :
    putK (planKV (done ++ (p,b)::rest)) (Sum.inl (p:Int)) (V.int (c:Nat))=planKV (done ++ (p,c)::rest):=by
  have hv:(valV (planKV (done ++ (p,b)::rest)) (Sum.inl (p:Int))).isSome=true:=by
    rw [planKV_val]
    cases e:Vbcnam.planned (done ++ (p,b)::rest) p with
    | some x=>rfl
    | none =>
      unfold Vbcnam.planned at e
      have:=List.find?_eq_none.mp (Option.map_eq_none_iff.mp e) (p,b) (by simp)
      simp at this
  unfold putK
  rw [valV_any,if_pos hv]
  have g:∀ l:List (Nat × Nat),(p ∉ l.map fun x=>x.1)→(planKV l).map (fun kv=>if kv.1=Sum.inl (p:Int) then (kv.1,V.int (c:Nat)) else kv)=planKV l:=fun l hl=>by
    unfold planKV
    rw [List.map_map]
    refine List.map_congr_left fun x hx=>?_
    show (if (kvP x).1=Sum.inl (p:Int) then _ else _)=_
    rw [if_neg]
    intro z
    have z:(Sum.inl (x.1:Int):Key)=Sum.inl (p:Int):=z
    injection z with z
    have e:x.1=p:=by omega
    exact hl (List.mem_map.mpr ⟨x,hx,e⟩)
  have e1:planKV (done ++ (p,b)::rest)=planKV done ++ kvP (p,b)::planKV rest:=by unfold planKV; rw [List.map_append,List.map_cons]
  have e2:planKV (done ++ (p,c)::rest)=planKV done ++ kvP (p,c)::planKV rest:=by unfold planKV; rw [List.map_append,List.map_cons]
  rw [e1,e2,List.map_append,List.map_cons,g done h1,g rest h2]
  congr 2
  exact if_pos rfl
section
variable {P:Program} {w₀:PySem.World} {K:PySem.W.Frag} {mg:Str→Option Value} {base:Heap} {t:Cas} {f:Addr} {fd:FuncData}
theorem Rep.pd {A:Rl→Addr} {H E:Hp} {w:VW} {i:Nat} {y:VD} (R:Rep t A H w E) (hi:i < w.ports.length) (hy:(pAt w i).device=some y) :
    ∃ dx g d dd,H (A (.po i))=some (.ins t.CP dx (portF i (pAt w i) g (.ref d)))∧H d=some (.ins t.CD dd (devF y)):=by
  obtain ⟨G,gs,ms,hA,R⟩:=R
  have z:=R.prtD hi hy
  rw [hA (.po i) rfl] at z
  exact ⟨_,_,_,_,z,R.dev hi hy⟩
theorem Rep.extw {A:Rl→Addr} {H E:Hp} {w:VW} {p:Addr} {o0 o:HO} (R:Rep t A H w E) (hp:E p=some o0) (hs:Soft o0):Rep t A (upd H p o) w (upd E p o) :=
  let ⟨G,gs,ms,hA,R⟩:=R
  ⟨G,gs,ms,hA,R.extw hp hs⟩
theorem Rep.sub {A:Rl→Addr} {H E:Hp} {w:VW} (R:Rep t A H w E) {b:Addr} {o:HO} (h:E b=some o):H b=some o:=R.beside h
theorem fit_dev {x:VP} {d:VD} (h:Vbcnam.fit x=some d):x.device=some d:=by
  unfold Vbcnam.fit at h
  split at h
  · exact h
  · cases h
theorem ord_at {A:Rl→Addr} {w:VW} {j:Nat} {a:Addr} (h:(ordA A w)[j]?=some a):∃ p,(Vbcnam.order w)[j]?=some p∧a=A (.po p):=by
  unfold ordA at h
  rw [List.getElem?_map] at h
  cases e:(Vbcnam.order w)[j]? with
  | none=>rw [e] at h; cases h
  | some p=>rw [e] at h; exact ⟨p,rfl,(Option.some.inj h).symm⟩
theorem nodup_take {α:Type} {l:List α} {j:Nat} {p:α} (hn:l.Nodup) (hp:l[j]?=some p) (h:p ∈ l.take j):False:=by
  obtain ⟨i,hi,e⟩:=List.getElem_of_mem h
  rw [List.length_take] at hi
  have h1:l[i]?=some p:=by
    rw [List.getElem_take] at e
    rw [List.getElem?_eq_getElem (by omega),e]
  have:=nd_ix hn h1 hp
  omega
theorem Rep.pls {A:Rl→Addr} {H E:Hp} {w:VW} (R:Rep t A H w E):H (A .pl)=some (.lst (refs ((List.range w.ports.length).map fun i=>A (.po i)))):=by
  obtain ⟨G,gs,ms,hA,R⟩:=R
  have z:H (G.ad .pl)=some (.lst (refs ((List.range w.ports.length).map fun i=>G.ad (.po i)))):=R.at_ .pl trivial
  rw [hA .pl rfl] at z
  rw [z]
  congr 3
  exact List.map_congr_left fun j _=>hA (.po j) rfl
theorem at_port {A:Rl→Addr} {w:VW} {p:Nat} (h:p < w.ports.length):atI (refs ((List.range w.ports.length).map fun i=>A (.po i))) (p:Int)=some (.ref (A (.po p))):=by
  refine atI_nat ?_
  unfold refs
  rw [List.getElem?_map,List.getElem?_map,List.getElem?_range h]
  rfl
theorem nodup_mid {a:List Nat} {b:List Nat} {p:Nat} (h1:p ∉ a) (h2:p ∉ b) (ha:a.Nodup) (hb:b.Nodup) (hd:∀ q,q ∈ a→q ∈ b→False):(a ++ p::b).Nodup:=by
  refine List.nodup_append.mpr ⟨ha,List.nodup_cons.mpr ⟨h2,hb⟩,fun x hx y hy e=>?_⟩
  subst e
  rcases List.mem_cons.mp hy with e | hy
  · subst e; exact h1 hx
  · exact hd x hx hy
theorem dOf_some {x:VP} {y:VD} (h:x.device=some y):dOf x=y:=by unfold dOf; rw [h]; rfl
def E2 (E:Hp) (d:Addr) (kvs:List (Key × V)) (D:Addr) (xs:List V):Hp:=upd (upd E d (.dK kvs)) D (.lst xs)
def sp_make_plan (t:Cas):Sp:=fun vs H Q _=>∃ (A:Rl→Addr) (w:VW) (E:Hp),vs=[.ref (A .wd)]∧Rep t A H w E∧Ok w ∧
  ∀ H' d,E d=none→Rep t A H' w (upd E d (.dK (planKV (Vbcnam.plan w))))→Q (.ref d) H'
theorem ok_make_plan (T:Txt K mg t) (F:Fun K "make_plan" "make_plan" s_make_plan f fd) (F_may_give:Known P w₀ K mg base "may_give" 3 ["world"] (spW t fun w=>.int (Vbcnam.may w)))
    (F_order_of_ports:Known P w₀ K mg base "order_of_ports" 4 ["world"] (sp_order t)) (F_is_fit:Known P w₀ K mg base "is_fit" 1 ["port"] (spP t (fun _=>True) fun x=>.bl (fitB x)))
    (F_base_of:Known P w₀ K mg base "base_of" 1 ["device"] (sp_base_of t))
    (F_surplus_wished:Known P w₀ K mg base "surplus_wished" 2 ["port"] (spP t (fun x=>x.device.isSome=true) fun x=>.int ((min x.wish.watts x.most - Vbcnam.base (dOf x).cls:Nat):Int))) :
    FnOk P w₀ K mg base CX0 5 f fd ["world"] (sp_make_plan t):=by
  refine F.ok sc_make_plan (fun vs H Q E h=>?_) (fun cdv A outer s H vs Q E hr h=>?_)
  · obtain ⟨_,_,_,rfl,_⟩:=h; rfl
  · obtain ⟨A,w,E,rfl,R,O,k⟩:=h
    have nd:=sc_make_plan.nd
    have hu:=hu_of hr
    refine ⟨_,(pss_cons (ps_set (i:=1) nd rfl (Or.inl rfl) (pe_f F_may_give (hr.mono (by decide)) (pa_cons (pv 0) pa_nil))) (pss_cons (ps_set (i:=2) nd rfl (Or.inl rfl) pe_dnewK) (pss_cons (ps_for PassesOwn.never rfl (pi_listK (K:=K) (pe_f F_order_of_ports (hr.mono (by decide)) (pa_cons (pv 0) pa_nil))) (pg_name (i:=3) nd rfl (Or.inl rfl)) (pss_one (ps_if (PW.pt (pw_and (pt_val (pe_f F_is_fit (hr.mono (by decide)) (pa_cons (pv 3) pa_nil))) (pw_and1 (pt_cmpR op_le (pe_f F_base_of (hr.mono (by decide)) (pa_cons (pe_fl (K:=K) (pv 3)) pa_nil)) (pv 1) (nomark _))))) (pss_cons (ps_dput hu (pv 2) (pe_fl (K:=K) (pv 3)) (pe_f F_base_of (hr.mono (by decide)) (pa_cons (pe_fl (K:=K) (pv 3)) pa_nil)) rfl) (pss_one (ps_aug (i:=1) nd rfl (Or.inl rfl) (pe_dget hu (pv 2) (pe_fl (K:=K) (pv 3)) (fun _ _=>rfl)) ip_sub))) pss_nil))) (pss_cons (ps_for PassesOwn.never rfl (pi_listK (K:=K) (pe_callTy call_listD (by rfl) T.b_list PyProof.Rows.boot_list (pa_cons (pv 2) pa_nil))) (pg_name (i:=4) nd rfl (Or.inl rfl)) (pss_cons (ps_set (i:=5) nd rfl (Or.inl rfl) (pe_callB (call_min2 rfl) (by rfl) T.b_min boot_min (pa_cons (pv 1) (pa_cons (pe_f F_surplus_wished (hr.mono (by decide)) (pa_cons (pe_ix (ix_listK (K:=K)) (pe_fl (K:=K) (pv 0)) (pv 4) (fun _ _=>rfl)) pa_nil)) pa_nil)))) (pss_cons (ps_daug hu (pv 2) (pv 4) (pv 5) in_add (fun _ _ _=>rfl)) (pss_one (ps_aug (i:=1) nd rfl (Or.inl rfl) (pv 5) ip_sub))))) (pss_one (ps_ret (pv 2))))))),?_⟩
    refine ⟨_,rfl,A,w,E,rfl,R,O,fun H1 R1=>?_⟩
    intro d hd
    obtain ⟨R2,Ed⟩:=R1.ext (o:=.dK []) hd
    refine ⟨_,rfl,A,w,_,rfl,R2,O,fun H3 D hD R3=>⟨D,rfl,⟨_,SqL.of (R3.beside upd_same)⟩,?_⟩⟩
    have nDd:D≠d:=fun z=>by rw [z,upd_same] at hD; cases hD
    have ED:E D=none:=by rw [upd_ne nDd] at hD; exact hD
    refine for_list (K:=K) (a:=D) (xs:=refs (ordA A w)) (fun j σ H'=>∃ v:Option V,σ=[some (.ref (A .wd)),some (.int ((Vbcnam.may w - WO.tot (Vbcnam.lights w ((Vbcnam.order w).take j) (Vbcnam.may w)):Nat):Int)),some (.ref d),v,none,none] ∧
        Rep t A H' w (E2 E d (planKV (Vbcnam.lights w ((Vbcnam.order w).take j) (Vbcnam.may w))) D (refs (ordA A w))))
      ⟨none,rfl,R3⟩ (fun j σ H' _ ⟨_,_,R'⟩=>SqL.of (R'.beside upd_same)) ?_ ?_
    · rintro j x σ H' hx ⟨v,rfl,R'⟩
      obtain ⟨a,ha,rfl⟩:=refs_at hx
      obtain ⟨p,hp,rfl⟩:=ord_at ha
      have hpn:=(WO.order_mem w p).mp (List.mem_of_getElem? hp)
      have et:=take_snoc hp
      generalize eL:Vbcnam.lights w ((Vbcnam.order w).take j) (Vbcnam.may w)=L at R'
      have eS:Vbcnam.lights w ((Vbcnam.order w).take (j + 1)) (Vbcnam.may w)=L ++ Vbcnam.lights w [p] (Vbcnam.may w - WO.tot L):=by rw [et,WO.lights_app,eL]
      have hLn:p ∉ L.map fun x=>x.1:=fun hm=>by
        have h2:p ∈ (Vbcnam.order w).take j:=(WO.lights_sub w _ _).subset (by rw [eL]; exact hm)
        exact nodup_take (WO.order_nodup w) hp h2
      have hLl:L.length≤48:=by
        have h2:=(WO.lights_sub w ((Vbcnam.order w).take j) (Vbcnam.may w)).length_le
        rw [eL,List.length_map] at h2
        exact Nat.le_trans h2 (Nat.le_trans (List.take_sublist _ _).length_le (by rw [WO.order_len]; exact O.np))
      refine ⟨_,rfl,A,w,_,p,rfl,R',O,hpn,trivial,fun H4 R4=>⟨_,rfl,?_⟩⟩
      rw [eS]
      cases hf:Vbcnam.fit (pAt w p) with
      | none =>
        have e0:fitB (pAt w p)=false:=by unfold fitB; rw [hf]; rfl
        refine ite2 (fun h=>absurd h (by rw [e0]; decide)) (fun _=>ite2 (fun h=>absurd h (by decide)) (fun _=>?_))
        rw [WO.lights_none hf,show Vbcnam.lights w [] (Vbcnam.may w - WO.tot L)=[] from rfl,List.append_nil]
        exact ⟨_,rfl,R4⟩
      | some y =>
        have e0:fitB (pAt w p)=true:=by unfold fitB; rw [hf]; rfl
        have hy:=fit_dev hf
        refine ite2 (fun _=>?_) (fun h=>absurd e0 h)
        obtain ⟨dx,g,dv,dd,hpo,hdv⟩:=R4.pd hpn hy
        refine ⟨_,rfl,r_port_device T hpo ⟨_,dd,y,rfl,hdv,O.cls p hpn y hy,_,rfl,_,_,rfl,rfl,_,rfl,?_⟩⟩
        by_cases hb:Vbcnam.base y.cls≤Vbcnam.may w - WO.tot L
        · refine ite2 (fun _=>?_) (fun h=>absurd (decide_eq_true (by omega)) h)
          have hd4:E2 E d (planKV L) D (refs (ordA A w)) d=some (.dK (planKV L)):=by show upd _ D _ d=_; rw [upd_ne (Ne.symm nDd),upd_same]
          have hdH:=R4.sub hd4
          have hll:(planKV L).length < sizeLine:=by unfold planKV; rw [List.length_map]; exact Nat.lt_of_le_of_lt hLl (by decide)
          have hvn:valV (planKV L) (Sum.inl (p:Int))=none:=by rw [planKV_val,planned_none hLn]; rfl
          refine ⟨_,rfl,r_port_device T hpo ⟨_,dd,y,rfl,hdv,O.cls p hpn y hy,_,rfl,_,rfl,r_port_place T hpo ⟨d,_,rfl,DPut.k (k:=Sum.inl (p:Int)) hdH hll,?_⟩⟩⟩
          rw [putK_new _ hvn]
          have R5:=R4.extw (o:=.dK (planKV L ++ [(Sum.inl (p:Int),V.int (Vbcnam.base y.cls))])) hd4 trivial
          have e5:upd (E2 E d (planKV L) D (refs (ordA A w))) d (.dK (planKV L ++ [(Sum.inl (p:Int),V.int (Vbcnam.base y.cls))]))=E2 E d (planKV (L ++ [(p,Vbcnam.base y.cls)])) D (refs (ordA A w)):=by
            unfold E2
            rw [upd_comm nDd,upd_upd]
            unfold planKV
            rw [List.map_append]
            rfl
          rw [e5] at R5
          have nde:A (.po p)≠d:=ne_of hpo hdH (by intro z; cases z)
          have hpo5:upd H4 d (.dK (planKV L ++ [(Sum.inl (p:Int),V.int (Vbcnam.base y.cls))])) (A (.po p))=_:=(upd_ne nde).trans hpo
          refine ⟨_,rfl,_,rfl,_,rfl,r_port_place T hpo5 ⟨d,.int (Vbcnam.base y.cls),rfl,?_,_,_,rfl,rfl,?_⟩⟩
          · have z:=DGet.k (k:=Sum.inl (p:Int)) (show upd H4 d (.dK (planKV L ++ [(Sum.inl (p:Int),V.int (Vbcnam.base y.cls))])) d=_ from upd_same)
            rw [valV_snoc _ _ _ _ hvn,if_pos rfl] at z
            exact z
          · rw [WO.lights_yes hf hb,show Vbcnam.lights w [] (Vbcnam.may w - WO.tot L - Vbcnam.base y.cls)=[] from rfl]
            refine ⟨some (.ref (A (.po p))),?_,R5⟩
            have e6:((Vbcnam.may w - WO.tot L:Nat):Int) - (Vbcnam.base y.cls:Int)=((Vbcnam.may w - WO.tot (L ++ [(p,Vbcnam.base y.cls)]):Nat):Int):=by
              rw [WO.tot_app,WO.tot_cons,WO.tot_nil]
              omega
            rw [← e6]
            rfl
        · refine ite2 (fun h=>absurd (of_decide_eq_true h) (by omega)) (fun _=>?_)
          rw [WO.lights_no hf hb,show Vbcnam.lights w [] (Vbcnam.may w - WO.tot L)=[] from rfl,List.append_nil]
          exact ⟨_,rfl,R4⟩
    · rintro σ H' ⟨v,rfl,R'⟩
      have e0:(Vbcnam.order w).take (refs (ordA A w)).length=Vbcnam.order w:=by
        unfold refs ordA
        rw [List.length_map,List.length_map,List.take_length]
      rw [e0] at R' ⊢
      show tSeq _ _ _ [_,some (V.int ((WO.left1 w:Nat):Int)),_,_,_,_] H'
      have R':Rep t A H' w (E2 E d (planKV (WO.lit1 w)) D (refs (ordA A w))):=R'
      have hdE:E2 E d (planKV (WO.lit1 w)) D (refs (ordA A w)) d=some (.dK (planKV (WO.lit1 w))):=by show upd _ D _ d=_; rw [upd_ne (Ne.symm nDd),upd_same]
      refine ⟨_,rfl,d,_,rfl,R'.sub hdE,fun l2 hl2=>⟨l2,rfl,⟨_,SqL.of upd_same⟩,?_⟩⟩
      obtain ⟨R6,El2⟩:=R'.ext (o:=.lst ((planKV (WO.lit1 w)).map fun p=>kV p.1)) hl2
      have nl2d:l2≠d:=fun z=>by rw [z,hdE] at El2; cases El2
      have ek:((planKV (WO.lit1 w)).map fun p=>kV p.1)=keysV (WO.lit1 w):=by unfold planKV keysV; rw [List.map_map]; rfl
      rw [ek] at R6 ⊢
      have EE:∀ l,upd (upd (E2 E d (planKV (WO.lit1 w)) D (refs (ordA A w))) l2 (.lst (keysV (WO.lit1 w)))) d (.dK l)=upd (E2 E d l D (refs (ordA A w))) l2 (.lst (keysV (WO.lit1 w))):=fun l=>by
        unfold E2
        rw [upd_comm nl2d,upd_comm nDd,upd_upd]
      refine for_list (K:=K) (a:=l2) (xs:=keysV (WO.lit1 w)) (fun j σ H'=>∃ v4 v5:Option V,σ=[some (.ref (A .wd)),some (.int ((WO.exLeft w ((WO.lit1 w).take j) (WO.left1 w):Nat):Int)),some (.ref d),v,v4,v5] ∧
          Rep t A H' w (upd (E2 E d (planKV (Vbcnam.extras w ((WO.lit1 w).take j) (WO.left1 w) ++ (WO.lit1 w).drop j)) D (refs (ordA A w))) l2 (.lst (keysV (WO.lit1 w)))))
        ⟨none,none,rfl,R6⟩ (fun j σ H' _ ⟨_,_,_,R'⟩=>SqL.of (R'.beside upd_same)) ?_ ?_
      · rintro j x σ H7 hx ⟨v4,v5,rfl,R7⟩
        obtain ⟨⟨p,b⟩,hp,rfl⟩:∃ q:Nat × Nat,(WO.lit1 w)[j]?=some q∧x=V.int (q.1:Nat):=by
          unfold keysV at hx
          rw [List.getElem?_map] at hx
          cases e:(WO.lit1 w)[j]? with
          | none=>rw [e] at hx; cases hx
          | some q=>rw [e] at hx; exact ⟨q,rfl,(Option.some.inj hx).symm⟩
        have hpm:=List.mem_of_getElem? hp
        obtain ⟨hpn,y,hf,hb⟩:=WO.lit1_mem hpm
        have hpn:p < w.ports.length:=hpn
        have hb:b=Vbcnam.base y.cls:=hb
        have hy:(pAt w p).device=some y:=fit_dev hf
        have hdr:(WO.lit1 w).drop j=(p,b)::(WO.lit1 w).drop (j + 1):=by
          obtain ⟨hj,e⟩:=List.getElem?_eq_some_iff.mp hp
          rw [List.drop_eq_getElem_cons hj,e]
        have hta:=take_snoc hp
        rw [hdr] at R7
        generalize eX:Vbcnam.extras w ((WO.lit1 w).take j) (WO.left1 w)=X at R7
        generalize eL:WO.exLeft w ((WO.lit1 w).take j) (WO.left1 w)=lf
        have eX1:Vbcnam.extras w ((WO.lit1 w).take (j + 1)) (WO.left1 w)=X ++ [(p,b + WO.exE w p b lf)]:=by rw [hta,WO.extras_app,eX,eL]; rfl
        have eL1:WO.exLeft w ((WO.lit1 w).take (j + 1)) (WO.left1 w)=lf - WO.exE w p b lf:=by rw [hta,WO.exLeft_app,eL]; rfl
        have hn:=WO.lit1_nodup w
        have hX:p ∉ X.map fun x=>x.1:=fun hm=>by
          rw [← eX,WO.extras_fst] at hm
          rw [List.map_take] at hm
          exact nodup_take hn (by rw [List.getElem?_map,hp]; rfl) hm
        have hrest:p ∉ ((WO.lit1 w).drop (j + 1)).map fun x=>x.1:=fun hm=>by
          have h2:((WO.lit1 w).drop j).map (fun x=>x.1)=p::((WO.lit1 w).drop (j + 1)).map fun x=>x.1:=by rw [hdr]; rfl
          have h3:(((WO.lit1 w).drop j).map fun x=>x.1).Nodup:=hn.sublist ((List.drop_sublist j _).map _)
          rw [h2] at h3
          exact (List.nodup_cons.mp h3).1 hm
        obtain ⟨dxw,hw⟩:=R7.wld
        refine ⟨_,rfl,_,rfl,r_world_ports T hw ⟨_,rfl,_,_,_,_,rfl,rfl,SqL.of R7.pls,at_port hpn,A,w,_,p,rfl,R7,O,hpn,(show (pAt w p).device.isSome=true by rw [hy]; rfl),fun H8 R8=>⟨_,_,rfl,?_⟩⟩⟩
        have es:(if ((min (pAt w p).wish.watts (pAt w p).most - Vbcnam.base (dOf (pAt w p)).cls:Nat):Int) < (lf:Int) then ((min (pAt w p).wish.watts (pAt w p).most - Vbcnam.base (dOf (pAt w p)).cls:Nat):Int) else (lf:Int))=(WO.exE w p b lf:Nat):=by
          rw [dOf_some hy,← hb]
          unfold WO.exE
          show (if ((min (Vbcnam.portAt w p).wish.watts (Vbcnam.portAt w p).most - b:Nat):Int) < (lf:Int) then ((min (Vbcnam.portAt w p).wish.watts (Vbcnam.portAt w p).most - b:Nat):Int) else (lf:Int))=_
          split <;> omega
        rw [es]
        have hle:WO.exE w p b lf≤lf:=Nat.min_le_left _ _
        generalize WO.exE w p b lf=ee at *
        have hdE8:upd (E2 E d (planKV (X ++ (p,b)::(WO.lit1 w).drop (j + 1))) D (refs (ordA A w))) l2 (.lst (keysV (WO.lit1 w))) d=some (.dK (planKV (X ++ (p,b)::(WO.lit1 w).drop (j + 1)))):=by
          rw [upd_ne (Ne.symm nl2d)]
          show upd _ D _ d=_
          rw [upd_ne (Ne.symm nDd),upd_same]
        have hd8:=R8.sub hdE8
        have hll:(planKV (X ++ (p,b)::(WO.lit1 w).drop (j + 1))).length < sizeLine:=by
          have h1:(X.map fun x=>x.1).length=((WO.lit1 w).take j).length:=by rw [← eX,WO.extras_fst,List.length_map]
          rw [List.length_map] at h1
          have h2:=(WO.lights_sub w (Vbcnam.order w) (Vbcnam.may w)).length_le
          rw [List.length_map,WO.order_len] at h2
          have h2:(WO.lit1 w).length≤w.ports.length:=h2
          unfold planKV
          rw [List.length_map,List.length_append,h1,← hdr,← List.length_append,List.take_append_drop]
          exact Nat.lt_of_le_of_lt (Nat.le_trans h2 O.np) (by decide)
        refine ⟨_,rfl,_,rfl,d,.int b,rfl,?_,_,rfl,_,_,rfl,rfl,_,DPut.k (k:=Sum.inl (p:Int)) hd8 hll,?_⟩
        · have z:=DGet.k (k:=Sum.inl (p:Int)) hd8
          rw [planKV_val,planned_some (p:=p) (a:=b) (by rw [List.map_append,List.map_cons]; exact nodup_mid hX hrest (by rw [← eX,WO.extras_fst]; exact hn.sublist ((List.take_sublist j _).map _)) (hn.sublist ((List.drop_sublist (j + 1) _).map _)) (by
            have h9:=hn
            rw [← List.take_append_drop j (WO.lit1 w),List.map_append] at h9
            rw [← eX,WO.extras_fst]
            intro q h1 h2
            exact (List.nodup_append.mp h9).2.2 q h1 q (by rw [hdr]; exact List.mem_cons_of_mem _ h2) rfl)) (by simp)] at z
          exact z
        · rw [show (V.int ((b:Int) + (ee:Int)):V)=V.int ((b + ee:Nat):Int) from rfl,planKV_put hX hrest]
          have R9:=R8.extw (o:=.dK (planKV (X ++ (p,b + ee)::(WO.lit1 w).drop (j + 1)))) hdE8 trivial
          refine ⟨_,rfl,_,rfl,_,_,rfl,rfl,?_⟩
          rw [eX1,eL1,List.append_assoc,List.singleton_append]
          refine ⟨some (.int p),some (.int ee),?_,?_⟩
          · rw [show ((lf - ee:Nat):Int)=(lf:Int) - (ee:Int) by omega]
            rfl
          · have e9:upd (upd (E2 E d (planKV (X ++ (p,b)::(WO.lit1 w).drop (j + 1))) D (refs (ordA A w))) l2 (.lst (keysV (WO.lit1 w)))) d (.dK (planKV (X ++ (p,b + ee)::(WO.lit1 w).drop (j + 1)))) =
                upd (E2 E d (planKV (X ++ (p,b + ee)::(WO.lit1 w).drop (j + 1))) D (refs (ordA A w))) l2 (.lst (keysV (WO.lit1 w))):=by
              unfold E2
              rw [upd_comm nl2d,upd_comm nDd,upd_upd]
            rw [e9] at R9
            exact R9
      · rintro σ H7 ⟨v4,v5,rfl,R7⟩
        have e1:(WO.lit1 w).take (keysV (WO.lit1 w)).length=WO.lit1 w:=by unfold keysV; rw [List.length_map,List.take_length]
        have e2:(WO.lit1 w).drop (keysV (WO.lit1 w)).length=[]:=by unfold keysV; rw [List.length_map,List.drop_length]
        rw [e1,e2,List.append_nil,← WO.plan_eq] at R7
        refine ⟨_,rfl,k H7 d Ed (R7.less fun c o e=>?_)⟩
        have c1:c≠l2:=fun z=>by
          subst z
          by_cases hc:c=d
          · exact nl2d hc
          · rw [upd_ne hc] at e
            have:E2 E d (planKV (WO.lit1 w)) D (refs (ordA A w)) c=none:=El2
            unfold E2 at this
            by_cases hc2:c=D
            · subst hc2; rw [upd_same] at this; cases this
            · rw [upd_ne hc2,upd_ne hc,e] at this; cases this
        have c2:c≠D:=fun z=>by
          subst z
          rw [upd_ne nDd,ED] at e
          cases e
        rw [upd_ne c1]
        unfold E2
        rw [upd_ne c2]
        exact e
end
theorem Ok.cut {w:VW} {i:Nat} (O:Ok w) (hi:i < w.ports.length):Ok (setP w i (Vbcnam.cut (pAt w i))):=by
  refine O.set hi (fun y hy=>?_) (fun h=>nomatch h) (Nat.zero_le _)
  cases hd:(pAt w i).device with
  | none=>rw [cut_none hd] at hy; have hy:(pAt w i).device=some y:=hy; rw [hd] at hy; cases hy
  | some z =>
    rw [cut_some hd] at hy
    have hy:some (anewD z 0 0)=some y:=hy
    cases hy
    exact O.cls i hi z hd
def gvn (x:VP) (n:Nat):VP:={ x with number:=x.number + 1,grants:=x.grants ++ [{ number:=x.number + 1,watts:=n }] }
theorem gives_old {w:VW} {i n:Nat} (h8:8≤(pAt w i).grants.length):Vbcnam.gives w i n=Vbcnam.put w (Vbcnam.tellsGrant i (pAt w i)):=by unfold Vbcnam.gives; exact if_pos h8
theorem gives_new {w:VW} {i n:Nat} (h8:¬ 8≤(pAt w i).grants.length):Vbcnam.gives w i n=Vbcnam.put (setP w i (gvn (pAt w i) n)) (Vbcnam.tellsGrant i (gvn (pAt w i) n)):=by unfold Vbcnam.gives; exact if_neg h8
theorem Ok.gives {w:VW} {i n:Nat} (O:Ok w) (hi:i < w.ports.length):Ok (Vbcnam.gives w i n):=by
  by_cases h8:8≤(pAt w i).grants.length
  · rw [gives_old h8]
    exact O.put
  · rw [gives_new h8]
    have O1:Ok (setP w i (gvn (pAt w i) n)):=O.set hi (O.cls i hi) (fun h=>⟨by unfold gvn; simp,(O.on i hi h).2⟩) (by show ((pAt w i).grants ++ [_]).length≤8; rw [List.length_append]; show _ + 1≤8; omega)
    exact O1.put
theorem Ok.lit {w:VW} {i:Nat} {y:VD} (O:Ok w) (hi:i < w.ports.length) (hy:(pAt w i).device=some y):Ok (setP w i (Vbcnam.lit (pAt w i) y)):=by
  refine O.set hi (fun z hz=>?_) (fun h=>⟨by show [_]≠[]; simp,rfl⟩) (by show 1≤8; decide)
  have hz:some (anewD y ((pAt w i).session + 1) (Vbcnam.base y.cls))=some z:=hz
  cases hz
  exact O.cls i hi y hy
def Kp (w w':VW):Prop:=w'.ports.length=w.ports.length∧∀ i,i < w.ports.length→(pAt w' i).device.isSome=(pAt w i).device.isSome
theorem Kp.refl (w:VW):Kp w w:=⟨rfl,fun _ _=>rfl⟩
theorem Kp.trans {a b c:VW} (h:Kp a b) (k:Kp b c):Kp a c:=⟨k.1.trans h.1,fun i hi=>(k.2 i (by rw [h.1]; exact hi)).trans (h.2 i hi)⟩
theorem Kp.set {w:VW} {i:Nat} {x':VP} (hi:i < w.ports.length) (h:x'.device.isSome=(pAt w i).device.isSome):Kp w (setP w i x'):=by
  refine ⟨plen,fun j hj=>?_⟩
  by_cases e:j=i
  · subst e; rw [pAt_self hi]; exact h
  · rw [pAt_other hi e]
theorem Kp.put {w:VW} {m:VM}:Kp w (Vbcnam.put w m):=⟨by rw [put_ports],fun i _=>by rw [put_pAt]⟩
theorem Kp.cut {w:VW} {i:Nat} (hi:i < w.ports.length):Kp w (setP w i (Vbcnam.cut (pAt w i))):=Kp.set hi (by show ((pAt w i).device.map _).isSome=_; rw [Option.isSome_map])
theorem Kp.gives {w:VW} {i n:Nat} (hi:i < w.ports.length):Kp w (Vbcnam.gives w i n):=by
  by_cases h8:8≤(pAt w i).grants.length
  · rw [gives_old h8]
    exact Kp.put
  · rw [gives_new h8]
    exact (Kp.set (x':=gvn (pAt w i) n) hi rfl).trans Kp.put
def lower0 (l:List (Nat × Nat)) (w:VW) (p:Nat):VW:=match Vbcnam.planned l p with
  | none=>setP w p (Vbcnam.cut (pAt w p))
  | some n=>if n < Vbcnam.latest (pAt w p) then Vbcnam.gives w p n else w
def lower1 (l:List (Nat × Nat)) (w:VW) (p:Nat):VW:=if (pAt w p).on=false then w else lower0 l w p
theorem lowers_fold (l:List (Nat × Nat)):∀ (ps:List Nat) (w:VW),Vbcnam.lowers l ps w=ps.foldl (lower1 l) w
  | [],_=>rfl
  | p::ps,w=>by
    rw [List.foldl_cons,← lowers_fold l ps]
    rfl
def room1 (w:VW) (p n:Nat):Prop:=Vbcnam.allReserved w - Vbcnam.reserved (pAt w p) + max (Vbcnam.reserved (pAt w p)) n≤Vbcnam.may w
instance (w:VW) (p n:Nat):Decidable (room1 w p n):=inferInstanceAs (Decidable (_≤_))
def raise0 (w:VW) (p n:Nat):VW :=
  if Vbcnam.latest (pAt w p) < n∧room1 w p n then Vbcnam.gives w p n
  else if 1 < (pAt w p).grants.length then Vbcnam.put w (Vbcnam.tellsGrant p (pAt w p)) else w
def raise1 (w:VW) (x:Nat × Nat):VW:=match (pAt w x.1).device with
  | none=>w
  | some d=>if (pAt w x.1).on=false then (if Vbcnam.allReserved w + Vbcnam.base d.cls≤Vbcnam.may w then setP w x.1 (Vbcnam.lit (pAt w x.1) d) else w) else raise0 w x.1 x.2
theorem raises_fold (l:List (Nat × Nat)):∀ (r:List (Nat × Nat)) (w:VW),Vbcnam.raises l r w=r.foldl raise1 w
  | [],_=>rfl
  | (p,n)::r,w=>by
    rw [List.foldl_cons,← raises_fold l r]
    rfl
theorem Ok.lower1 {w:VW} {l:List (Nat × Nat)} {p:Nat} (O:Ok w) (hi:p < w.ports.length):Ok (WP.lower1 l w p)∧Kp w (WP.lower1 l w p):=by
  unfold WP.lower1 lower0
  split
  · exact ⟨O,Kp.refl w⟩
  · split
    · exact ⟨O.cut hi,Kp.cut hi⟩
    · split
      · exact ⟨O.gives hi,Kp.gives hi⟩
      · exact ⟨O,Kp.refl w⟩
theorem Ok.raise0 {w:VW} {p n:Nat} (O:Ok w) (hi:p < w.ports.length):Ok (WP.raise0 w p n)∧Kp w (WP.raise0 w p n):=by
  unfold WP.raise0
  split
  · exact ⟨O.gives hi,Kp.gives hi⟩
  · split
    · exact ⟨O.put,Kp.put⟩
    · exact ⟨O,Kp.refl w⟩
theorem Ok.raise1 {w:VW} {x:Nat × Nat} (O:Ok w) (hi:x.1 < w.ports.length):Ok (WP.raise1 w x)∧Kp w (WP.raise1 w x):=by
  unfold WP.raise1
  split
  · exact ⟨O,Kp.refl w⟩
  · rename_i d hd
    split
    · split
      · exact ⟨O.lit hi hd,Kp.set hi (by rw [hd]; rfl)⟩
      · exact ⟨O,Kp.refl w⟩
    · exact O.raise0 hi
theorem mem_sum:∀ {l:List Nat} {x:Nat},x ∈ l→x≤Vbcnam.sum l
  | y::l,x,h=>by
    rw [WO.sum_cons]
    rcases List.mem_cons.mp h with rfl | h
    · omega
    · have:=mem_sum h; omega
theorem reserved_le {w:VW} {i:Nat} (hi:i < w.ports.length):Vbcnam.reserved (pAt w i)≤Vbcnam.allReserved w :=
  mem_sum (List.mem_map.mpr ⟨_,List.mem_of_getElem? (pAt_get hi),rfl⟩)
section
variable {P:Program} {w₀:PySem.World} {K:PySem.W.Frag} {mg:Str→Option Value} {base:Heap} {t:Cas} {f:Addr} {fd:FuncData}
def sp_lower_port (t:Cas):Sp:=fun vs H Q _=>∃ (A:Rl→Addr) (w:VW) (E:Hp) (i:Nat) (d:Addr) (l:List (Nat × Nat)),vs=[.ref (A .wd),.ref (A (.po i)),.ref d]∧Rep t A H w E∧Ok w∧i < w.ports.length∧(pAt w i).grants≠[]∧E d=some (.dK (planKV l)) ∧
  ∀ H',Rep t A H' (lower0 l w i) E→Q .non H'
theorem ok_lower_port (T:Txt K mg t) (F:Fun K "lower_port" "lower_port" s_lower_port f fd) (F_cut:Known P w₀ K mg base "cut" 2 ["port"] (spM t (fun _=>True) Vbcnam.cut))
    (F_latest_amount:Known P w₀ K mg base "latest_amount" 1 ["port"] (spP t (fun x=>x.grants≠[]) fun x=>.int (Vbcnam.latest x)))
    (F_give:Known P w₀ K mg base "give" 4 ["world","port","amount"] (sp_give t)) :
    FnOk P w₀ K mg base CX0 5 f fd ["world","port","planned"] (sp_lower_port t):=by
  refine F.ok sc_lower_port (fun vs H Q E h=>?_) (fun cdv A outer s H vs Q E hr h=>?_)
  · obtain ⟨_,_,_,_,_,_,rfl,_⟩:=h; rfl
  · obtain ⟨A,w,E,i,d,l,rfl,R,O,hi,hne,hd,k⟩:=h
    have nd:=sc_lower_port.nd
    have hu:=hu_of hr
    refine ⟨_,(pss_one (ps_if (pt_cmp (pc_dnotin hu (pe_fl (K:=K) (pv 1)) (pv 2))) (pss_one (ps_expr (pe_f F_cut (hr.mono (by decide)) (pa_cons (pv 1) pa_nil)))) (pss_one (ps_if (pt_cmpR op_gt (pe_f F_latest_amount (hr.mono (by decide)) (pa_cons (pv 1) pa_nil)) (pe_dget hu (pv 2) (pe_fl (K:=K) (pv 1)) (fun _ _=>rfl)) (nomark _)) (pss_one (ps_expr (pe_f F_give (hr.mono (by decide)) (pa_cons (pv 0) (pa_cons (pv 1) (pa_cons (pe_dget hu (pv 2) (pe_fl (K:=K) (pv 1)) (fun _ _=>rfl)) pa_nil)))))) pss_nil)))),?_⟩
    obtain ⟨dx,g,dv,hp⟩:=R.prt hi
    have hdH:=R.sub hd
    have ev:=planKV_val l i
    refine ⟨_,rfl,r_port_place T hp ⟨_,rfl,d,_,rfl,DGet.k (k:=Sum.inl (i:Int)) hdH,_,rfl,?_⟩⟩
    unfold lower0 at k
    cases hpl:Vbcnam.planned l i with
    | none =>
      rw [hpl] at ev k
      refine ite2 (fun _=>?_) (fun h=>absurd (by rw [ev]; rfl) h)
      exact ⟨_,rfl,A,w,E,i,rfl,R,O,hi,trivial,k⟩
    | some n =>
      rw [hpl] at ev k
      have ev:valV (planKV l) (Sum.inl (i:Int))=some (.int n):=ev
      refine ite2 (fun h=>absurd h (by rw [ev]; simp)) (fun _=>?_)
      refine ⟨_,rfl,A,w,E,i,rfl,R,O,hi,hne,fun H1 R1=>?_⟩
      obtain ⟨dx1,g1,dv1,hp1⟩:=R1.prt hi
      have hdH1:=R1.sub hd
      have dg:DGet H1 d (.int i) (some (.int n)):=by
        have z:=DGet.k (k:=Sum.inl (i:Int)) hdH1
        rw [ev] at z
        exact z
      refine ⟨_,rfl,_,rfl,r_port_place T hp1 ⟨d,_,rfl,dg,_,_,rfl,rfl,_,rfl,?_⟩⟩
      have k:∀ H',Rep t A H' (if n < Vbcnam.latest (pAt w i) then Vbcnam.gives w i n else w) E→Q .non H':=k
      by_cases hlt:n < Vbcnam.latest (pAt w i)
      · rw [if_pos hlt] at k
        refine ite2 (fun _=>?_) (fun h=>absurd (decide_eq_true (by omega)) h)
        exact ⟨_,rfl,_,rfl,_,rfl,_,rfl,r_port_place T hp1 ⟨d,_,rfl,dg,A,w,E,i,n,rfl,R1,O,hi,hne,k⟩⟩
      · rw [if_neg hlt] at k
        refine ite2 (fun h=>absurd (of_decide_eq_true h) (by omega)) (fun _=>?_)
        exact k H1 R1
theorem ok_has_room_to_light (T:Txt K mg t) (F:Fun K "has_room_to_light" "has_room_to_light" s_has_room_to_light f fd) (F_all_reserved:Known P w₀ K mg base "all_reserved" 2 ["world"] (spW t fun w=>.int (Vbcnam.allReserved w)))
    (F_base_of:Known P w₀ K mg base "base_of" 1 ["device"] (sp_base_of t)) (F_may_give:Known P w₀ K mg base "may_give" 3 ["world"] (spW t fun w=>.int (Vbcnam.may w))) :
    FnOk P w₀ K mg base CX0 4 f fd ["world","port"] (fun vs H Q _=>∃ (A:Rl→Addr) (w:VW) (E:Hp) (i:Nat) (y:VD),vs=[.ref (A .wd),.ref (A (.po i))]∧Rep t A H w E∧Ok w∧i < w.ports.length∧(pAt w i).device=some y ∧
      ∀ H',Rep t A H' w E→Q (.bl (decide (Vbcnam.allReserved w + Vbcnam.base y.cls≤Vbcnam.may w))) H'):=by
  refine F.ok sc_has_room_to_light (fun vs H Q E h=>?_) (fun cdv A outer s H vs Q E hr h=>?_)
  · obtain ⟨_,_,_,_,_,rfl,_⟩:=h; rfl
  · obtain ⟨A,w,E,i,y,rfl,R,O,hi,hy,k⟩:=h
    have nd:=sc_has_room_to_light.nd
    refine ⟨_,(pss_one (ps_ret (pe_cmpR op_le (pe_op op_add (pe_f F_all_reserved (hr.mono (by decide)) (pa_cons (pv 0) pa_nil)) (pe_f F_base_of (hr.mono (by decide)) (pa_cons (pe_fl (K:=K) (pv 1)) pa_nil))) (pe_f F_may_give (hr.mono (by decide)) (pa_cons (pv 0) pa_nil)) (nomark _)))),?_⟩
    refine ⟨_,rfl,A,w,E,rfl,R,O,fun H1 R1=>?_⟩
    obtain ⟨dx,g,dv,dd,hp,hd⟩:=R1.pd hi hy
    refine ⟨_,rfl,r_port_device T hp ⟨_,dd,y,rfl,hd,O.cls i hi y hy,_,_,rfl,rfl,_,rfl,A,w,E,rfl,R1,O,fun H2 R2=>⟨_,_,rfl,rfl,?_⟩⟩⟩
    have e:decide ((Vbcnam.allReserved w:Int) + (Vbcnam.base y.cls:Int)≤(Vbcnam.may w:Int))=decide (Vbcnam.allReserved w + Vbcnam.base y.cls≤Vbcnam.may w):=decide_eq_decide.mpr (by omega)
    have z:=k H2 R2
    rw [← e] at z
    exact z
theorem ok_has_room_for (T:Txt K mg t) (F:Fun K "has_room_for" "has_room_for" s_has_room_for f fd) (F_all_reserved:Known P w₀ K mg base "all_reserved" 2 ["world"] (spW t fun w=>.int (Vbcnam.allReserved w)))
    (F_reserved_at:Known P w₀ K mg base "reserved_at" 1 ["port"] (spP t (fun _=>True) fun x=>.int (Vbcnam.reserved x))) (F_may_give:Known P w₀ K mg base "may_give" 3 ["world"] (spW t fun w=>.int (Vbcnam.may w))) :
    FnOk P w₀ K mg base CX0 4 f fd ["world","port","amount"] (fun vs H Q _=>∃ (A:Rl→Addr) (w:VW) (E:Hp) (i n:Nat),vs=[.ref (A .wd),.ref (A (.po i)),.int n]∧Rep t A H w E∧Ok w∧i < w.ports.length ∧
      ∀ H',Rep t A H' w E→Q (.bl (decide (room1 w i n))) H'):=by
  refine F.ok sc_has_room_for (fun vs H Q E h=>?_) (fun cdv A outer s H vs Q E hr h=>?_)
  · obtain ⟨_,_,_,_,_,rfl,_⟩:=h; rfl
  · obtain ⟨A,w,E,i,n,rfl,R,O,hi,k⟩:=h
    have nd:=sc_has_room_for.nd
    refine ⟨_,(pss_cons (ps_set (i:=3) nd rfl (Or.inl rfl) (pe_op op_sub (pe_f F_all_reserved (hr.mono (by decide)) (pa_cons (pv 0) pa_nil)) (pe_f F_reserved_at (hr.mono (by decide)) (pa_cons (pv 1) pa_nil)))) (pss_one (ps_ret (pe_cmpR op_le (pe_op op_add (pv 3) (pe_callB (call_max2 rfl) (by rfl) T.b_max boot_max (pa_cons (pe_f F_reserved_at (hr.mono (by decide)) (pa_cons (pv 1) pa_nil)) (pa_cons (pv 2) pa_nil)))) (pe_f F_may_give (hr.mono (by decide)) (pa_cons (pv 0) pa_nil)) (nomark _))))),?_⟩
    refine ⟨_,rfl,A,w,E,rfl,R,O,fun H1 R1=>⟨_,rfl,A,w,E,i,rfl,R1,O,hi,trivial,fun H2 R2=>⟨_,_,rfl,rfl,?_⟩⟩⟩
    refine ⟨_,rfl,_,rfl,A,w,E,i,rfl,R2,O,hi,trivial,fun H3 R3=>⟨_,rfl,_,_,rfl,_,_,rfl,rfl,_,rfl,A,w,E,rfl,R3,O,fun H4 R4=>⟨_,_,rfl,rfl,?_⟩⟩⟩
    have z:=k H4 R4
    have le:=reserved_le hi
    have e:decide ((Vbcnam.allReserved w:Int) - (Vbcnam.reserved (pAt w i):Int) + (if (n:Int) > (Vbcnam.reserved (pAt w i):Int) then (n:Int) else (Vbcnam.reserved (pAt w i):Int))≤(Vbcnam.may w:Int))=decide (room1 w i n):=by
      refine decide_eq_decide.mpr ?_
      unfold room1
      split <;> omega
    rw [← e] at z
    exact z
def sp_raise_port (t:Cas):Sp:=fun vs H Q _=>∃ (A:Rl→Addr) (w:VW) (E:Hp) (i n:Nat),vs=[.ref (A .wd),.ref (A (.po i)),.int n]∧Rep t A H w E∧Ok w∧i < w.ports.length∧(pAt w i).grants≠[] ∧
  ∀ H',Rep t A H' (raise0 w i n) E→Q .non H'
theorem ok_raise_port (T:Txt K mg t) (F:Fun K "raise_port" "raise_port" s_raise_port f fd)
    (F_latest_amount:Known P w₀ K mg base "latest_amount" 1 ["port"] (spP t (fun x=>x.grants≠[]) fun x=>.int (Vbcnam.latest x)))
    (F_has_room_for:Known P w₀ K mg base "has_room_for" 4 ["world","port","amount"] (fun vs H Q _=>∃ (A:Rl→Addr) (w:VW) (E:Hp) (i n:Nat),vs=[.ref (A .wd),.ref (A (.po i)),.int n]∧Rep t A H w E∧Ok w∧i < w.ports.length ∧
      ∀ H',Rep t A H' w E→Q (.bl (decide (room1 w i n))) H'))
    (F_give:Known P w₀ K mg base "give" 4 ["world","port","amount"] (sp_give t)) (F_tell:Known P w₀ K mg base "tell" 3 ["world","port"] (sp_tell t)) :
    FnOk P w₀ K mg base CX0 5 f fd ["world","port","amount"] (sp_raise_port t):=by
  refine F.ok sc_raise_port (fun vs H Q E h=>?_) (fun cdv A outer s H vs Q E hr h=>?_)
  · obtain ⟨_,_,_,_,_,rfl,_⟩:=h; rfl
  · obtain ⟨A,w,E,i,n,rfl,R,O,hi,hne,k⟩:=h
    have nd:=sc_raise_port.nd
    have hu:=hu_of hr
    refine ⟨_,(pss_one (ps_if (PW.pt (pw_and (pt_cmpR op_lt (pe_f F_latest_amount (hr.mono (by decide)) (pa_cons (pv 1) pa_nil)) (pv 2) (nomark _)) (pw_and1 (pt_val (pe_f F_has_room_for (hr.mono (by decide)) (pa_cons (pv 0) (pa_cons (pv 1) (pa_cons (pv 2) pa_nil)))))))) (pss_one (ps_expr (pe_f F_give (hr.mono (by decide)) (pa_cons (pv 0) (pa_cons (pv 1) (pa_cons (pv 2) pa_nil)))))) (pss_one (ps_if (pt_cmpR op_ge (pe_callB (call_lenK (K:=K)) (by rfl) T.b_len PySem.boot_len (pa_cons (pe_fl (K:=K) (pv 1)) pa_nil)) pe_int (nomark _)) (pss_one (ps_expr (pe_f F_tell (hr.mono (by decide)) (pa_cons (pv 0) (pa_cons (pv 1) pa_nil))))) pss_nil)))),?_⟩
    have other:∀ H1,Rep t A H1 w E→¬ (Vbcnam.latest (pAt w i) < n∧room1 w i n)→tIfS (tTest (tOp (rI0 fun i j=>V.bl (decide (j≤i))) (tCB (fun xs H Q=>∃ p ys,xs=[V.ref p]∧(SqL K H p ys∨SqT K H p ys)∧Q (V.int ys.length) H) (tCons (tFld K (tVar 1) "grants") tNil)) (tC (.int 2)))) (tDrop (tF (sp_tell t) (tCons (tVar 0) (tCons (tVar 1) tNil)))) tNext { nx:=fun _ H'=>Q .non H',rt:=Q } [some (.ref (A .wd)),some (.ref (A (.po i))),some (.int n)] H1:=fun H1 R1 hno=>by
      obtain ⟨G,gs,ms,hA,RX⟩:=id R1
      have hp:=RX.prt hi
      rw [hA (.po i) rfl] at hp
      refine ⟨_,rfl,r_port_grants T hp ⟨_,_,rfl,.inl (SqL.of (RX.at_ (.gr i) hi)),_,_,rfl,rfl,_,rfl,?_⟩⟩
      have el:(refs (gs i)).length=(pAt w i).grants.length:=by unfold refs; rw [List.length_map,RX.glen hi]
      unfold raise0 at k
      rw [if_neg hno] at k
      by_cases h2:1 < (pAt w i).grants.length
      · rw [if_pos h2] at k
        refine ite2 (fun _=>?_) (fun h=>absurd (decide_eq_true (by rw [el]; omega)) h)
        exact ⟨_,rfl,_,rfl,A,w,E,i,rfl,R1,O,hi,hne,k⟩
      · rw [if_neg h2] at k
        refine ite2 (fun h=>absurd (of_decide_eq_true h) (by rw [el]; omega)) (fun _=>?_)
        exact k H1 R1
    refine ⟨_,rfl,A,w,E,i,rfl,R,O,hi,hne,fun H1 R1=>⟨_,rfl,_,_,rfl,rfl,_,rfl,?_⟩⟩
    by_cases hlt:Vbcnam.latest (pAt w i) < n
    · refine ite2 (fun _=>?_) (fun h=>absurd (decide_eq_true (by omega)) h)
      refine ⟨_,rfl,_,rfl,_,rfl,A,w,E,i,n,rfl,R1,O,hi,fun H2 R2=>⟨_,rfl,?_⟩⟩
      by_cases hro:room1 w i n
      · refine ite2 (fun _=>?_) (fun h=>absurd (decide_eq_true hro) h)
        unfold raise0 at k
        rw [if_pos ⟨hlt,hro⟩] at k
        exact ⟨_,rfl,_,rfl,_,rfl,A,w,E,i,n,rfl,R2,O,hi,hne,k⟩
      · refine ite2 (fun h=>absurd (of_decide_eq_true h) hro) (fun _=>?_)
        exact other H2 R2 fun z=>hro z.2
    · refine ite2 (fun h=>absurd (of_decide_eq_true h) (by omega)) (fun _=>ite2 (fun h=>absurd h (by decide)) (fun _=>?_))
      exact other H1 R1 fun z=>hlt z.1
end
theorem for_keys {d:Addr} {o:Obj} {kvs:List (Key × V)} {g:TG} {tb:TS} {D:Ends} {σ:L2.St} {H:Hp} (Pv:Nat→L2.St→Hp→Prop) (h0:Pv 0 σ H) (hl:∀ i σ H,i≤kvs.length→Pv i σ H→H d=some (.frz o (.dK kvs)))
    (hs:∀ i k v σ H,kvs[i]?=some (k,v)→Pv i σ H→g (kV k) σ H fun σ2 H2=>tb { D with nx:=Pv (i + 1),ct:=Pv (i + 1),bk:=D.nx } σ2 H2) (hd:∀ σ H,Pv kvs.length σ H→D.nx σ H) :
    ∃ W:Nat→Nat→L2.St→Hp→Prop,(∃ m,W 0 m σ H)∧∀ i m σ H,W i m σ H →
      ((Itk d o kvs).stop i H∧D.nx σ H)∨((Itk d o kvs).go i H∧∃ N:L2.St→Hp→Prop,(∀ σ' H',N σ' H'→∃ m',m' < m∧W (i + 1) m' σ' H')∧∀ x H',(Itk d o kvs).yld i H x H'→g x σ H' fun σ2 H2=>tb { D with nx:=N,ct:=N,bk:=D.nx } σ2 H2):=by
  refine ⟨fun i m σ H=>m=kvs.length - i∧i≤kvs.length∧Pv i σ H,⟨kvs.length,by simp,Nat.zero_le _,h0⟩,?_⟩
  rintro i m σ H ⟨rfl,hi,p⟩
  have q:=hl i σ H hi p
  by_cases hlt:i < kvs.length
  · refine .inr ⟨⟨q,hlt⟩,Pv (i + 1),fun σ' H' p'=>⟨kvs.length - (i + 1),by omega,rfl,hlt,p'⟩,fun x H' y=>?_⟩
    obtain ⟨e,k,v,hk,ex⟩:=y
    subst e ex
    exact hs i k v σ _ hk p
  · have e:i=kvs.length:=by omega
    subst e
    exact .inl ⟨⟨q,Nat.le_refl _⟩,hd σ H p⟩
theorem foldl_take {α β:Type} {g:β→α→β} {l:List α} {j:Nat} {x:α} {b:β} (h:l[j]?=some x):(l.take (j + 1)).foldl g b=g ((l.take j).foldl g b) x:=by
  rw [take_snoc h,List.foldl_append]
  rfl
section
variable {P:Program} {w₀:PySem.World} {K:PySem.W.Frag} {mg:Str→Option Value} {base:Heap} {t:Cas} {f:Addr} {fd:FuncData}
abbrev spLight (t:Cas):Sp:=fun vs H Q _=>∃ (A:Rl→Addr) (w:VW) (E:Hp) (i:Nat) (y:VD),vs=[.ref (A .wd),.ref (A (.po i))]∧Rep t A H w E∧Ok w∧i < w.ports.length∧(pAt w i).device=some y ∧
      ∀ H',Rep t A H' w E→Q (.bl (decide (Vbcnam.allReserved w + Vbcnam.base y.cls≤Vbcnam.may w))) H'
def sp_settle_ports (t:Cas):Sp:=fun vs H Q _=>∃ (A:Rl→Addr) (w:VW) (E:Hp),vs=[.ref (A .wd)]∧Rep t A H w E∧Ok w∧∀ H',Rep t A H' (Vbcnam.settle w) E→Ok (Vbcnam.settle w)→Q .non H'
theorem ok_settle_ports (T:Txt K mg t) (F:Fun K "settle_ports" "settle_ports" s_settle_ports f fd) (F_make_plan:Known P w₀ K mg base "make_plan" 5 ["world"] (sp_make_plan t))
    (F_order_of_ports:Known P w₀ K mg base "order_of_ports" 4 ["world"] (sp_order t)) (F_lower_port:Known P w₀ K mg base "lower_port" 5 ["world","port","planned"] (sp_lower_port t))
    (F_raise_port:Known P w₀ K mg base "raise_port" 5 ["world","port","amount"] (sp_raise_port t)) (F_has_room_to_light:Known P w₀ K mg base "has_room_to_light" 4 ["world","port"] (spLight t))
    (F_light:Known P w₀ K mg base "light" 2 ["port"] (spM t (fun x=>x.device.isSome=true) fun x=>Vbcnam.lit x (dOf x))) :
    FnOk P w₀ K mg base CX0 6 f fd ["world"] (sp_settle_ports t):=by
  refine F.ok sc_settle_ports (fun vs H Q E h=>?_) (fun cdv A outer s H vs Q E hr h=>?_)
  · obtain ⟨_,_,_,rfl,_⟩:=h; rfl
  · obtain ⟨A,w,E,rfl,R,O,k⟩:=h
    have nd:=sc_settle_ports.nd
    have hu:=hu_of hr
    refine ⟨_,(pss_cons (ps_set (i:=1) nd rfl (Or.inl rfl) (pe_f F_make_plan (hr.mono (by decide)) (pa_cons (pv 0) pa_nil))) (pss_cons (ps_for PassesOwn.never rfl (pi_listK (K:=K) (pe_f F_order_of_ports (hr.mono (by decide)) (pa_cons (pv 0) pa_nil))) (pg_name (i:=2) nd rfl (Or.inl rfl)) (pss_one (ps_if (pt_cmpR op_eq (pe_fl (K:=K) (pv 2)) pe_int (nomark _)) (pss_one (ps_expr (pe_f F_lower_port (hr.mono (by decide)) (pa_cons (pv 0) (pa_cons (pv 2) (pa_cons (pv 1) pa_nil)))))) pss_nil))) (pss_one (ps_lock (ps_for PassesOwn.never rfl (pi_keys (pv 1)) (pg_name (i:=3) nd rfl (Or.inl rfl)) (pss_cons (ps_set (i:=2) nd rfl (Or.inl rfl) (pe_ix (ix_listK (K:=K)) (pe_fl (K:=K) (pv 0)) (pv 3) (fun _ _=>rfl))) (pss_one (ps_if (pt_cmpR op_eq (pe_fl (K:=K) (pv 2)) pe_int (nomark _)) (pss_one (ps_expr (pe_f F_raise_port (hr.mono (by decide)) (pa_cons (pv 0) (pa_cons (pv 2) (pa_cons (pe_dget hu (pv 1) (pv 3) (fun _ _=>rfl)) pa_nil)))))) (pss_one (ps_if (pt_val (pe_f F_has_room_to_light (hr.mono (by decide)) (pa_cons (pv 0) (pa_cons (pv 2) pa_nil)))) (pss_one (ps_expr (pe_f F_light (hr.mono (by decide)) (pa_cons (pv 2) pa_nil)))) pss_nil)))))))))),?_⟩
    refine ⟨_,rfl,A,w,E,rfl,R,O,fun H1 d hd R1=>?_⟩
    refine ⟨_,rfl,A,w,_,rfl,R1,O,fun H2 D hD R2=>⟨D,rfl,⟨_,SqL.of (R2.beside upd_same)⟩,?_⟩⟩
    have nDd:D≠d:=fun z=>by rw [z,upd_same] at hD; cases hD
    have ED:E D=none:=by rw [upd_ne nDd] at hD; exact hD
    refine for_list (K:=K) (a:=D) (xs:=refs (ordA A w)) (fun j σ H'=>∃ v:Option V,σ=[some (.ref (A .wd)),some (.ref d),v,none]∧Rep t A H' (((Vbcnam.order w).take j).foldl (lower1 (Vbcnam.plan w)) w) (E2 E d (planKV (Vbcnam.plan w)) D (refs (ordA A w))) ∧
        Ok (((Vbcnam.order w).take j).foldl (lower1 (Vbcnam.plan w)) w)∧Kp w (((Vbcnam.order w).take j).foldl (lower1 (Vbcnam.plan w)) w))
      ⟨none,rfl,R2,O,Kp.refl w⟩ (fun j σ H' _ ⟨_,_,R',_⟩=>SqL.of (R'.beside upd_same)) ?_ ?_
    · rintro j x σ H' hx ⟨v,rfl,R',O',K'⟩
      obtain ⟨a,ha,rfl⟩:=refs_at hx
      obtain ⟨p,hp,rfl⟩:=ord_at ha
      have hpn:=(WO.order_mem w p).mp (List.mem_of_getElem? hp)
      rw [foldl_take hp]
      generalize ((Vbcnam.order w).take j).foldl (lower1 (Vbcnam.plan w)) w=w1 at R' O' K'
      have hp1:p < w1.ports.length:=by rw [K'.1]; exact hpn
      obtain ⟨O1,K1⟩:=O'.lower1 (l:=Vbcnam.plan w) hp1
      obtain ⟨dx,g,dv,hpo⟩:=R'.prt hp1
      have hdE:E2 E d (planKV (Vbcnam.plan w)) D (refs (ordA A w)) d=some (.dK (planKV (Vbcnam.plan w))):=by show upd _ D _ d=_; rw [upd_ne (Ne.symm nDd),upd_same]
      refine ⟨_,rfl,r_port_on T hpo ⟨rfl,_,rfl,?_⟩⟩
      cases ho:(pAt w1 p).on with
      | false =>
        refine ite2 (fun h=>absurd h (by decide)) (fun _=>?_)
        have e:lower1 (Vbcnam.plan w) w1 p=w1:=by unfold lower1; rw [if_pos ho]
        rw [e] at O1 K1 ⊢
        exact ⟨_,rfl,R',O',K'⟩
      | true =>
        refine ite2 (fun _=>?_) (fun h=>absurd rfl h)
        have e:lower1 (Vbcnam.plan w) w1 p=lower0 (Vbcnam.plan w) w1 p:=by unfold lower1; rw [if_neg (by rw [ho]; decide)]
        rw [e] at O1 K1 ⊢
        exact ⟨_,rfl,_,rfl,_,rfl,A,w1,_,p,d,Vbcnam.plan w,rfl,R',O',hp1,(O'.on p hp1 ho).1,hdE,fun H4 R4=>⟨_,rfl,R4,O1,K'.trans K1⟩⟩
    · rintro σ H' ⟨v,rfl,R',O',K'⟩
      have e0:(Vbcnam.order w).take (refs (ordA A w)).length=Vbcnam.order w:=by
        unfold refs ordA
        rw [List.length_map,List.length_map,List.take_length]
      rw [e0,← lowers_fold] at R' O' K'
      have es:Vbcnam.settle w=(Vbcnam.plan w).foldl raise1 (Vbcnam.lowers (Vbcnam.plan w) (Vbcnam.order w) w):=by rw [← raises_fold (Vbcnam.plan w)]; rfl
      rw [es] at k
      generalize Vbcnam.lowers (Vbcnam.plan w) (Vbcnam.order w) w=w1 at R' O' K' k
      have hdE:E2 E d (planKV (Vbcnam.plan w)) D (refs (ordA A w)) d=some (.dK (planKV (Vbcnam.plan w))):=by show upd _ D _ d=_; rw [upd_ne (Ne.symm nDd),upd_same]
      refine ⟨d,.dK (planKV (Vbcnam.plan w)),R'.sub hdE,trivial,fun od=>?_⟩
      have R3:=R'.extw (o:=.frz od (.dK (planKV (Vbcnam.plan w)))) hdE trivial
      refine ⟨_,rfl,d,od,rfl,.inl ⟨_,upd_same,?_⟩⟩
      refine for_keys (d:=d) (o:=od) (kvs:=planKV (Vbcnam.plan w)) (fun j σ H'=>∃ v2 v3:Option V,σ=[some (.ref (A .wd)),some (.ref d),v2,v3]∧Rep t A H' (((Vbcnam.plan w).take j).foldl raise1 w1) (upd (E2 E d (planKV (Vbcnam.plan w)) D (refs (ordA A w))) d (.frz od (.dK (planKV (Vbcnam.plan w))))) ∧
          Ok (((Vbcnam.plan w).take j).foldl raise1 w1)∧Kp w (((Vbcnam.plan w).take j).foldl raise1 w1))
        ⟨v,none,rfl,R3,O',K'⟩ (fun j σ H' _ ⟨_,_,_,R',_⟩=>R'.sub upd_same) ?_ ?_
      · rintro j kk vv σ H5 hk ⟨v2,v3,rfl,R5,O5,K5⟩
        obtain ⟨⟨p,n⟩,hp,rfl,rfl⟩:∃ q:Nat × Nat,(Vbcnam.plan w)[j]?=some q∧kk=Sum.inl (q.1:Int)∧vv=V.int (q.2:Nat):=by
          unfold planKV at hk
          rw [List.getElem?_map] at hk
          cases e:(Vbcnam.plan w)[j]? with
          | none=>rw [e] at hk; cases hk
          | some q =>
            rw [e] at hk
            have hk:=Option.some.inj hk
            exact ⟨q,rfl,(congrArg Prod.fst hk).symm,(congrArg Prod.snd hk).symm⟩
        have hm:=List.mem_of_getElem? hp
        obtain ⟨hpn,y0,hf⟩:=WO.plan_mem hm
        have hpn:p < w.ports.length:=hpn
        rw [foldl_take hp]
        generalize ((Vbcnam.plan w).take j).foldl raise1 w1=w5 at R5 O5 K5
        have hp5:p < w5.ports.length:=by rw [K5.1]; exact hpn
        have hs5:(pAt w5 p).device.isSome=true:=by rw [K5.2 p hpn,fit_dev (x:=pAt w p) hf]; rfl
        obtain ⟨y,hy⟩:=Option.isSome_iff_exists.mp hs5
        obtain ⟨O6,K6⟩:=O5.raise1 (x:=(p,n)) hp5
        obtain ⟨dxw,hw⟩:=R5.wld
        refine ⟨_,rfl,r_world_ports T hw ⟨_,rfl,_,_,_,_,rfl,rfl,SqL.of R5.pls,at_port hp5,?_⟩⟩
        obtain ⟨dx,g,dv,hpo⟩:=R5.prt hp5
        refine ⟨_,rfl,r_port_on T hpo ⟨rfl,_,rfl,?_⟩⟩
        cases ho:(pAt w5 p).on with
        | true =>
          refine ite2 (fun _=>?_) (fun h=>absurd rfl h)
          have e:raise1 w5 (p,n)=raise0 w5 p n:=by
            unfold raise1
            show (match (pAt w5 p).device with | none=>w5 | some d=>if (pAt w5 p).on=false then _ else raise0 w5 p n)=_
            rw [hy]
            exact if_neg (by rw [ho]; decide)
          rw [e] at O6 K6 ⊢
          have dg:DGet H5 d (.int p) (some (.int n)):=by
            refine .inl ⟨planKV (Vbcnam.plan w),Sum.inl (p:Int),.inr ⟨od,R5.sub upd_same⟩,rfl,?_⟩
            rw [planKV_val,planned_some (WO.plan_nodup w) hm]
            rfl
          exact ⟨_,rfl,_,rfl,_,rfl,_,rfl,d,_,rfl,dg,A,w5,_,p,n,rfl,R5,O5,hp5,(O5.on p hp5 ho).1,fun H6 R6=>⟨_,_,rfl,R6,O6,K5.trans K6⟩⟩
        | false =>
          refine ite2 (fun h=>absurd h (by decide)) (fun _=>?_)
          have e:raise1 w5 (p,n)=if Vbcnam.allReserved w5 + Vbcnam.base y.cls≤Vbcnam.may w5 then setP w5 p (Vbcnam.lit (pAt w5 p) y) else w5:=by
            unfold raise1
            show (match (pAt w5 p).device with | none=>w5 | some d=>if (pAt w5 p).on=false then (if Vbcnam.allReserved w5 + Vbcnam.base d.cls≤Vbcnam.may w5 then setP w5 p (Vbcnam.lit (pAt w5 p) d) else w5) else raise0 w5 p n)=_
            rw [hy]
            exact if_pos ho
          rw [e] at O6 K6 ⊢
          refine ⟨_,rfl,_,rfl,A,w5,_,p,y,rfl,R5,O5,hp5,hy,fun H6 R6=>⟨_,rfl,?_⟩⟩
          by_cases hro:Vbcnam.allReserved w5 + Vbcnam.base y.cls≤Vbcnam.may w5
          · rw [if_pos hro] at O6 K6 ⊢
            refine ite2 (fun _=>?_) (fun h=>absurd (decide_eq_true hro) h)
            refine ⟨_,rfl,A,w5,_,p,rfl,R6,O5,hp5,hs5,fun H7 R7=>⟨_,_,rfl,?_,O6,K5.trans K6⟩⟩
            have R7:Rep t A H7 (setP w5 p (Vbcnam.lit (pAt w5 p) (dOf (pAt w5 p)))) _:=R7
            rw [dOf_some hy] at R7
            exact R7
          · rw [if_neg hro] at O6 K6 ⊢
            refine ite2 (fun h=>absurd (of_decide_eq_true h) hro) (fun _=>?_)
            exact ⟨_,_,rfl,R6,O5,K5⟩
      · rintro σ H5 ⟨v2,v3,rfl,R5,O5,K5⟩
        have e1:(Vbcnam.plan w).take (planKV (Vbcnam.plan w)).length=Vbcnam.plan w:=by unfold planKV; rw [List.length_map,List.take_length]
        rw [e1] at R5 O5 K5
        refine ⟨R5.sub upd_same,?_⟩
        have R6:=R5.extw (o:=.dK (planKV (Vbcnam.plan w))) upd_same trivial
        refine k _ (R6.less fun c o e=>?_) O5
        have c1:c≠d:=fun z=>by rw [z,hd] at e; cases e
        have c2:c≠D:=fun z=>by rw [z,ED] at e; cases e
        rw [upd_ne c1,upd_ne c1]
        unfold E2
        rw [upd_ne c2,upd_ne c1]
        exact e
end
theorem for_rev {K:PySem.W.Frag} {a:Addr} {xs:List V} {g:TG} {tb:TS} {D:Ends} {σ:L2.St} {H:Hp} (Pv:Nat→L2.St→Hp→Prop) (h0:Pv 0 σ H) (hl:∀ i σ H,i≤xs.length→Pv i σ H→SqL K H a xs)
    (hs:∀ i x σ H,xs.reverse[i]?=some x→Pv i σ H→g x σ H fun σ2 H2=>tb { D with nx:=Pv (i + 1),ct:=Pv (i + 1),bk:=D.nx } σ2 H2) (hd:∀ σ H,Pv xs.length σ H→D.nx σ H) :
    ∃ W:Nat→Nat→L2.St→Hp→Prop,(∃ m,W 0 m σ H)∧∀ i m σ H,W i m σ H →
      ((Itv K a xs.length).stop i H∧D.nx σ H)∨((Itv K a xs.length).go i H∧∃ N:L2.St→Hp→Prop,(∀ σ' H',N σ' H'→∃ m',m' < m∧W (i + 1) m' σ' H')∧∀ x H',(Itv K a xs.length).yld i H x H'→g x σ H' fun σ2 H2=>tb { D with nx:=N,ct:=N,bk:=D.nx } σ2 H2):=by
  refine ⟨fun i m σ H=>m=xs.length - i∧i≤xs.length∧Pv i σ H,⟨xs.length,by simp,Nat.zero_le _,h0⟩,?_⟩
  rintro i m σ H ⟨rfl,hi,p⟩
  have q:=hl i σ H hi p
  by_cases hlt:i < xs.length
  · have hx:xs[xs.length - 1 - i]?=some (xs[xs.length - 1 - i]'(by omega)):=List.getElem?_eq_getElem (by omega)
    refine .inr ⟨⟨hlt,xs,_,q,hx⟩,Pv (i + 1),fun σ' H' p'=>⟨xs.length - (i + 1),by omega,rfl,hlt,p'⟩,fun x H' y=>?_⟩
    obtain ⟨e,y⟩:=y
    subst e
    refine hs i x σ _ ?_ p
    rw [List.getElem?_reverse hlt]
    exact y xs q
  · have e:i=xs.length:=by omega
    subst e
    exact .inl ⟨Nat.le_refl _,hd σ H p⟩
def shed1 (w:VW) (p:Nat):VW:=if (pAt w p).on=true∧Vbcnam.can w < Vbcnam.allReserved w then setP w p (Vbcnam.cut (pAt w p)) else w
theorem shed_still:∀ (l:List Nat) {w:VW},Vbcnam.allReserved w≤Vbcnam.can w→l.foldl shed1 w=w
  | [],_,_=>rfl
  | p::l,w,h=>by
    rw [List.foldl_cons]
    have e:shed1 w p=w:=by unfold shed1; exact if_neg (by omega)
    rw [e]
    exact shed_still l h
theorem shed_fold:∀ (l:List Nat) (w:VW),(∀ p ∈ l,p < w.ports.length)→Vbcnam.shed l w=l.foldl shed1 w
  | [],_,_=>rfl
  | p::l,w,hl=>by
    unfold Vbcnam.shed
    split
    · rename_i h; rw [shed_still (p::l) h]
    · rename_i h
      have hp:=hl p List.mem_cons_self
      rw [List.foldl_cons]
      have e:Vbcnam.setPort w p (if (Vbcnam.portAt w p).on=true then Vbcnam.cut (Vbcnam.portAt w p) else Vbcnam.portAt w p)=shed1 w p:=by
        unfold shed1
        by_cases ho:(pAt w p).on=true
        · rw [if_pos ho,if_pos ⟨ho,by omega⟩]
        · rw [if_neg ho,if_neg (fun z=>ho z.1)]
          exact setP_self hp
      rw [e]
      refine shed_fold l _ fun q hq=>?_
      have:(shed1 w p).ports.length=w.ports.length:=by unfold shed1; split; exact plen; rfl
      rw [this]
      exact hl q (List.mem_cons_of_mem _ hq)
theorem Ok.shed1 {w:VW} {p:Nat} (O:Ok w) (hi:p < w.ports.length):Ok (WP.shed1 w p)∧Kp w (WP.shed1 w p):=by
  unfold WP.shed1
  split
  · exact ⟨O.cut hi,Kp.cut hi⟩
  · exact ⟨O,Kp.refl w⟩
def intV (l:List Int):List V:=l.map V.int
section
variable {P:Program} {w₀:PySem.World} {K:PySem.W.Frag} {mg:Str→Option Value} {base:Heap} {t:Cas} {f:Addr} {fd:FuncData}
def spV (t:Cas) (val:VW→List Int):Sp:=fun vs H Q _=>∃ (A:Rl→Addr) (w:VW) (E:Hp),vs=[.ref (A .wd)]∧Rep t A H w E∧Ok w∧∀ H' p,E p=none→Rep t A H' w (upd E p (.lst (intV (val w))))→Q (.ref p) H'
def powL (w:VW):List Int:=Vbcnam.nums [Vbcnam.can w,Vbcnam.may w,Vbcnam.allReserved w,Vbcnam.allDrawn w]
theorem ok_power_view (T:Txt K mg t) (F:Fun K "power_view" "power_view" s_power_view f fd) (F_can_give:Known P w₀ K mg base "can_give" 2 ["world"] (spW t fun w=>.int (Vbcnam.can w)))
    (F_may_give:Known P w₀ K mg base "may_give" 3 ["world"] (spW t fun w=>.int (Vbcnam.may w))) (F_all_reserved:Known P w₀ K mg base "all_reserved" 2 ["world"] (spW t fun w=>.int (Vbcnam.allReserved w)))
    (F_all_drawn:Known P w₀ K mg base "all_drawn" 2 ["world"] (spW t fun w=>.int (Vbcnam.allDrawn w))) :
    FnOk P w₀ K mg base CX0 4 f fd ["world"] (spV t powL):=by
  refine F.ok sc_power_view (fun vs H Q E h=>?_) (fun cdv A outer s H vs Q E hr h=>?_)
  · obtain ⟨_,_,_,rfl,_⟩:=h; rfl
  · obtain ⟨A,w,E,rfl,R,O,k⟩:=h
    have nd:=sc_power_view.nd
    refine ⟨_,(pss_one (ps_ret (pe_lst (pa_cons (pe_f F_can_give (hr.mono (by decide)) (pa_cons (pv 0) pa_nil)) (pa_cons (pe_f F_may_give (hr.mono (by decide)) (pa_cons (pv 0) pa_nil)) (pa_cons (pe_f F_all_reserved (hr.mono (by decide)) (pa_cons (pv 0) pa_nil)) (pa_cons (pe_f F_all_drawn (hr.mono (by decide)) (pa_cons (pv 0) pa_nil)) pa_nil))))))),?_⟩
    refine ⟨_,rfl,A,w,E,rfl,R,O,fun H1 R1=>⟨_,rfl,A,w,E,rfl,R1,O,fun H2 R2=>⟨_,rfl,A,w,E,rfl,R2,O,fun H3 R3=>⟨_,rfl,A,w,E,rfl,R3,O,fun H4 R4=>⟨(by show 4≤sizeLine; decide),fun p hp=>?_⟩⟩⟩⟩⟩
    obtain ⟨R5,E5⟩:=R4.ext (o:=.lst (intV (powL w))) hp
    exact k _ p E5 R5
theorem ok_cut_what_is_too_much (T:Txt K mg t) (F:Fun K "cut_what_is_too_much" "cut_what_is_too_much" s_cut_what_is_too_much f fd) (F_order_of_ports:Known P w₀ K mg base "order_of_ports" 4 ["world"] (sp_order t))
    (F_all_reserved:Known P w₀ K mg base "all_reserved" 2 ["world"] (spW t fun w=>.int (Vbcnam.allReserved w))) (F_can_give:Known P w₀ K mg base "can_give" 2 ["world"] (spW t fun w=>.int (Vbcnam.can w)))
    (F_cut:Known P w₀ K mg base "cut" 2 ["port"] (spM t (fun _=>True) Vbcnam.cut)) :
    FnOk P w₀ K mg base CX0 5 f fd ["world"] (fun vs H Q _=>∃ (A:Rl→Addr) (w:VW) (E:Hp),vs=[.ref (A .wd)]∧Rep t A H w E∧Ok w∧∀ H',Rep t A H' (Vbcnam.safe w) E→Ok (Vbcnam.safe w)→Q .non H'):=by
  refine F.ok sc_cut_what_is_too_much (fun vs H Q E h=>?_) (fun cdv A outer s H vs Q E hr h=>?_)
  · obtain ⟨_,_,_,rfl,_⟩:=h; rfl
  · obtain ⟨A,w,E,rfl,R,O,k⟩:=h
    have nd:=sc_cut_what_is_too_much.nd
    refine ⟨_,(pss_one (ps_for PassesOwn.never rfl (pi_reversedK (K:=K) T.b_reversed (pa_cons (pe_f F_order_of_ports (hr.mono (by decide)) (pa_cons (pv 0) pa_nil)) pa_nil)) (pg_name (i:=1) nd rfl (Or.inl rfl)) (pss_one (ps_if (PW.pt (pw_and (pt_cmpR op_eq (pe_fl (K:=K) (pv 1)) pe_int (nomark _)) (pw_and1 (pt_cmpR op_gt (pe_f F_all_reserved (hr.mono (by decide)) (pa_cons (pv 0) pa_nil)) (pe_f F_can_give (hr.mono (by decide)) (pa_cons (pv 0) pa_nil)) (nomark _))))) (pss_one (ps_expr (pe_f F_cut (hr.mono (by decide)) (pa_cons (pv 1) pa_nil)))) pss_nil)))),?_⟩
    refine ⟨_,rfl,A,w,E,rfl,R,O,fun H2 D hD R2=>⟨D,_,rfl,SqL.of (R2.beside upd_same),?_⟩⟩
    have er:∀ j:Nat,(Vbcnam.order w).reverse.take j=(Vbcnam.order w).reverse.take j:=fun _=>rfl
    refine for_rev (K:=K) (a:=D) (xs:=refs (ordA A w)) (fun j σ H'=>∃ v:Option V,σ=[some (.ref (A .wd)),v]∧Rep t A H' (((Vbcnam.order w).reverse.take j).foldl shed1 w) (upd E D (.lst (refs (ordA A w)))) ∧
        Ok (((Vbcnam.order w).reverse.take j).foldl shed1 w)∧Kp w (((Vbcnam.order w).reverse.take j).foldl shed1 w))
      ⟨none,rfl,R2,O,Kp.refl w⟩ (fun j σ H' _ ⟨_,_,R',_⟩=>SqL.of (R'.beside upd_same)) ?_ ?_
    · rintro j x σ H' hx ⟨v,rfl,R',O',K'⟩
      obtain ⟨p,hp,rfl⟩:∃ p,(Vbcnam.order w).reverse[j]?=some p∧x=.ref (A (.po p)):=by
        unfold refs ordA at hx
        rw [← List.map_reverse,← List.map_reverse,List.getElem?_map,List.getElem?_map] at hx
        cases e:(Vbcnam.order w).reverse[j]? with
        | none=>rw [e] at hx; cases hx
        | some p=>rw [e] at hx; exact ⟨p,rfl,(Option.some.inj hx).symm⟩
      have hpn:=(WO.order_mem w p).mp (List.mem_reverse.mp (List.mem_of_getElem? hp))
      rw [foldl_take hp]
      generalize ((Vbcnam.order w).reverse.take j).foldl shed1 w=w1 at R' O' K'
      have hp1:p < w1.ports.length:=by rw [K'.1]; exact hpn
      obtain ⟨O1,K1⟩:=O'.shed1 hp1
      obtain ⟨dx,g,dv,hpo⟩:=R'.prt hp1
      refine ⟨_,rfl,r_port_on T hpo ⟨rfl,_,rfl,?_⟩⟩
      cases ho:(pAt w1 p).on with
      | false =>
        refine ite2 (fun h=>absurd h (by decide)) (fun _=>ite2 (fun h=>absurd h (by decide)) (fun _=>?_))
        have e:shed1 w1 p=w1:=by unfold shed1; exact if_neg (fun z=>by rw [ho] at z; cases z.1)
        rw [e]
        exact ⟨_,rfl,R',O',K'⟩
      | true =>
        refine ite2 (fun _=>?_) (fun h=>absurd rfl h)
        refine ⟨_,rfl,A,w1,_,rfl,R',O',fun H3 R3=>⟨_,rfl,A,w1,_,rfl,R3,O',fun H4 R4=>⟨_,_,rfl,rfl,_,rfl,?_⟩⟩⟩
        by_cases hc:Vbcnam.can w1 < Vbcnam.allReserved w1
        · have e:shed1 w1 p=setP w1 p (Vbcnam.cut (pAt w1 p)):=by unfold shed1; exact if_pos ⟨ho,hc⟩
          rw [e] at O1 K1 ⊢
          refine ite2 (fun _=>?_) (fun h=>absurd (decide_eq_true (by omega)) h)
          exact ⟨_,rfl,A,w1,_,p,rfl,R4,O',hp1,trivial,fun H5 R5=>⟨_,rfl,R5,O1,K'.trans K1⟩⟩
        · have e:shed1 w1 p=w1:=by unfold shed1; exact if_neg (fun z=>hc z.2)
          rw [e]
          refine ite2 (fun h=>absurd (of_decide_eq_true h) (by omega)) (fun _=>?_)
          exact ⟨_,rfl,R4,O',K'⟩
    · rintro σ H' ⟨v,rfl,R',O',K'⟩
      have e0:(Vbcnam.order w).reverse.take (refs (ordA A w)).length=(Vbcnam.order w).reverse:=by
        unfold refs ordA
        rw [List.length_map,List.length_map,← List.length_reverse,List.take_length]
      have e1:Vbcnam.safe w=(Vbcnam.order w).reverse.foldl shed1 w:=shed_fold _ w fun p hp=>(WO.order_mem w p).mp (List.mem_reverse.mp hp)
      rw [e0,← e1] at R' O'
      exact k H' (R'.drop hD) O'
end
def spC (t:Cas) (pre:VW→List Int→VW × List Int→Prop):Sp:=fun vs H Q _=>∃ (A:Rl→Addr) (w:VW) (E:Hp) (ln:Addr) (ns:List Int) (r:VW × List Int),vs=[.ref (A .wd),.ref ln]∧Rep t A H w E∧Ok w∧E ln=some (.lst (intV ns))∧pre w ns r ∧
  ∀ H' p,E p=none→Rep t A H' r.1 (upd E p (.lst (intV r.2)))→Q (.ref p) H'
theorem Rep.sls {t:Cas} {A:Rl→Addr} {H E:Hp} {w:VW} (R:Rep t A H w E):H (A .sl)=some (.lst (refs ((List.range w.supplies.length).map fun i=>A (.su i)))):=by
  obtain ⟨G,gs,ms,hA,R⟩:=R
  have z:H (G.ad .sl)=some (.lst (refs ((List.range w.supplies.length).map fun i=>G.ad (.su i)))):=R.at_ .sl trivial
  rw [hA .sl rfl] at z
  rw [z]
  congr 3
  exact List.map_congr_left fun j _=>hA (.su j) rfl
theorem at_sup {A:Rl→Addr} {w:VW} {p:Nat} (h:p < w.supplies.length):atI (refs ((List.range w.supplies.length).map fun i=>A (.su i))) (p:Int)=some (.ref (A (.su p))):=by
  refine atI_nat ?_
  unfold refs
  rw [List.getElem?_map,List.getElem?_map,List.getElem?_range h]
  rfl
theorem Rep.ans {t:Cas} {A:Rl→Addr} {H E:Hp} {w:VW} {p:Addr} {o:HO} (R:Rep t A H w E) (hp:H p=none):E p=none∧Rep t A (upd H p o) w (upd E p o):=⟨(R.ext (o:=o) hp).2,(R.ext hp).1⟩
theorem cat0 {t:Cas} {A:Rl→Addr} {w:VW} {E:Hp} {l:List Int} {Q:VK} (k:∀ H' p,E p=none→Rep t A H' w (upd E p (.lst (intV (0::l))))→Q (.ref p) H') {H:Hp} {p p2:Addr} (hl:l.length≤1000) (e1:E p=none) (e2:upd E p (.lst (intV [0])) p2=none)
    (R:Rep t A H w (upd (upd E p (.lst (intV [0]))) p2 (.lst (intV l)))):rCat (.ref p) (.ref p2) H Q:=by
  have n:p2≠p:=fun z=>by rw [z,upd_same] at e2; cases e2
  refine ⟨p,p2,intV [0],intV l,rfl,rfl,R.sub (by rw [upd_ne (Ne.symm n),upd_same]),R.sub upd_same,?_,fun p3 hp3=>?_⟩
  · show 1 + (intV l).length≤sizeLine
    unfold intV
    rw [List.length_map]
    exact Nat.le_trans (show 1 + l.length≤1001 by omega) (by decide)
  · obtain ⟨e3,R3⟩:=R.ans (o:=.lst (intV (0::l))) hp3
    rw [upd_ne n] at e2
    have a:p3≠p2:=fun z=>by rw [z,upd_same] at e3; cases e3
    rw [upd_ne a] at e3
    have b:p3≠p:=fun z=>by rw [z,upd_same] at e3; cases e3
    rw [upd_ne b] at e3
    refine k _ p3 e3 (R3.less fun c o e=>?_)
    by_cases hc:c=p3
    · subst hc
      rw [upd_same] at e ⊢
      exact e
    · rw [upd_ne hc] at e ⊢
      rw [upd_ne (ne_of_none e e2),upd_ne (ne_of_none e e1)]
      exact e
theorem cat0V {t:Cas} {A:Rl→Addr} {w:VW} {E:Hp} {val:VW→List Int} {Q:VK} (k:∀ H' p,E p=none→Rep t A H' w (upd E p (.lst (intV (0::val w))))→Q (.ref p) H') {H:Hp} {p:Addr} (R:Rep t A H w E) (O:Ok w) (hl:(val w).length≤1000) (hp:H p=none) :
    spV t val [.ref (A .wd)] (upd H p (.lst [.int 0])) (fun v H2=>rCat (.ref p) v H2 Q) E0:=by
  obtain ⟨e1,R2⟩:=R.ans (o:=.lst (intV [0])) hp
  exact ⟨A,w,_,rfl,R2,O,fun H2 p2 e2 R3=>cat0 k hl e1 e2 R3⟩
section
variable {P:Program} {w₀:PySem.World} {K:PySem.W.Frag} {mg:Str→Option Value} {base:Heap} {t:Cas} {f:Addr} {fd:FuncData}
theorem ok_answer_spare (T:Txt K mg t) (F:Fun K "answer_spare" "answer_spare" s_answer_spare f fd) (F_power_view:Known P w₀ K mg base "power_view" 4 ["world"] (spV t powL)) :
    FnOk P w₀ K mg base CX0 5 f fd ["world","numbers"] (spC t fun w ns r=>∃ b:Bool,ns=[bt b]∧r=({ w with spare:=b },Vbcnam.powers { w with spare:=b })):=by
  refine F.ok sc_answer_spare (fun vs H Q E h=>?_) (fun cdv A outer s H vs Q E hr h=>?_)
  · obtain ⟨_,_,_,_,_,_,rfl,_⟩:=h; rfl
  · obtain ⟨A,w,E,ln,ns,r,rfl,⟨G,gs,ms,hA,RX⟩,O,hln,⟨b,rfl,rfl⟩,k⟩:=h
    have nd:=sc_answer_spare.nd
    refine ⟨_,(pss_cons (ps_fl (K:=K) (pv 0) (pe_ix (ix_listK (K:=K)) (pv 1) pe_int (fun _ _=>rfl))) (pss_one (ps_ret (pe_op op_cat (pe_lst (pa_cons pe_int pa_nil)) (pe_f F_power_view (hr.mono (by decide)) (pa_cons (pv 0) pa_nil)))))),?_⟩
    rw [← hA .wd rfl]
    refine ⟨_,rfl,ln,_,_,.int (bt b),rfl,rfl,SqL.of (RX.fr ln _ hln).1,rfl,_,rfl,ww_spare T RX (b:=b) rfl fun H1 R1=>?_⟩
    have O1:Ok { w with spare:=b }:=⟨O.ns,O.np,O.cls,O.on,O.gl,O.bag,O.cap⟩
    rw [hA .wd rfl]
    exact ⟨(by show 1≤sizeLine; decide),fun p hp=>⟨_,rfl,cat0V (val:=powL) k ⟨G,gs,ms,hA,R1⟩ O1 (by show 4≤1000; decide) hp⟩⟩
theorem ok_answer_port (T:Txt K mg t) (F:Fun K "answer_port" "answer_port" s_answer_port f fd) (F_cut:Known P w₀ K mg base "cut" 2 ["port"] (spM t (fun _=>True) Vbcnam.cut)) :
    FnOk P w₀ K mg base CX0 3 f fd ["world","numbers"] (spC t fun w ns r=>∃ (i rk mo:Nat) (b:Bool),ns=[(i:Int),bt b,(rk:Int),(mo:Int)]∧i < w.ports.length ∧
      r=(setP w i (if b=false then Vbcnam.cut { pAt w i with enabled:=b,rank:=rk,most:=mo } else { pAt w i with enabled:=b,rank:=rk,most:=mo }),[0])):=by
  refine F.ok sc_answer_port (fun vs H Q E h=>?_) (fun cdv A outer s H vs Q E hr h=>?_)
  · obtain ⟨_,_,_,_,_,_,rfl,_⟩:=h; rfl
  · obtain ⟨A,w,E,ln,ns,r,rfl,R,O,hln,⟨i,rk,mo,b,rfl,hi,rfl⟩,k⟩:=h
    have nd:=sc_answer_port.nd
    refine ⟨_,(pss_cons (ps_set (i:=2) nd rfl (Or.inl rfl) (pe_ix (ix_listK (K:=K)) (pe_fl (K:=K) (pv 0)) (pe_ix (ix_listK (K:=K)) (pv 1) pe_int (fun _ _=>rfl)) (fun _ _=>rfl))) (pss_cons (ps_fl (K:=K) (pv 2) (pe_ix (ix_listK (K:=K)) (pv 1) pe_int (fun _ _=>rfl))) (pss_cons (ps_fl (K:=K) (pv 2) (pe_ix (ix_listK (K:=K)) (pv 1) pe_int (fun _ _=>rfl))) (pss_cons (ps_fl (K:=K) (pv 2) (pe_ix (ix_listK (K:=K)) (pv 1) pe_int (fun _ _=>rfl))) (pss_cons (ps_if (pt_cmpR op_eq (pe_fl (K:=K) (pv 2)) pe_int (nomark _)) (pss_one (ps_expr (pe_f F_cut (hr.mono (by decide)) (pa_cons (pv 2) pa_nil)))) pss_nil) (pss_one (ps_ret (pe_lst (pa_cons pe_int pa_nil))))))))),?_⟩
    obtain ⟨dxw,hw⟩:=R.wld
    have hlnH:=R.sub hln
    refine ⟨_,rfl,r_world_ports T hw ⟨_,rfl,ln,_,_,.int i,rfl,rfl,SqL.of hlnH,rfl,_,_,_,_,rfl,rfl,SqL.of R.pls,at_port hi,?_⟩⟩
    obtain ⟨G,gs,ms,hA,RX⟩:=R
    rw [← hA (.po i) rfl]
    have R0:=RX.toI hi
    refine ⟨_,rfl,ln,_,_,.int (bt b),rfl,rfl,SqL.of (R0.fr ln _ hln).1,rfl,_,rfl,wp_enabled T R0 hi (b:=b) rfl fun H1 R1=>?_⟩
    refine ⟨_,rfl,ln,_,_,.int rk,rfl,rfl,SqL.of (R1.fr ln _ hln).1,rfl,_,rfl,wp_rank T R1 hi (n:=rk) rfl fun H2 R2=>?_⟩
    refine ⟨_,rfl,ln,_,_,.int mo,rfl,rfl,SqL.of (R2.fr ln _ hln).1,rfl,_,rfl,wp_most T R2 hi (n:=mo) rfl fun H3 R3=>?_⟩
    refine ⟨_,rfl,r_port_enabled T (R3.prtI hi) ⟨rfl,_,rfl,?_⟩⟩
    have R3':Rep t A H3 (setP w i { pAt w i with enabled:=b,rank:=rk,most:=mo }) E:=⟨G,gs,ms,hA,R3⟩
    have O3:Ok (setP w i { pAt w i with enabled:=b,rank:=rk,most:=mo }):=O.set hi (O.cls i hi) (O.on i hi) (O.gl i hi)
    cases b with
    | false =>
      refine ite2 (fun _=>?_) (fun h=>absurd rfl h)
      refine ⟨_,rfl,A,_,E,i,by rw [hA (.po i) rfl],R3',O3,by rw [plen]; exact hi,trivial,fun H4 R4=>⟨(by show 1≤sizeLine; decide),fun p hp=>?_⟩⟩
      rw [pAt_self hi,setP_setP] at R4
      obtain ⟨e1,R5⟩:=R4.ans (o:=.lst (intV [0])) hp
      exact k _ p e1 R5
    | true =>
      refine ite2 (fun h=>absurd (show decide (V.int (bt true)=V.int 0)=true from h) (by decide)) (fun _=>?_)
      refine ⟨(by show 1≤sizeLine; decide),fun p hp=>?_⟩
      obtain ⟨e1,R5⟩:=R3'.ans (o:=.lst (intV [0])) hp
      exact k _ p e1 R5
theorem ok_answer_settle (T:Txt K mg t) (F:Fun K "answer_settle" "answer_settle" s_answer_settle f fd) (F_settle_ports:Known P w₀ K mg base "settle_ports" 6 ["world"] (sp_settle_ports t))
    (F_power_view:Known P w₀ K mg base "power_view" 4 ["world"] (spV t powL)) :
    FnOk P w₀ K mg base CX0 7 f fd ["world","numbers"] (spC t fun w ns r=>r=(Vbcnam.settle w,Vbcnam.powers (Vbcnam.settle w))):=by
  refine F.ok sc_answer_settle (fun vs H Q E h=>?_) (fun cdv A outer s H vs Q E hr h=>?_)
  · obtain ⟨_,_,_,_,_,_,rfl,_⟩:=h; rfl
  · obtain ⟨A,w,E,ln,ns,r,rfl,R,O,hln,rfl,k⟩:=h
    have nd:=sc_answer_settle.nd
    refine ⟨_,(pss_cons (ps_expr (pe_f F_settle_ports (hr.mono (by decide)) (pa_cons (pv 0) pa_nil))) (pss_one (ps_ret (pe_op op_cat (pe_lst (pa_cons pe_int pa_nil)) (pe_f F_power_view (hr.mono (by decide)) (pa_cons (pv 0) pa_nil)))))),?_⟩
    exact ⟨_,rfl,A,w,E,rfl,R,O,fun H1 R1 O1=>⟨(by show 1≤sizeLine; decide),fun p hp=>⟨_,rfl,cat0V (val:=powL) k R1 O1 (by show 4≤1000; decide) hp⟩⟩⟩
theorem ok_answer_clear (T:Txt K mg t) (F:Fun K "answer_clear" "answer_clear" s_answer_clear f fd) :
    FnOk P w₀ K mg base CX0 1 f fd ["world","numbers"] (spC t fun w ns r=>∃ i:Nat,ns=[(i:Int)]∧i < w.ports.length∧r=if (pAt w i).faulty=false then (w,[-2]) else (setP w i { pAt w i with faulty:=false },[0])):=by
  refine F.ok sc_answer_clear (fun vs H Q E h=>?_) (fun cdv A outer s H vs Q E hr h=>?_)
  · obtain ⟨_,_,_,_,_,_,rfl,_⟩:=h; rfl
  · obtain ⟨A,w,E,ln,ns,r,rfl,R,O,hln,⟨i,rfl,hi,er⟩,k⟩:=h
    have nd:=sc_answer_clear.nd
    refine ⟨_,(pss_cons (ps_set (i:=2) nd rfl (Or.inl rfl) (pe_ix (ix_listK (K:=K)) (pe_fl (K:=K) (pv 0)) (pe_ix (ix_listK (K:=K)) (pv 1) pe_int (fun _ _=>rfl)) (fun _ _=>rfl))) (pss_cons (ps_if (pt_cmpR op_eq (pe_fl (K:=K) (pv 2)) pe_int (nomark _)) (pss_one (ps_ret (pe_lst (pa_cons (pe_gi T.i_WRONG_STATE) pa_nil)))) pss_nil) (pss_cons (ps_fl (K:=K) (pv 2) pe_int) (pss_one (ps_ret (pe_lst (pa_cons pe_int pa_nil))))))),?_⟩
    obtain ⟨dxw,hw⟩:=R.wld
    have hlnH:=R.sub hln
    refine ⟨_,rfl,r_world_ports T hw ⟨_,rfl,ln,_,_,.int i,rfl,rfl,SqL.of hlnH,rfl,_,_,_,_,rfl,rfl,SqL.of R.pls,at_port hi,?_⟩⟩
    obtain ⟨G,gs,ms,hA,RX⟩:=id R
    rw [← hA (.po i) rfl]
    refine ⟨_,rfl,r_port_faulty T (RX.prt hi) ⟨rfl,_,rfl,?_⟩⟩
    cases hf:(pAt w i).faulty with
    | false =>
      refine ite2 (fun _=>?_) (fun h=>absurd rfl h)
      rw [if_pos hf] at er
      subst er
      refine ⟨(by show 1≤sizeLine; decide),fun p hp=>?_⟩
      obtain ⟨e1,R5⟩:=R.ans (o:=.lst (intV [-2])) hp
      exact k _ p e1 R5
    | true =>
      refine ite2 (fun h=>absurd h (by decide)) (fun _=>?_)
      rw [if_neg (by rw [hf]; decide)] at er
      subst er
      refine ⟨_,rfl,wp_faulty T (RX.toI hi) hi (b:=false) rfl fun H1 R1=>⟨(by show 1≤sizeLine; decide),fun p hp=>?_⟩⟩
      obtain ⟨e1,R5⟩:=Rep.ans (o:=.lst (intV [0])) ⟨G,gs,ms,hA,R1⟩ hp
      exact k _ p e1 R5
theorem ok_answer_again (T:Txt K mg t) (F:Fun K "answer_again" "answer_again" s_answer_again f fd) (F_bag_is_full:Known P w₀ K mg base "bag_is_full" 1 ["world"] (spW t fun w=>.bl (Vbcnam.full w)))
    (F_tell:Known P w₀ K mg base "tell" 3 ["world","port"] (sp_tell t)) :
    FnOk P w₀ K mg base CX0 4 f fd ["world","numbers"] (spC t fun w ns r=>∃ i:Nat,ns=[(i:Int)]∧i < w.ports.length ∧
      r=if (pAt w i).on=false then (w,[-3]) else if Vbcnam.full w=true then (w,[-4]) else (Vbcnam.put w (Vbcnam.tellsGrant i (pAt w i)),[0])):=by
  refine F.ok sc_answer_again (fun vs H Q E h=>?_) (fun cdv A outer s H vs Q E hr h=>?_)
  · obtain ⟨_,_,_,_,_,_,rfl,_⟩:=h; rfl
  · obtain ⟨A,w,E,ln,ns,r,rfl,R,O,hln,⟨i,rfl,hi,er⟩,k⟩:=h
    have nd:=sc_answer_again.nd
    refine ⟨_,(pss_cons (ps_set (i:=2) nd rfl (Or.inl rfl) (pe_ix (ix_listK (K:=K)) (pe_fl (K:=K) (pv 0)) (pe_ix (ix_listK (K:=K)) (pv 1) pe_int (fun _ _=>rfl)) (fun _ _=>rfl))) (pss_cons (ps_if (pt_cmpR op_eq (pe_fl (K:=K) (pv 2)) pe_int (nomark _)) (pss_one (ps_ret (pe_lst (pa_cons (pe_gi T.i_PORT_OFF) pa_nil)))) pss_nil) (pss_cons (ps_if (pt_val (pe_f F_bag_is_full (hr.mono (by decide)) (pa_cons (pv 0) pa_nil))) (pss_one (ps_ret (pe_lst (pa_cons (pe_gi T.i_BAG_FULL) pa_nil)))) pss_nil) (pss_cons (ps_expr (pe_f F_tell (hr.mono (by decide)) (pa_cons (pv 0) (pa_cons (pv 2) pa_nil)))) (pss_one (ps_ret (pe_lst (pa_cons pe_int pa_nil)))))))),?_⟩
    obtain ⟨dxw,hw⟩:=R.wld
    have hlnH:=R.sub hln
    refine ⟨_,rfl,r_world_ports T hw ⟨_,rfl,ln,_,_,.int i,rfl,rfl,SqL.of hlnH,rfl,_,_,_,_,rfl,rfl,SqL.of R.pls,at_port hi,?_⟩⟩
    obtain ⟨dx,g,dv,hpo⟩:=R.prt hi
    refine ⟨_,rfl,r_port_on T hpo ⟨rfl,_,rfl,?_⟩⟩
    cases ho:(pAt w i).on with
    | false =>
      refine ite2 (fun _=>?_) (fun h=>absurd rfl h)
      rw [if_pos ho] at er
      subst er
      refine ⟨(by show 1≤sizeLine; decide),fun p hp=>?_⟩
      obtain ⟨e1,R5⟩:=R.ans (o:=.lst (intV [-3])) hp
      exact k _ p e1 R5
    | true =>
      refine ite2 (fun h=>absurd h (by decide)) (fun _=>?_)
      rw [if_neg (by rw [ho]; decide)] at er
      refine ⟨_,rfl,A,w,E,rfl,R,O,fun H1 R1=>⟨_,rfl,?_⟩⟩
      cases hf:Vbcnam.full w with
      | true =>
        refine ite2 (fun _=>?_) (fun h=>absurd rfl h)
        rw [if_pos hf] at er
        subst er
        refine ⟨(by show 1≤sizeLine; decide),fun p hp=>?_⟩
        obtain ⟨e1,R5⟩:=R1.ans (o:=.lst (intV [-4])) hp
        exact k _ p e1 R5
      | false =>
        refine ite2 (fun h=>absurd h (by decide)) (fun _=>?_)
        rw [if_neg (by rw [hf]; decide)] at er
        subst er
        refine ⟨_,rfl,_,rfl,A,w,E,i,rfl,R1,O,hi,(O.on i hi ho).1,fun H2 R2=>⟨(by show 1≤sizeLine; decide),fun p hp=>?_⟩⟩
        obtain ⟨e1,R5⟩:=R2.ans (o:=.lst (intV [0])) hp
        exact k _ p e1 R5
def refuse (x:VP):Int:=if x.device=none then -2 else if x.on=false then -3 else 0
theorem ok_refusal_of_unlit (T:Txt K mg t) (F:Fun K "refusal_of_unlit" "refusal_of_unlit" s_refusal_of_unlit f fd):FnOk P w₀ K mg base CX0 1 f fd ["port"] (spP t (fun _=>True) fun x=>.int (refuse x)):=by
  refine F.ok sc_refusal_of_unlit (fun vs H Q E h=>?_) (fun cdv A outer s H vs Q E hr h=>?_)
  · obtain ⟨_,_,_,_,rfl,_⟩:=h; rfl
  · obtain ⟨A,w,E,i,rfl,R,O,hi,_,q⟩:=h
    have q:Q (.int (refuse (pAt w i))) H:=q H R
    have nd:=sc_refusal_of_unlit.nd
    refine ⟨_,(pss_cons (ps_if (pt_cmpR op_isN (pe_fl (K:=K) (pv 0)) pe_non (nomark _)) (pss_one (ps_ret (pe_gi T.i_WRONG_STATE))) pss_nil) (pss_cons (ps_if (pt_cmpR op_eq (pe_fl (K:=K) (pv 0)) pe_int (nomark _)) (pss_one (ps_ret (pe_gi T.i_PORT_OFF))) pss_nil) (pss_one (ps_ret pe_int)))),?_⟩
    obtain ⟨G,gs,ms,hA,RX⟩:=id R
    rw [← hA (.po i) rfl]
    unfold refuse at q
    cases hd:(pAt w i).device with
    | none =>
      refine ⟨_,rfl,r_port_device T (RX.prtN hi hd) ⟨rfl,_,rfl,?_⟩⟩
      refine ite2 (fun _=>?_) (fun h=>absurd rfl h)
      rw [if_pos hd] at q
      exact q
    | some y =>
      refine ⟨_,rfl,r_port_device T (RX.prtD hi hd) ⟨rfl,_,rfl,?_⟩⟩
      refine ite2 (fun h=>nomatch of_decide_eq_true h) (fun _=>?_)
      rw [if_neg (by rw [hd]; simp)] at q
      refine ⟨_,rfl,r_port_on T (RX.prt hi) ⟨rfl,_,rfl,?_⟩⟩
      cases ho:(pAt w i).on with
      | false =>
        refine ite2 (fun _=>?_) (fun h=>absurd rfl h)
        rw [if_pos ho] at q
        exact q
      | true =>
        refine ite2 (fun h=>absurd h (by decide)) (fun _=>?_)
        rw [if_neg (by rw [ho]; decide)] at q
        exact q
theorem refuse_cases (x:VP):(x.device=none∧refuse x=-2)∨(∃ y,x.device=some y∧x.on=false∧refuse x=-3)∨∃ y,x.device=some y∧x.on=true∧refuse x=0:=by
  unfold refuse
  cases hd:x.device with
  | none=>exact .inl ⟨rfl,by rw [if_pos rfl]⟩
  | some y =>
    cases ho:x.on with
    | false=>exact .inr (.inl ⟨y,rfl,rfl,by rw [if_neg (by simp),if_pos rfl]⟩)
    | true=>exact .inr (.inr ⟨y,rfl,rfl,by rw [if_neg (by simp),if_neg (by decide)]⟩)
abbrev spRef (t:Cas):Sp:=spP t (fun _=>True) fun x=>.int (refuse x)
theorem ok_answer_fault (T:Txt K mg t) (F:Fun K "answer_fault" "answer_fault" s_answer_fault f fd) (F_refusal_of_unlit:Known P w₀ K mg base "refusal_of_unlit" 1 ["port"] (spRef t))
    (F_cut:Known P w₀ K mg base "cut" 2 ["port"] (spM t (fun _=>True) Vbcnam.cut)) :
    FnOk P w₀ K mg base CX0 3 f fd ["world","numbers"] (spC t fun w ns r=>∃ i:Nat,ns=[(i:Int)]∧i < w.ports.length∧r=if refuse (pAt w i) < 0 then (w,[refuse (pAt w i)]) else (setP w i { Vbcnam.cut (pAt w i) with faulty:=true },[0])):=by
  refine F.ok sc_answer_fault (fun vs H Q E h=>?_) (fun cdv A outer s H vs Q E hr h=>?_)
  · obtain ⟨_,_,_,_,_,_,rfl,_⟩:=h; rfl
  · obtain ⟨A,w,E,ln,ns,r,rfl,R,O,hln,⟨i,rfl,hi,er⟩,k⟩:=h
    have nd:=sc_answer_fault.nd
    refine ⟨_,(pss_cons (ps_set (i:=2) nd rfl (Or.inl rfl) (pe_ix (ix_listK (K:=K)) (pe_fl (K:=K) (pv 0)) (pe_ix (ix_listK (K:=K)) (pv 1) pe_int (fun _ _=>rfl)) (fun _ _=>rfl))) (pss_cons (ps_set (i:=3) nd rfl (Or.inl rfl) (pe_f F_refusal_of_unlit (hr.mono (by decide)) (pa_cons (pv 2) pa_nil))) (pss_cons (ps_if (pt_cmpR op_lt (pv 3) pe_int (nomark _)) (pss_one (ps_ret (pe_lst (pa_cons (pv 3) pa_nil)))) pss_nil) (pss_cons (ps_expr (pe_f F_cut (hr.mono (by decide)) (pa_cons (pv 2) pa_nil))) (pss_cons (ps_fl (K:=K) (pv 2) pe_int) (pss_one (ps_ret (pe_lst (pa_cons pe_int pa_nil))))))))),?_⟩
    obtain ⟨dxw,hw⟩:=R.wld
    have hlnH:=R.sub hln
    refine ⟨_,rfl,r_world_ports T hw ⟨_,rfl,ln,_,_,.int i,rfl,rfl,SqL.of hlnH,rfl,_,_,_,_,rfl,rfl,SqL.of R.pls,at_port hi,?_⟩⟩
    refine ⟨_,rfl,A,w,E,i,rfl,R,O,hi,trivial,fun H1 R1=>?_⟩
    refine ⟨_,rfl,_,_,rfl,rfl,_,rfl,?_⟩
    by_cases hn:refuse (pAt w i) < 0
    · refine ite2 (fun _=>?_) (fun h=>absurd (decide_eq_true hn) h)
      rw [if_pos hn] at er
      subst er
      refine ⟨_,rfl,(by show 1≤sizeLine; decide),fun p hp=>?_⟩
      obtain ⟨e1,R5⟩:=R1.ans (o:=.lst (intV [refuse (pAt w i)])) hp
      exact k _ p e1 R5
    · refine ite2 (fun h=>absurd (of_decide_eq_true h) hn) (fun _=>?_)
      rw [if_neg hn] at er
      subst er
      refine ⟨_,rfl,A,w,E,i,rfl,R1,O,hi,trivial,fun H2 R2=>?_⟩
      obtain ⟨G,gs,ms,hA,RX⟩:=R2
      rw [← hA (.po i) rfl]
      refine ⟨_,rfl,wp_faulty T RX hi (b:=true) rfl fun H3 R3=>⟨(by show 1≤sizeLine; decide),fun p hp=>?_⟩⟩
      obtain ⟨e1,R5⟩:=Rep.ans (o:=.lst (intV [0])) ⟨G,gs,ms,hA,R3⟩ hp
      exact k _ p e1 R5
theorem ok_answer_draw (T:Txt K mg t) (F:Fun K "answer_draw" "answer_draw" s_answer_draw f fd) (F_refusal_of_unlit:Known P w₀ K mg base "refusal_of_unlit" 1 ["port"] (spRef t)) :
    FnOk P w₀ K mg base CX0 2 f fd ["world","numbers"] (spC t fun w ns r=>∃ i m:Nat,ns=[(i:Int),(m:Int)]∧i < w.ports.length ∧
      r=if refuse (pAt w i) < 0 then (w,[refuse (pAt w i)]) else (setP w i { pAt w i with device:=some { dOf (pAt w i) with draws:=min m (dOf (pAt w i)).limit } },[0,((min m (dOf (pAt w i)).limit:Nat):Int)])):=by
  refine F.ok sc_answer_draw (fun vs H Q E h=>?_) (fun cdv A outer s H vs Q E hr h=>?_)
  · obtain ⟨_,_,_,_,_,_,rfl,_⟩:=h; rfl
  · obtain ⟨A,w,E,ln,ns,r,rfl,R,O,hln,⟨i,m,rfl,hi,er⟩,k⟩:=h
    have nd:=sc_answer_draw.nd
    refine ⟨_,(pss_cons (ps_set (i:=2) nd rfl (Or.inl rfl) (pe_ix (ix_listK (K:=K)) (pe_fl (K:=K) (pv 0)) (pe_ix (ix_listK (K:=K)) (pv 1) pe_int (fun _ _=>rfl)) (fun _ _=>rfl))) (pss_cons (ps_set (i:=3) nd rfl (Or.inl rfl) (pe_f F_refusal_of_unlit (hr.mono (by decide)) (pa_cons (pv 2) pa_nil))) (pss_cons (ps_if (pt_cmpR op_lt (pv 3) pe_int (nomark _)) (pss_one (ps_ret (pe_lst (pa_cons (pv 3) pa_nil)))) pss_nil) (pss_cons (ps_set (i:=4) nd rfl (Or.inl rfl) (pe_fl (K:=K) (pv 2))) (pss_cons (ps_fl (K:=K) (pv 4) (pe_callB (call_min2 rfl) (by rfl) T.b_min boot_min (pa_cons (pe_ix (ix_listK (K:=K)) (pv 1) pe_int (fun _ _=>rfl)) (pa_cons (pe_fl (K:=K) (pv 4)) pa_nil)))) (pss_one (ps_ret (pe_lst (pa_cons pe_int (pa_cons (pe_fl (K:=K) (pv 4)) pa_nil)))))))))),?_⟩
    obtain ⟨dxw,hw⟩:=R.wld
    have hlnH:=R.sub hln
    refine ⟨_,rfl,r_world_ports T hw ⟨_,rfl,ln,_,_,.int i,rfl,rfl,SqL.of hlnH,rfl,_,_,_,_,rfl,rfl,SqL.of R.pls,at_port hi,?_⟩⟩
    refine ⟨_,rfl,A,w,E,i,rfl,R,O,hi,trivial,fun H1 R1=>?_⟩
    refine ⟨_,rfl,_,_,rfl,rfl,_,rfl,?_⟩
    by_cases hn:refuse (pAt w i) < 0
    · refine ite2 (fun _=>?_) (fun h=>absurd (decide_eq_true hn) h)
      rw [if_pos hn] at er
      subst er
      refine ⟨_,rfl,(by show 1≤sizeLine; decide),fun p hp=>?_⟩
      obtain ⟨e1,R5⟩:=R1.ans (o:=.lst (intV [refuse (pAt w i)])) hp
      exact k _ p e1 R5
    · refine ite2 (fun h=>absurd (of_decide_eq_true h) hn) (fun _=>?_)
      rw [if_neg hn] at er
      subst er
      obtain ⟨y,hy⟩:∃ y,(pAt w i).device=some y:=by
        rcases refuse_cases (pAt w i) with ⟨_,e⟩ | ⟨y,h1,_,e⟩ | ⟨y,h1,_,_⟩
        · rw [e] at hn; exact absurd (by decide) hn
        · exact ⟨y,h1⟩
        · exact ⟨y,h1⟩
      rw [dOf_some hy] at k
      obtain ⟨G,gs,ms,hA,RX⟩:=id R1
      rw [← hA (.po i) rfl]
      refine ⟨_,rfl,r_port_device T (RX.prtD hi hy) ?_⟩
      refine ⟨_,rfl,ln,_,_,.int m,rfl,rfl,SqL.of (RX.fr ln _ hln).1,rfl,_,rfl,r_dev_limit T (RX.dev hi hy) ⟨_,_,rfl,_,rfl,wd_draws T (RX.toI hi) hi hy (n:=min m y.limit) ?_ fun H2 R2=>?_⟩⟩
      · have e:(if (y.limit:Int) < (m:Int) then (y.limit:Int) else (m:Int))=((min m y.limit:Nat):Int):=by split <;> omega
        rw [e]
      · refine ⟨_,rfl,r_dev_draws T (R2.devI hi rfl) ⟨(by show 2≤sizeLine; decide),fun p hp=>?_⟩⟩
        obtain ⟨e1,R5⟩:=Rep.ans (o:=.lst (intV [0,((min m y.limit:Nat):Int)])) ⟨G,gs,ms,hA,R2⟩ hp
        exact k _ p e1 R5
abbrev spAsk (t:Cas):Sp:=fun vs H Q _=>∃ (A:Rl→Addr) (w:VW) (E:Hp) (i n:Nat) (y:VD),vs=[.ref (A .wd),.ref (A (.po i)),.int n]∧Rep t A H w E∧Ok w∧i < w.ports.length∧(pAt w i).device=some y ∧
      ∀ H',Rep t A H' (Vbcnam.put (setP w i { pAt w i with device:=some { y with asked:=y.asked + 1 } }) (.wish i y.session (y.asked + 1) n)) E→Q .non H'
theorem ok_answer_wish (T:Txt K mg t) (F:Fun K "answer_wish" "answer_wish" s_answer_wish f fd) (F_refusal_of_unlit:Known P w₀ K mg base "refusal_of_unlit" 1 ["port"] (spRef t))
    (F_bag_is_full:Known P w₀ K mg base "bag_is_full" 1 ["world"] (spW t fun w=>.bl (Vbcnam.full w))) (F_ask:Known P w₀ K mg base "ask" 3 ["world","port","amount"] (spAsk t)) :
    FnOk P w₀ K mg base CX0 4 f fd ["world","numbers"] (spC t fun w ns r=>∃ i m:Nat,ns=[(i:Int),(m:Int)]∧i < w.ports.length ∧
      r=if refuse (pAt w i) < 0 then (w,[refuse (pAt w i)]) else if Vbcnam.full w=true then (w,[-4]) else
        (Vbcnam.put (setP w i { pAt w i with device:=some { dOf (pAt w i) with asked:=(dOf (pAt w i)).asked + 1 } }) (.wish i (dOf (pAt w i)).session ((dOf (pAt w i)).asked + 1) m),[0,((dOf (pAt w i)).asked:Int) + 1])):=by
  refine F.ok sc_answer_wish (fun vs H Q E h=>?_) (fun cdv A outer s H vs Q E hr h=>?_)
  · obtain ⟨_,_,_,_,_,_,rfl,_⟩:=h; rfl
  · obtain ⟨A,w,E,ln,ns,r,rfl,R,O,hln,⟨i,m,rfl,hi,er⟩,k⟩:=h
    have nd:=sc_answer_wish.nd
    refine ⟨_,(pss_cons (ps_set (i:=2) nd rfl (Or.inl rfl) (pe_ix (ix_listK (K:=K)) (pe_fl (K:=K) (pv 0)) (pe_ix (ix_listK (K:=K)) (pv 1) pe_int (fun _ _=>rfl)) (fun _ _=>rfl))) (pss_cons (ps_set (i:=3) nd rfl (Or.inl rfl) (pe_f F_refusal_of_unlit (hr.mono (by decide)) (pa_cons (pv 2) pa_nil))) (pss_cons (ps_if (pt_cmpR op_lt (pv 3) pe_int (nomark _)) (pss_one (ps_ret (pe_lst (pa_cons (pv 3) pa_nil)))) pss_nil) (pss_cons (ps_if (pt_val (pe_f F_bag_is_full (hr.mono (by decide)) (pa_cons (pv 0) pa_nil))) (pss_one (ps_ret (pe_lst (pa_cons (pe_gi T.i_BAG_FULL) pa_nil)))) pss_nil) (pss_cons (ps_expr (pe_f F_ask (hr.mono (by decide)) (pa_cons (pv 0) (pa_cons (pv 2) (pa_cons (pe_ix (ix_listK (K:=K)) (pv 1) pe_int (fun _ _=>rfl)) pa_nil))))) (pss_one (ps_ret (pe_lst (pa_cons pe_int (pa_cons (pe_fl (K:=K) (pe_fl (K:=K) (pv 2))) pa_nil)))))))))),?_⟩
    obtain ⟨dxw,hw⟩:=R.wld
    have hlnH:=R.sub hln
    refine ⟨_,rfl,r_world_ports T hw ⟨_,rfl,ln,_,_,.int i,rfl,rfl,SqL.of hlnH,rfl,_,_,_,_,rfl,rfl,SqL.of R.pls,at_port hi,?_⟩⟩
    refine ⟨_,rfl,A,w,E,i,rfl,R,O,hi,trivial,fun H1 R1=>?_⟩
    refine ⟨_,rfl,_,_,rfl,rfl,_,rfl,?_⟩
    by_cases hn:refuse (pAt w i) < 0
    · refine ite2 (fun _=>?_) (fun h=>absurd (decide_eq_true hn) h)
      rw [if_pos hn] at er
      subst er
      refine ⟨_,rfl,(by show 1≤sizeLine; decide),fun p hp=>?_⟩
      obtain ⟨e1,R5⟩:=R1.ans (o:=.lst (intV [refuse (pAt w i)])) hp
      exact k _ p e1 R5
    · refine ite2 (fun h=>absurd (of_decide_eq_true h) hn) (fun _=>?_)
      rw [if_neg hn] at er
      obtain ⟨y,hy⟩:∃ y,(pAt w i).device=some y:=by
        rcases refuse_cases (pAt w i) with ⟨_,e⟩ | ⟨y,h1,_,e⟩ | ⟨y,h1,_,_⟩
        · rw [e] at hn; exact absurd (by decide) hn
        · exact ⟨y,h1⟩
        · exact ⟨y,h1⟩
      rw [dOf_some hy] at er
      refine ⟨_,rfl,A,w,E,rfl,R1,O,fun H2 R2=>⟨_,rfl,?_⟩⟩
      cases hf:Vbcnam.full w with
      | true =>
        refine ite2 (fun _=>?_) (fun h=>absurd rfl h)
        rw [if_pos hf] at er
        subst er
        refine ⟨(by show 1≤sizeLine; decide),fun p hp=>?_⟩
        obtain ⟨e1,R5⟩:=R2.ans (o:=.lst (intV [-4])) hp
        exact k _ p e1 R5
      | false =>
        refine ite2 (fun h=>absurd h (by decide)) (fun _=>?_)
        rw [if_neg (by rw [hf]; decide)] at er
        subst er
        refine ⟨_,rfl,_,rfl,_,rfl,ln,_,_,.int m,rfl,rfl,SqL.of (R2.sub hln),rfl,A,w,E,i,m,y,rfl,R2,O,hi,hy,fun H3 R3=>?_⟩
        have hi3:i < (Vbcnam.put (setP w i { pAt w i with device:=some { y with asked:=y.asked + 1 } }) (.wish i y.session (y.asked + 1) m)).ports.length:=by rw [put_ports,plen]; exact hi
        have hy3:(pAt (Vbcnam.put (setP w i { pAt w i with device:=some { y with asked:=y.asked + 1 } }) (.wish i y.session (y.asked + 1) m)) i).device=some { y with asked:=y.asked + 1 }:=by rw [put_pAt,pAt_self hi]
        obtain ⟨dx,g,dv,dd,hp3,hd3⟩:=R3.pd hi3 hy3
        refine ⟨_,rfl,r_port_device T hp3 (r_dev_asked T hd3 ⟨(by show 2≤sizeLine; decide),fun p hp=>?_⟩)⟩
        obtain ⟨e1,R5⟩:=R3.ans (o:=.lst (intV [0,(y.asked:Int) + 1])) hp
        exact k _ p e1 R5
end
section
variable {t:Cas} {G:Gad} {gs:Nat→List Addr} {ms:List Addr} {H E:Hp} {w:VW} {i:Nat} {K:PySem.W.Frag} {mg:Str→Option Value} {u:V} {N:Hp→Prop}
def setS (w:VW) (i:Nat) (b:Bool):VW:={ w with supplies:=w.supplies.set i { sAt w i with on:=b } }
theorem slen {b:Bool}:(setS w i b).supplies.length=w.supplies.length:=List.length_set
theorem sAt_self {b:Bool} (hi:i < w.supplies.length):sAt (setS w i b) i={ sAt w i with on:=b }:=by
  unfold sAt setS
  show (w.supplies.set i _).getD i _=_
  rw [List.getD_eq_getElem?_getD,List.getElem?_set,if_pos rfl,if_pos hi]
  rfl
theorem sAt_other {b:Bool} {j:Nat} (hj:j≠i):sAt (setS w i b) j=sAt w j:=by
  unfold sAt setS
  show (w.supplies.set i _).getD j _=_
  rw [List.getD_eq_getElem?_getD,List.getD_eq_getElem?_getD,List.getElem?_set,if_neg (Ne.symm hj)]
theorem RepX.setS (R:RepX t G gs ms H w E) (hi:i < w.supplies.length) (b:Bool):RepX t G gs ms (upd H (G.ad (.su i)) (.ins t.CS (G.dx (.su i)) (supF { sAt w i with on:=b }))) (WP.setS w i b) E:=by
  refine R.put (.su i) hi (fun r=>?_) ?_ (fun r hr hl=>?_) rfl rfl fun j hj=>rfl
  · cases r with
    | su j=>show j < (WP.setS w i b).supplies.length↔_; rw [slen]; exact Iff.rfl
    | _=>exact Iff.rfl
  · show HO.ins t.CS (G.dx (.su i)) (supF (sAt (WP.setS w i b) i))=_
    rw [sAt_self hi]
  · cases r with
    | su j =>
      have hj:j≠i:=fun z=>hr (by rw [z])
      show HO.ins t.CS (G.dx (.su j)) (supF (sAt (WP.setS w i b) j))=HO.ins t.CS (G.dx (.su j)) (supF (sAt w j))
      rw [sAt_other hj]
    | sl =>
      show HO.lst (refs ((List.range (WP.setS w i b).supplies.length).map _))=HO.lst (refs ((List.range w.supplies.length).map _))
      rw [slen]
    | _=>rfl
theorem ws_on (T:Txt K mg t) (R:RepX t G gs ms H w E) (hi:i < w.supplies.length) {b:Bool} (hy:u=.int (bt b)) (q:∀ H',RepX t G gs ms H' (WP.setS w i b) E→N H'):WF K "on" u (.ref (G.ad (.su i))) H N :=
  w_sup_on T (R.at_ (.su i) hi) hy (q _ (R.setS hi b))
theorem RepX.redvI {x:VP} {q dd:Addr} {y:VD} {E':Hp} (R:RepX t G gs ms H (WP.setP w i x) E) (hi:i < w.ports.length) (hE:∀ b o,E' b=some o→E b=some o) (hq:E q=some (.ins t.CD dd (devF y))) (hq':E' q=none) :
    RepX t (reAd G i (G.ad (.gr i)) q dd) (fun j=>if j=i then gs i else gs j) ms (upd H (G.ad (.po i)) (.ins t.CP (G.dx (.po i)) (portF i { x with device:=some y } (G.ad (.gr i)) (.ref q)))) (WP.setP w i { x with device:=some y }) E':=by
  have z:=R.anew (i:=i) (by rw [plen]; exact hi) (g:=G.ad (.gr i)) (d:=q) (dd:=dd) (l:=gs i) { x with device:=some y } hE (.inl ⟨rfl,rfl,by rw [pAt_self hi]⟩) (.inr (.inr ⟨y,rfl,hq,hq'⟩))
  rw [setP_setP] at z
  exact z
theorem RepX.nodvI {x:VP} (R:RepX t G gs ms H (WP.setP w i x) E) (hi:i < w.ports.length) :
    RepX t (reAd G i (G.ad (.gr i)) (G.ad (.dv i)) (G.dx (.dv i))) (fun j=>if j=i then gs i else gs j) ms (upd H (G.ad (.po i)) (.ins t.CP (G.dx (.po i)) (portF i { x with device:=none } (G.ad (.gr i)) .non))) (WP.setP w i { x with device:=none }) E:=by
  have z:=R.anew (i:=i) (by rw [plen]; exact hi) (g:=G.ad (.gr i)) (d:=G.ad (.dv i)) (dd:=G.dx (.dv i)) (l:=gs i) { x with device:=none } (fun _ _ e=>e) (.inl ⟨rfl,rfl,by rw [pAt_self hi]⟩) (.inr (.inl rfl))
  rw [setP_setP] at z
  exact z
theorem initT {C dx p:Addr} {L:List (Str × V)} {f:Str} {y:V} (k:Nat) (cl:Cls K C) (na:NoAttr K C f) (hl:(L.take k).length < 1000) (he:putF f y (L.take k)=L.take (k + 1)) (q:N (upd H p (.ins C dx (L.take (k + 1))))):WF K f y (.ref p) (upd H p (.ins C dx (L.take k))) N :=
  ⟨p,C,dx,_,rfl,upd_same,cl,na,hl,by rw [upd_upd,he]; exact q⟩
end
section
variable {P:Program} {w₀:PySem.World} {K:PySem.W.Frag} {mg:Str→Option Value} {base:Heap} {t:Cas} {f:Addr} {fd:FuncData}
theorem ok_answer_supply (T:Txt K mg t) (F:Fun K "answer_supply" "answer_supply" s_answer_supply f fd)
    (F_cut_what_is_too_much:Known P w₀ K mg base "cut_what_is_too_much" 5 ["world"] (fun vs H Q _=>∃ (A:Rl→Addr) (w:VW) (E:Hp),vs=[.ref (A .wd)]∧Rep t A H w E∧Ok w∧∀ H',Rep t A H' (Vbcnam.safe w) E→Ok (Vbcnam.safe w)→Q .non H'))
    (F_power_view:Known P w₀ K mg base "power_view" 4 ["world"] (spV t powL)) :
    FnOk P w₀ K mg base CX0 6 f fd ["world","numbers"] (spC t fun w ns r=>∃ (i:Nat) (b:Bool),ns=[(i:Int),bt b]∧i < w.supplies.length∧r=if (sAt w i).on=b then (w,[-2]) else (Vbcnam.safe (setS w i b),Vbcnam.powers (Vbcnam.safe (setS w i b)))):=by
  refine F.ok sc_answer_supply (fun vs H Q E h=>?_) (fun cdv A outer s H vs Q E hr h=>?_)
  · obtain ⟨_,_,_,_,_,_,rfl,_⟩:=h; rfl
  · obtain ⟨A,w,E,ln,ns,r,rfl,R,O,hln,⟨i,b,rfl,hi,er⟩,k⟩:=h
    have nd:=sc_answer_supply.nd
    refine ⟨_,(pss_cons (ps_set (i:=2) nd rfl (Or.inl rfl) (pe_ix (ix_listK (K:=K)) (pe_fl (K:=K) (pv 0)) (pe_ix (ix_listK (K:=K)) (pv 1) pe_int (fun _ _=>rfl)) (fun _ _=>rfl))) (pss_cons (ps_if (pt_cmpR op_eq (pe_fl (K:=K) (pv 2)) (pe_ix (ix_listK (K:=K)) (pv 1) pe_int (fun _ _=>rfl)) (nomark _)) (pss_one (ps_ret (pe_lst (pa_cons (pe_gi T.i_WRONG_STATE) pa_nil)))) pss_nil) (pss_cons (ps_fl (K:=K) (pv 2) (pe_ix (ix_listK (K:=K)) (pv 1) pe_int (fun _ _=>rfl))) (pss_cons (ps_expr (pe_f F_cut_what_is_too_much (hr.mono (by decide)) (pa_cons (pv 0) pa_nil))) (pss_one (ps_ret (pe_op op_cat (pe_lst (pa_cons pe_int pa_nil)) (pe_f F_power_view (hr.mono (by decide)) (pa_cons (pv 0) pa_nil))))))))),?_⟩
    obtain ⟨dxw,hw⟩:=R.wld
    have hlnH:=R.sub hln
    refine ⟨_,rfl,r_world_supplies T hw ⟨_,rfl,ln,_,_,.int i,rfl,rfl,SqL.of hlnH,rfl,_,_,_,_,rfl,rfl,SqL.of R.sls,at_sup hi,?_⟩⟩
    obtain ⟨G,gs,ms,hA,RX⟩:=id R
    rw [← hA (.su i) rfl]
    refine ⟨_,rfl,r_sup_on T (RX.at_ (.su i) hi) ⟨_,rfl,ln,_,_,.int (bt b),rfl,rfl,SqL.of hlnH,rfl,rfl,_,rfl,?_⟩⟩
    have hbt:∀ {a c:Bool},V.int (bt a)=V.int (bt c)→a=c:=fun {a c} h=>by cases a <;> cases c <;> first | rfl | (injection h with h; cases h)
    by_cases hb:(sAt w i).on=b
    · refine ite2 (fun _=>?_) (fun h=>absurd (decide_eq_true (by rw [hb])) h)
      rw [if_pos hb] at er
      subst er
      refine ⟨(by show 1≤sizeLine; decide),fun p hp=>?_⟩
      obtain ⟨e1,R5⟩:=R.ans (o:=.lst (intV [-2])) hp
      exact k _ p e1 R5
    · refine ite2 (fun h=>absurd (hbt (of_decide_eq_true h)) hb) (fun _=>?_)
      rw [if_neg hb] at er
      subst er
      refine ⟨_,rfl,ln,_,_,.int (bt b),rfl,rfl,SqL.of hlnH,rfl,_,rfl,ws_on T RX hi (b:=b) rfl fun H1 R1=>?_⟩
      have O1:Ok (setS w i b):=⟨by rw [slen]; exact O.ns,O.np,O.cls,O.on,O.gl,O.bag,O.cap⟩
      exact ⟨_,rfl,A,_,E,rfl,⟨G,gs,ms,hA,R1⟩,O1,fun H2 R2 O2=>⟨(by show 1≤sizeLine; decide),fun p hp=>⟨_,rfl,cat0V (val:=powL) k R2 O2 (by show 4≤1000; decide) hp⟩⟩⟩
def sp_Device (t:Cas):Sp:=fun vs H Q _=>∃ (p dx:Addr) (H0:Hp) (c:Nat),vs=[.ref p,.int c]∧H=upd H0 p (.ins t.CD dx [])∧Q .non (upd H0 p (.ins t.CD dx (devF { cls:=c })))
theorem ok_Device__init__ (T:Txt K mg t) (F:Fun K "__init__" "Device.__init__" s_Device__init__ f fd):FnOk P w₀ K mg base CX0 1 f fd ["self","power_class"] (sp_Device t):=by
  refine F.ok sc_Device__init__ (fun vs H Q E h=>?_) (fun cdv A outer s H vs Q E hr h=>?_)
  · obtain ⟨_,_,_,_,rfl,_⟩:=h; rfl
  · obtain ⟨p,dx,H0,c,rfl,rfl,q⟩:=h
    have nd:=sc_Device__init__.nd
    refine ⟨_,(pss_cons (ps_fl (K:=K) (pv 0) (pv 1)) (pss_cons (ps_fl (K:=K) (pv 0) pe_int) (pss_cons (ps_fl (K:=K) (pv 0) pe_int) (pss_cons (ps_fl (K:=K) (pv 0) pe_int) (pss_cons (ps_fl (K:=K) (pv 0) pe_int) (pss_one (ps_fl (K:=K) (pv 0) pe_int))))))),?_⟩
    refine ⟨_,rfl,_,rfl,initT (p:=p) (L:=devF { cls:=c }) 0 T.cl_dev (na T.na_dev (by decide +kernel)) (by show 0 < 1000; decide) (by kernel_rfl) ?_⟩
    refine ⟨_,rfl,initT (p:=p) (L:=devF { cls:=c }) 1 T.cl_dev (na T.na_dev (by decide +kernel)) (by show 1 < 1000; decide) (by kernel_rfl) ?_⟩
    refine ⟨_,rfl,initT (p:=p) (L:=devF { cls:=c }) 2 T.cl_dev (na T.na_dev (by decide +kernel)) (by show 2 < 1000; decide) (by kernel_rfl) ?_⟩
    refine ⟨_,rfl,initT (p:=p) (L:=devF { cls:=c }) 3 T.cl_dev (na T.na_dev (by decide +kernel)) (by show 3 < 1000; decide) (by kernel_rfl) ?_⟩
    refine ⟨_,rfl,initT (p:=p) (L:=devF { cls:=c }) 4 T.cl_dev (na T.na_dev (by decide +kernel)) (by show 4 < 1000; decide) (by kernel_rfl) ?_⟩
    refine ⟨_,rfl,initT (p:=p) (L:=devF { cls:=c }) 5 T.cl_dev (na T.na_dev (by decide +kernel)) (by show 5 < 1000; decide) (by kernel_rfl) ?_⟩
    exact q
def sp_Supply (t:Cas):Sp:=fun vs H Q _=>∃ (p dx:Addr) (H0:Hp) (c:Nat),vs=[.ref p,.int c]∧H=upd H0 p (.ins t.CS dx [])∧Q .non (upd H0 p (.ins t.CS dx (supF { watts:=c })))
theorem ok_Supply__init__ (T:Txt K mg t) (F:Fun K "__init__" "Supply.__init__" s_Supply__init__ f fd):FnOk P w₀ K mg base CX0 1 f fd ["self","amount"] (sp_Supply t):=by
  refine F.ok sc_Supply__init__ (fun vs H Q E h=>?_) (fun cdv A outer s H vs Q E hr h=>?_)
  · obtain ⟨_,_,_,_,rfl,_⟩:=h; rfl
  · obtain ⟨p,dx,H0,c,rfl,rfl,q⟩:=h
    have nd:=sc_Supply__init__.nd
    refine ⟨_,(pss_cons (ps_fl (K:=K) (pv 0) (pv 1)) (pss_one (ps_fl (K:=K) (pv 0) pe_int))),?_⟩
    refine ⟨_,rfl,_,rfl,initT (p:=p) (L:=supF { watts:=c }) 0 T.cl_sup (na T.na_sup (by decide +kernel)) (by show 0 < 1000; decide) (by kernel_rfl) ?_⟩
    refine ⟨_,rfl,initT (p:=p) (L:=supF { watts:=c }) 1 T.cl_sup (na T.na_sup (by decide +kernel)) (by show 1 < 1000; decide) (by kernel_rfl) ?_⟩
    exact q
def sp_Line (t:Cas):Sp:=fun vs H Q _=>∃ (p dx:Addr) (H0:Hp),vs=[.ref p]∧H=upd H0 p (.ins t.CL dx [])∧Q .non (upd H0 p (.ins t.CL dx (lineF .non)))
theorem ok_Line__init__ (T:Txt K mg t) (F:Fun K "__init__" "Line.__init__" s_Line__init__ f fd):FnOk P w₀ K mg base CX0 1 f fd ["self"] (sp_Line t):=by
  refine F.ok sc_Line__init__ (fun vs H Q E h=>?_) (fun cdv A outer s H vs Q E hr h=>?_)
  · obtain ⟨_,_,_,rfl,_⟩:=h; rfl
  · obtain ⟨p,dx,H0,rfl,rfl,q⟩:=h
    have nd:=sc_Line__init__.nd
    refine ⟨_,(pss_one (ps_fl (K:=K) (pv 0) pe_non)),?_⟩
    refine ⟨_,rfl,initT (p:=p) (L:=lineF .non) 0 T.cl_line (na T.na_line (by decide +kernel)) (by show 0 < 1000; decide) (by kernel_rfl) ?_⟩
    exact q
def sp_Port (t:Cas):Sp:=fun vs H Q _=>∃ (p dx:Addr) (H0:Hp) (i:Nat),vs=[.ref p,.int i]∧H=upd H0 p (.ins t.CP dx [])∧∀ g,g≠p→H0 g=none→Q .non (upd (upd H0 g (.lst [])) p (.ins t.CP dx (portF i {} g .non)))
theorem ok_Port__init__ (T:Txt K mg t) (F:Fun K "__init__" "Port.__init__" s_Port__init__ f fd):FnOk P w₀ K mg base CX0 1 f fd ["self","place"] (sp_Port t):=by
  refine F.ok sc_Port__init__ (fun vs H Q E h=>?_) (fun cdv A outer s H vs Q E hr h=>?_)
  · obtain ⟨_,_,_,_,rfl,_⟩:=h; rfl
  · obtain ⟨p,dx,H0,i,rfl,rfl,q⟩:=h
    have nd:=sc_Port__init__.nd
    refine ⟨_,(pss_cons (ps_fl (K:=K) (pv 0) (pv 1)) (pss_cons (ps_fl (K:=K) (pv 0) pe_int) (pss_cons (ps_fl (K:=K) (pv 0) pe_int) (pss_cons (ps_fl (K:=K) (pv 0) (pe_gi T.i_FIRST_MOST)) (pss_cons (ps_fl (K:=K) (pv 0) pe_int) (pss_cons (ps_fl (K:=K) (pv 0) pe_int) (pss_cons (ps_fl (K:=K) (pv 0) pe_int) (pss_cons (ps_fl (K:=K) (pv 0) pe_int) (pss_cons (ps_fl (K:=K) (pv 0) (pe_lst pa_nil)) (pss_cons (ps_fl (K:=K) (pv 0) pe_int) (pss_cons (ps_fl (K:=K) (pv 0) pe_int) (pss_cons (ps_fl (K:=K) (pv 0) pe_int) (pss_one (ps_fl (K:=K) (pv 0) pe_non)))))))))))))),?_⟩
    refine ⟨_,rfl,_,rfl,initT (p:=p) (L:=portF i {} p .non) 0 T.cl_port (na T.na_port (by decide +kernel)) (by show 0 < 1000; decide) (by kernel_rfl) ?_⟩
    refine ⟨_,rfl,initT (p:=p) (L:=portF i {} p .non) 1 T.cl_port (na T.na_port (by decide +kernel)) (by show 1 < 1000; decide) (by kernel_rfl) ?_⟩
    refine ⟨_,rfl,initT (p:=p) (L:=portF i {} p .non) 2 T.cl_port (na T.na_port (by decide +kernel)) (by show 2 < 1000; decide) (by kernel_rfl) ?_⟩
    refine ⟨_,rfl,initT (p:=p) (L:=portF i {} p .non) 3 T.cl_port (na T.na_port (by decide +kernel)) (by show 3 < 1000; decide) (by kernel_rfl) ?_⟩
    refine ⟨_,rfl,initT (p:=p) (L:=portF i {} p .non) 4 T.cl_port (na T.na_port (by decide +kernel)) (by show 4 < 1000; decide) (by kernel_rfl) ?_⟩
    refine ⟨_,rfl,initT (p:=p) (L:=portF i {} p .non) 5 T.cl_port (na T.na_port (by decide +kernel)) (by show 5 < 1000; decide) (by kernel_rfl) ?_⟩
    refine ⟨_,rfl,initT (p:=p) (L:=portF i {} p .non) 6 T.cl_port (na T.na_port (by decide +kernel)) (by show 6 < 1000; decide) (by kernel_rfl) ?_⟩
    refine ⟨_,rfl,initT (p:=p) (L:=portF i {} p .non) 7 T.cl_port (na T.na_port (by decide +kernel)) (by show 7 < 1000; decide) (by kernel_rfl) ?_⟩
    refine ⟨(by show 0≤sizeLine; decide),fun g hg=>?_⟩
    have ng:g≠p:=fun z=>by subst z; rw [upd_same] at hg; cases hg
    rw [upd_ne ng] at hg
    rw [upd_comm (Ne.symm ng)]
    show ∃ x,_∧_
    refine ⟨_,rfl,initT (p:=p) (L:=portF i {} g .non) 8 T.cl_port (na T.na_port (by decide +kernel)) (by show 8 < 1000; decide) (by kernel_rfl) ?_⟩
    refine ⟨_,rfl,initT (p:=p) (L:=portF i {} g .non) 9 T.cl_port (na T.na_port (by decide +kernel)) (by show 9 < 1000; decide) (by kernel_rfl) ?_⟩
    refine ⟨_,rfl,initT (p:=p) (L:=portF i {} g .non) 10 T.cl_port (na T.na_port (by decide +kernel)) (by show 10 < 1000; decide) (by kernel_rfl) ?_⟩
    refine ⟨_,rfl,initT (p:=p) (L:=portF i {} g .non) 11 T.cl_port (na T.na_port (by decide +kernel)) (by show 11 < 1000; decide) (by kernel_rfl) ?_⟩
    refine ⟨_,rfl,initT (p:=p) (L:=portF i {} g .non) 12 T.cl_port (na T.na_port (by decide +kernel)) (by show 12 < 1000; decide) (by kernel_rfl) ?_⟩
    exact q g ng hg
theorem ok_answer_unplug (T:Txt K mg t) (F:Fun K "answer_unplug" "answer_unplug" s_answer_unplug f fd) (F_cut:Known P w₀ K mg base "cut" 2 ["port"] (spM t (fun _=>True) Vbcnam.cut)) :
    FnOk P w₀ K mg base CX0 3 f fd ["world","numbers"] (spC t fun w ns r=>∃ i:Nat,ns=[(i:Int)]∧i < w.ports.length∧r=if (pAt w i).device=none then (w,[-2]) else (setP w i { Vbcnam.cut (pAt w i) with device:=none },[0])):=by
  refine F.ok sc_answer_unplug (fun vs H Q E h=>?_) (fun cdv A outer s H vs Q E hr h=>?_)
  · obtain ⟨_,_,_,_,_,_,rfl,_⟩:=h; rfl
  · obtain ⟨A,w,E,ln,ns,r,rfl,R,O,hln,⟨i,rfl,hi,er⟩,k⟩:=h
    have nd:=sc_answer_unplug.nd
    refine ⟨_,(pss_cons (ps_set (i:=2) nd rfl (Or.inl rfl) (pe_ix (ix_listK (K:=K)) (pe_fl (K:=K) (pv 0)) (pe_ix (ix_listK (K:=K)) (pv 1) pe_int (fun _ _=>rfl)) (fun _ _=>rfl))) (pss_cons (ps_if (pt_cmpR op_isN (pe_fl (K:=K) (pv 2)) pe_non (nomark _)) (pss_one (ps_ret (pe_lst (pa_cons (pe_gi T.i_WRONG_STATE) pa_nil)))) pss_nil) (pss_cons (ps_expr (pe_f F_cut (hr.mono (by decide)) (pa_cons (pv 2) pa_nil))) (pss_cons (ps_fl (K:=K) (pv 2) pe_non) (pss_one (ps_ret (pe_lst (pa_cons pe_int pa_nil)))))))),?_⟩
    obtain ⟨dxw,hw⟩:=R.wld
    have hlnH:=R.sub hln
    refine ⟨_,rfl,r_world_ports T hw ⟨_,rfl,ln,_,_,.int i,rfl,rfl,SqL.of hlnH,rfl,_,_,_,_,rfl,rfl,SqL.of R.pls,at_port hi,?_⟩⟩
    obtain ⟨G,gs,ms,hA,RX⟩:=id R
    cases hd:(pAt w i).device with
    | none =>
      rw [if_pos hd] at er
      subst er
      rw [← hA (.po i) rfl]
      refine ⟨_,rfl,r_port_device T (RX.prtN hi hd) ⟨rfl,_,rfl,?_⟩⟩
      refine ite2 (fun _=>?_) (fun h=>absurd rfl h)
      refine ⟨(by show 1≤sizeLine; decide),fun p hp=>?_⟩
      obtain ⟨e1,R5⟩:=R.ans (o:=.lst (intV [-2])) hp
      exact k _ p e1 R5
    | some y =>
      rw [if_neg (by rw [hd]; simp)] at er
      subst er
      have hpo:=RX.prtD hi hd
      rw [hA (.po i) rfl] at hpo
      refine ⟨_,rfl,r_port_device T hpo ⟨rfl,_,rfl,?_⟩⟩
      refine ite2 (fun h=>nomatch of_decide_eq_true h) (fun _=>?_)
      refine ⟨_,rfl,A,w,E,i,rfl,R,O,hi,trivial,fun H1 R1=>?_⟩
      obtain ⟨G1,gs1,ms1,hA1,RX1⟩:=R1
      rw [← hA1 (.po i) rfl]
      refine ⟨_,rfl,w_port_device T (RX1.prtI hi) rfl ⟨(by show 1≤sizeLine; decide),fun p hp=>?_⟩⟩
      obtain ⟨e1,R5⟩:=Rep.ans (A:=A) (o:=.lst (intV [0])) ⟨_,_,ms1,reAd_fix hA1,RX1.nodvI hi⟩ hp
      exact k _ p e1 R5
end
section
variable {P:Program} {w₀:PySem.World} {K:PySem.W.Frag} {mg:Str→Option Value} {base:Heap} {t:Cas} {f:Addr} {fd:FuncData}
theorem ok_answer_plug (T:Txt K mg t) (F:Fun K "answer_plug" "answer_plug" s_answer_plug f fd) (M_Device:KnownC P w₀ K mg base "Device" t.CD 1 ["self","power_class"] (sp_Device t)) :
    FnOk P w₀ K mg base CX0 3 f fd ["world","numbers"] (spC t fun w ns r=>∃ i c:Nat,ns=[(i:Int),(c:Int)]∧i < w.ports.length∧r=if (pAt w i).device.isSome=true then (w,[-2]) else (setP w i { pAt w i with device:=some { cls:=c } },[0])):=by
  refine F.ok sc_answer_plug (fun vs H Q E h=>?_) (fun cdv A outer s H vs Q E hr h=>?_)
  · obtain ⟨_,_,_,_,_,_,rfl,_⟩:=h; rfl
  · obtain ⟨A,w,E,ln,ns,r,rfl,R,O,hln,⟨i,c,rfl,hi,er⟩,k⟩:=h
    have nd:=sc_answer_plug.nd
    refine ⟨_,(pss_cons (ps_set (i:=2) nd rfl (Or.inl rfl) (pe_ix (ix_listK (K:=K)) (pe_fl (K:=K) (pv 0)) (pe_ix (ix_listK (K:=K)) (pv 1) pe_int (fun _ _=>rfl)) (fun _ _=>rfl))) (pss_cons (ps_if (pt_cmpR op_notN (pe_fl (K:=K) (pv 2)) pe_non (nomark _)) (pss_one (ps_ret (pe_lst (pa_cons (pe_gi T.i_WRONG_STATE) pa_nil)))) pss_nil) (pss_cons (ps_fl (K:=K) (pv 2) (pe_mk M_Device (hr.mono (by decide)) (pa_cons (pe_ix (ix_listK (K:=K)) (pv 1) pe_int (fun _ _=>rfl)) pa_nil))) (pss_one (ps_ret (pe_lst (pa_cons pe_int pa_nil))))))),?_⟩
    obtain ⟨dxw,hw⟩:=R.wld
    have hlnH:=R.sub hln
    refine ⟨_,rfl,r_world_ports T hw ⟨_,rfl,ln,_,_,.int i,rfl,rfl,SqL.of hlnH,rfl,_,_,_,_,rfl,rfl,SqL.of R.pls,at_port hi,?_⟩⟩
    obtain ⟨G,gs,ms,hA,RX⟩:=id R
    rw [← hA (.po i) rfl]
    cases hd:(pAt w i).device with
    | some y =>
      rw [if_pos (by rw [hd]; rfl)] at er
      subst er
      refine ⟨_,rfl,r_port_device T (RX.prtD hi hd) ⟨rfl,_,rfl,?_⟩⟩
      refine ite2 (fun _=>?_) (fun h=>absurd rfl h)
      refine ⟨(by show 1≤sizeLine; decide),fun p hp=>?_⟩
      obtain ⟨e1,R5⟩:=R.ans (o:=.lst (intV [-2])) hp
      exact k _ p e1 R5
    | none =>
      rw [if_neg (by rw [hd]; simp)] at er
      subst er
      refine ⟨_,rfl,r_port_device T (RX.prtN hi hd) ⟨rfl,_,rfl,?_⟩⟩
      refine ite2 (fun h=>nomatch h) (fun _=>?_)
      refine ⟨_,rfl,ln,_,_,.int c,rfl,rfl,SqL.of hlnH,rfl,fun q dd hq hdd hne=>?_⟩
      refine ⟨q,dd,_,c,rfl,rfl,rfl,?_⟩
      have RI:=RX.toI hi
      have Eq:E q=none:=(R.ans (o:=.lst []) hq).1
      have R1:=RI.ext (o:=.own q) hdd
      have hq1:upd H dd (.own q) q=none:=by rw [upd_ne (Ne.symm hne)]; exact hq
      have R2:=R1.ext (o:=.ins t.CD dd (devF { cls:=c })) hq1
      have R3:=R2.redvI hi (E':=E) (q:=q) (dd:=dd) (y:={ cls:=c }) (fun b o e=>by
        have hb:b≠q:=fun z=>by rw [z,Eq] at e; cases e
        rw [upd_ne hb]
        by_cases hbd:b=dd
        · exfalso; rw [hbd] at e; rw [(RX.fr dd o e).1] at hdd; cases hdd
        · rw [upd_ne hbd]; exact e) upd_same Eq
      refine ⟨_,rfl,w_port_device T (R2.prtI hi) rfl ⟨(by show 1≤sizeLine; decide),fun p hp=>?_⟩⟩
      obtain ⟨e1,R5⟩:=Rep.ans (A:=A) (o:=.lst (intV [0])) ⟨_,_,ms,reAd_fix hA,R3⟩ hp
      exact k _ p e1 R5
end
structure Frm (t:Cas) (H E:Hp):Prop where
  fr:∀ b o,E b=some o→H b=some o
  tab:TabGood lPos lQual t.T H
  et:E t.T=none
structure Bld (t:Cas) (G:Rl→Addr) (L:Rl→Prop) (c:Rl→HO) (H E:Hp):Prop where
  at_:∀ r,L r→H (G r)=some (c r)
  inj:∀ r r',L r→L r'→G r=G r'→r=r'
  fr:∀ b o,E b=some o→H b=some o∧∀ r,L r→G r≠b
  tab:TabGood lPos lQual t.T H
  et:E t.T=none
section
variable {t:Cas} {G G':Rl→Addr} {L L':Rl→Prop} {c c':Rl→HO} {H E:Hp}
theorem Bld.nil (F:Frm t H E):Bld t G (fun _=>False) c H E:=⟨fun _ h=>h.elim,fun _ _ h=>h.elim,fun b o e=>⟨F.fr b o e,fun _ h=>h.elim⟩,F.tab,F.et⟩
theorem Bld.add (B:Bld t G L c H E) (r0:Rl) {a:Addr} {o:HO} (ha:H a=none) (h0:G' r0=a) (hG:∀ r,L r→G' r=G r) (hL:∀ r,L' r→r=r0∨L r) (k0:c' r0=o) (hc:∀ r,L r→c' r=c r) (hn:¬ L r0):Bld t G' L' c' (upd H a o) E where
  at_:=fun r h=>by
    rcases hL r h with rfl | h'
    · rw [h0,upd_same,k0]
    · rw [hG r h',upd_ne (ne_of_none (B.at_ r h') ha),hc r h']
      exact B.at_ r h'
  inj:=fun r r' h h' e=>by
    rcases hL r h with rfl | k
    · rcases hL r' h' with rfl | k'
      · rfl
      · rw [h0,hG r' k'] at e
        exact absurd e.symm (ne_of_none (B.at_ r' k') ha)
    · rcases hL r' h' with rfl | k'
      · rw [h0,hG r k] at e
        exact absurd e (ne_of_none (B.at_ r k) ha)
      · rw [hG r k,hG r' k'] at e
        exact B.inj r r' k k' e
  fr:=fun b o' e=>by
    obtain ⟨h1,h2⟩:=B.fr b o' e
    have hb:b≠a:=ne_of_none h1 ha
    refine ⟨by rw [upd_ne hb]; exact h1,fun r h=>?_⟩
    rcases hL r h with rfl | k
    · rw [h0]; exact Ne.symm hb
    · rw [hG r k]; exact h2 r k
  tab:=tab_upd (.inl ha) B.tab
  et:=B.et
theorem Bld.set (B:Bld t G L c H E) (r0:Rl) {o:HO} (hl:L r0) (hs:Soft (c r0)) (k0:c' r0=o) (hc:∀ r,r≠r0→L r→c' r=c r):Bld t G L c' (upd H (G r0) o) E where
  at_:=fun r h=>by
    by_cases e:r=r0
    · subst e; rw [upd_same,k0]
    · rw [upd_ne (fun z=>e (B.inj r r0 h hl z)),hc r e h]
      exact B.at_ r h
  inj:=B.inj
  fr:=fun b o' e=>by
    obtain ⟨h1,h2⟩:=B.fr b o' e
    exact ⟨by rw [upd_ne (fun z=>h2 r0 hl z.symm)]; exact h1,h2⟩
  tab:=tab_upd (.inr ⟨_,B.at_ r0 hl,hs⟩) B.tab
  et:=B.et
theorem Bld.ext (B:Bld t G L c H E) {a:Addr} {o:HO} (ha:H a=none):Bld t G L c (upd H a o) E where
  at_:=fun r h=>by rw [upd_ne (ne_of_none (B.at_ r h) ha)]; exact B.at_ r h
  inj:=B.inj
  fr:=fun b o' e=>by
    obtain ⟨h1,h2⟩:=B.fr b o' e
    exact ⟨by rw [upd_ne (ne_of_none h1 ha)]; exact h1,h2⟩
  tab:=tab_upd (.inl ha) B.tab
  et:=B.et
end
def world0 (n cap:Nat) (sp:Bool) (l:List Nat):VW:={ cap:=cap,spare:=sp,supplies:=l.map fun m=>{ watts:=m },ports:=List.replicate n {} }
structure Far where
  sl:Bool
  su:Nat
  pl:Bool
  po:Nat
  gr:Nat
  bg:Bool
def Far.L (f:Far):Rl→Prop
  | .wd=>True
  | .sl=>f.sl=true
  | .pl=>f.pl=true
  | .bg=>f.bg=true
  | .su i=>i < f.su
  | .po i=>i < f.po
  | .gr i=>i < f.gr
  | .dv _=>False
def Far.c (f:Far) (t:Cas) (G:Gad) (w:VW) (xw:HO):Rl→HO
  | .wd=>xw
  | .sl=>.lst (refs ((List.range f.su).map fun i=>G.ad (.su i)))
  | .pl=>.lst (refs ((List.range f.po).map fun i=>G.ad (.po i)))
  | .bg=>.lst []
  | .su i=>.ins t.CS (G.dx (.su i)) (supF (sAt w i))
  | .po i=>.ins t.CP (G.dx (.po i)) (portF i {} (G.ad (.gr i)) .non)
  | .gr _=>.lst []
  | .dv _=>.lst []
def Gad.at (G:Gad) (r:Rl) (a d:Addr):Gad:=⟨fun x=>if x=r then a else G.ad x,fun x=>if x=r then d else G.dx x⟩
theorem Gad.at_same {G:Gad} {r:Rl} {a d:Addr}:(G.at r a d).ad r=a∧(G.at r a d).dx r=d:=⟨if_pos rfl,if_pos rfl⟩
theorem Gad.at_ne {G:Gad} {r x:Rl} {a d:Addr} (h:x≠r):(G.at r a d).ad x=G.ad x∧(G.at r a d).dx x=G.dx x:=⟨if_neg h,if_neg h⟩
section
variable {t:Cas} {G:Gad} {H E:Hp} {w:VW} {xw:HO}
theorem sAt0 {n cap:Nat} {sp:Bool} {l:List Nat} {i m:Nat} (h:l[i]?=some m):sAt (world0 n cap sp l) i={ watts:=m }:=by
  show (l.map fun m=>({ watts:=m }:VS)).getD i { watts:=0 }=_
  rw [List.getD_eq_getElem?_getD,List.getElem?_map,h]
  rfl
theorem pAt0 {n cap:Nat} {sp:Bool} {l:List Nat} {i:Nat}:pAt (world0 n cap sp l) i={}:=by
  show (List.replicate n ({}:VP)).getD i {}=_
  rw [List.getD_eq_getElem?_getD]
  by_cases h:i < n
  · rw [List.getElem?_replicate,if_pos h]; rfl
  · rw [List.getElem?_replicate,if_neg h]; rfl
theorem refs_snoc {n:Nat} {g:Nat→Addr}:refs ((List.range (n + 1)).map g)=refs ((List.range n).map g) ++ [.ref (g n)]:=by
  unfold refs
  rw [List.range_succ,List.map_append,List.map_append]
  rfl
theorem Bld.sup {f:Far} (B:Bld t G.ad f.L (f.c t G w xw) H E) (hsl:f.sl=true) (hp0:f.po=0) {x dx:Addr} (hx:H x=none) (hdx:H dx=none) (hne:dx≠x) :
    Bld t (G.at (.su f.su) x dx).ad { f with su:=f.su + 1 }.L ({ f with su:=f.su + 1 }.c t (G.at (.su f.su) x dx) w xw)
      (upd (upd (upd H dx (.own x)) x (.ins t.CS dx (supF (sAt w f.su)))) (G.ad .sl) (.lst (refs ((List.range f.su).map fun i=>G.ad (.su i)) ++ [.ref x]))) E:=by
  have B1:=B.ext (o:=.own x) hdx
  have hx1:upd H dx (.own x) x=none:=by rw [upd_ne (Ne.symm hne)]; exact hx
  have ne:∀ r,f.L r→r≠.su f.su:=fun r h z=>by subst z; exact Nat.lt_irrefl _ h
  have B2:=B1.add (.su f.su) (G':=(G.at (.su f.su) x dx).ad) (L':={ f with su:=f.su + 1 }.L) (c':=f.c t (G.at (.su f.su) x dx) w xw) (o:=.ins t.CS dx (supF (sAt w f.su))) hx1 Gad.at_same.1 (fun r h=>(Gad.at_ne (ne r h)).1)
    (fun r h=>by
      cases r with
      | su i =>
        by_cases e:i=f.su
        · exact .inl (by rw [e])
        · have h:i < f.su + 1:=h
          exact .inr (show i < f.su by omega)
      | _=>exact .inr h) (by show HO.ins t.CS _ _=_; rw [Gad.at_same.2]) (fun r h=>?_) (fun h=>Nat.lt_irrefl _ h)
  · have esl:(G.at (.su f.su) x dx).ad .sl=G.ad .sl:=(Gad.at_ne (by simp)).1
    rw [← esl]
    refine B2.set .sl hsl trivial ?_ (fun r hr h=>?_)
    · show HO.lst (refs ((List.range (f.su + 1)).map _))=_
      rw [refs_snoc,Gad.at_same.1]
      congr 3
      exact List.map_congr_left fun i hi=>(Gad.at_ne (by simp; have:=List.mem_range.mp hi; omega)).1
    · cases r <;> first | rfl | exact absurd rfl hr
  · cases r with
    | su i=>show HO.ins t.CS ((G.at (.su f.su) x dx).dx (.su i)) _=_; rw [(Gad.at_ne (ne _ h)).2]; rfl
    | sl =>
      show HO.lst (refs ((List.range f.su).map _))=HO.lst (refs ((List.range f.su).map _))
      congr 2
      exact List.map_congr_left fun i hi=>(Gad.at_ne (by simp; have:=List.mem_range.mp hi; omega)).1
    | pl =>
      show HO.lst (refs ((List.range f.po).map _))=HO.lst (refs ((List.range f.po).map _))
      rw [hp0]; rfl
    | po i=>have h:i < f.po:=h; rw [hp0] at h; exact absurd h (Nat.not_lt_zero _)
    | _=>rfl
theorem Bld.prt {f:Far} (B:Bld t G.ad f.L (f.c t G w xw) H E) (hpl:f.pl=true) (hg:f.gr=f.po) {x dx g:Addr} (hx:H x=none) (hdx:H dx=none) (hne:dx≠x) (hgx:g≠x) (hgn:upd H dx (.own x) g=none) :
    Bld t ((G.at (.gr f.po) g g).at (.po f.po) x dx).ad { f with po:=f.po + 1,gr:=f.po + 1 }.L ({ f with po:=f.po + 1,gr:=f.po + 1 }.c t ((G.at (.gr f.po) g g).at (.po f.po) x dx) w xw)
      (upd (upd (upd (upd H dx (.own x)) g (.lst [])) x (.ins t.CP dx (portF f.po {} g .non))) (G.ad .pl) (.lst (refs ((List.range f.po).map fun i=>G.ad (.po i)) ++ [.ref x]))) E:=by
  have B1:=B.ext (o:=.own x) hdx
  have neg:∀ r,f.L r→r≠.gr f.po:=fun r h z=>by subst z; have h:f.po < f.gr:=h; omega
  have nep:∀ r,f.L r→r≠.po f.po:=fun r h z=>by subst z; exact Nat.lt_irrefl _ h
  have B2:=B1.add (.gr f.po) (G':=(G.at (.gr f.po) g g).ad) (L':={ f with gr:=f.po + 1 }.L) (c':=f.c t (G.at (.gr f.po) g g) w xw) (o:=.lst []) hgn Gad.at_same.1 (fun r h=>(Gad.at_ne (neg r h)).1)
    (fun r h=>by
      cases r with
      | gr i =>
        by_cases e:i=f.po
        · exact .inl (by rw [e])
        · have h:i < f.po + 1:=h
          exact .inr (show i < f.gr by omega)
      | _=>exact .inr h) rfl (fun r h=>?_) (fun h=>by have h:f.po < f.gr:=h; omega)
  · have hx2:upd (upd H dx (.own x)) g (.lst []) x=none:=by rw [upd_ne (Ne.symm hgx),upd_ne (Ne.symm hne)]; exact hx
    have B3:=B2.add (.po f.po) (G':=((G.at (.gr f.po) g g).at (.po f.po) x dx).ad) (L':={ f with po:=f.po + 1,gr:=f.po + 1 }.L) (c':=f.c t ((G.at (.gr f.po) g g).at (.po f.po) x dx) w xw) (o:=.ins t.CP dx (portF f.po {} g .non)) hx2 Gad.at_same.1
      (fun r h=>(Gad.at_ne (fun z=>by subst z; exact Nat.lt_irrefl _ h)).1)
      (fun r h=>by
        cases r with
        | po i =>
          by_cases e:i=f.po
          · exact .inl (by rw [e])
          · have h:i < f.po + 1:=h
            exact .inr (show i < f.po by omega)
        | _=>exact .inr h) (by show HO.ins t.CP _ _=_; rw [Gad.at_same.2,(Gad.at_ne (by simp)).1,Gad.at_same.1]) (fun r h=>?_) (fun h=>Nat.lt_irrefl _ h)
    · have epl:((G.at (.gr f.po) g g).at (.po f.po) x dx).ad .pl=G.ad .pl:=by rw [(Gad.at_ne (by simp)).1,(Gad.at_ne (by simp)).1]
      rw [← epl]
      refine B3.set .pl hpl trivial ?_ (fun r hr h=>?_)
      · show HO.lst (refs ((List.range (f.po + 1)).map _))=_
        rw [refs_snoc,Gad.at_same.1]
        congr 3
        exact List.map_congr_left fun i hi=>by rw [(Gad.at_ne (by simp; have:=List.mem_range.mp hi; omega)).1,(Gad.at_ne (by simp)).1]
      · cases r <;> first | rfl | exact absurd rfl hr
    · cases r with
      | po i =>
        have h:i < f.po:=h
        show HO.ins t.CP (((G.at (.gr f.po) g g).at (.po f.po) x dx).dx (.po i)) (portF i {} (((G.at (.gr f.po) g g).at (.po f.po) x dx).ad (.gr i)) .non)=HO.ins t.CP ((G.at (.gr f.po) g g).dx (.po i)) (portF i {} ((G.at (.gr f.po) g g).ad (.gr i)) .non)
        rw [(Gad.at_ne (by simp; omega)).2,(Gad.at_ne (by simp)).1]
      | su i=>show HO.ins t.CS (((G.at (.gr f.po) g g).at (.po f.po) x dx).dx (.su i)) _=HO.ins t.CS ((G.at (.gr f.po) g g).dx (.su i)) _; rw [(Gad.at_ne (by simp)).2]
      | sl =>
        show HO.lst (refs ((List.range f.su).map _))=HO.lst (refs ((List.range f.su).map _))
        congr 2
      | pl =>
        show HO.lst (refs ((List.range f.po).map _))=HO.lst (refs ((List.range f.po).map _))
        congr 2
        exact List.map_congr_left fun i hi=>(Gad.at_ne (by simp; have:=List.mem_range.mp hi; omega)).1
      | _=>rfl
  · cases r with
    | po i =>
      have h:i < f.po:=h
      show HO.ins t.CP ((G.at (.gr f.po) g g).dx (.po i)) (portF i {} ((G.at (.gr f.po) g g).ad (.gr i)) .non)=HO.ins t.CP (G.dx (.po i)) (portF i {} (G.ad (.gr i)) .non)
      rw [(Gad.at_ne (by simp)).2,(Gad.at_ne (by simp; omega)).1]
    | su i=>show HO.ins t.CS ((G.at (.gr f.po) g g).dx (.su i)) _=HO.ins t.CS (G.dx (.su i)) _; rw [(Gad.at_ne (by simp)).2]
    | sl=>rfl
    | pl=>rfl
    | _=>rfl
theorem Bld.lsts {f f':Far} {r0:Rl} (B:Bld t G.ad f.L (f.c t G w xw) H E) (h0:¬ f.L r0) {a:Addr} (ha:H a=none) (hr:fixd r0=true) (hL:∀ r,f'.L r→r=r0∨f.L r) (hc0:f'.c t (G.at r0 a a) w xw r0=.lst []) (hs:f'.su=f.su) (hp:f'.po=f.po) (hns:∀ i,r0≠.su i) (hnp:∀ i,r0≠.po i) :
    Bld t (G.at r0 a a).ad f'.L (f'.c t (G.at r0 a a) w xw) (upd H a (.lst [])) E:=by
  have ne:∀ r,f.L r→r≠r0:=fun r h z=>h0 (z ▸ h)
  refine B.add r0 ha Gad.at_same.1 (fun r h=>(Gad.at_ne (ne r h)).1) hL hc0 (fun r h=>?_) h0
  cases r with
  | po i =>
    show HO.ins t.CP ((G.at r0 a a).dx (.po i)) (portF i {} ((G.at r0 a a).ad (.gr i)) .non)=HO.ins t.CP (G.dx (.po i)) (portF i {} (G.ad (.gr i)) .non)
    rw [(Gad.at_ne (ne _ h)).2,(Gad.at_ne (fun z=>by rw [← z] at hr; cases hr)).1]
  | su i=>show HO.ins t.CS ((G.at r0 a a).dx (.su i)) _=HO.ins t.CS (G.dx (.su i)) _; rw [(Gad.at_ne (ne _ h)).2]
  | sl =>
    show HO.lst (refs ((List.range f'.su).map _))=HO.lst (refs ((List.range f.su).map _))
    rw [hs]
    congr 2
    exact List.map_congr_left fun i hi=>(Gad.at_ne (Ne.symm (hns i))).1
  | pl =>
    show HO.lst (refs ((List.range f'.po).map _))=HO.lst (refs ((List.range f.po).map _))
    rw [hp]
    congr 2
    exact List.map_congr_left fun i hi=>(Gad.at_ne (Ne.symm (hnp i))).1
  | _=>rfl
theorem Bld.wrld {f:Far} {xw':HO} (B:Bld t G.ad f.L (f.c t G w xw) H E) (hs:Soft xw):Bld t G.ad f.L (f.c t G w xw') (upd H (G.ad .wd) xw') E :=
  B.set .wd trivial hs rfl fun r hr h=>by cases r <;> first | rfl | exact absurd rfl hr
end
section
variable {P:Program} {w₀:PySem.World} {K:PySem.W.Frag} {mg:Str→Option Value} {base:Heap} {t:Cas} {f:Addr} {fd:FuncData}
theorem initB {G:Gad} {H E:Hp} {w:VW} {fa:Far} {N:Hp→Prop} {dx:Addr} {L:List (Str × V)} {x:Str} {y:V} (k:Nat) (cl:Cls K t.CW) (na:NoAttr K t.CW x) (B:Bld t G.ad fa.L (fa.c t G w (.ins t.CW dx (L.take k))) H E) (hl:(L.take k).length < 1000)
    (he:putF x y (L.take k)=L.take (k + 1)) {p:Addr} (hw:G.ad .wd=p) (q:∀ H',Bld t G.ad fa.L (fa.c t G w (.ins t.CW dx (L.take (k + 1)))) H' E→N H'):WF K x y (.ref p) H N :=
  hw ▸ ⟨_,_,dx,_,rfl,B.at_ .wd trivial,cl,na,hl,by rw [he]; exact q _ (B.wrld trivial)⟩
def sp_World (t:Cas):Sp:=fun vs H Q _=>∃ (p dx am:Addr) (H0 E:Hp) (n cap:Nat) (sp:Bool) (l:List Nat),vs=[.ref p,.int n,.int cap,.int (bt sp),.ref am]∧H=upd H0 p (.ins t.CW dx [])∧H0 p=none∧Frm t H0 E∧E am=some (.lst (intV (l.map fun (m:Nat)=>(m:Int))))∧l.length≤4∧n≤48 ∧
  ∀ A H',A .wd=p→Rep t A H' (world0 n cap sp l) E→Q .non H'
theorem ok_World__init__ (T:Txt K mg t) (F:Fun K "__init__" "World.__init__" s_World__init__ f fd) (M_Supply:KnownC P w₀ K mg base "Supply" t.CS 1 ["self","amount"] (sp_Supply t)) (M_Port:KnownC P w₀ K mg base "Port" t.CP 1 ["self","place"] (sp_Port t)) :
    FnOk P w₀ K mg base CX0 3 f fd ["self","port_count","cap","spare","amounts"] (sp_World t):=by
  refine F.ok sc_World__init__ (fun vs H Q E h=>?_) (fun cdv A outer s H vs Q E hr h=>?_)
  · obtain ⟨_,_,_,_,_,_,_,_,_,rfl,_⟩:=h; rfl
  · obtain ⟨p,dx,am,H0,E,n,cap,sp,l,rfl,rfl,hp0,FR,ham,hl,hn,q⟩:=h
    have nd:=sc_World__init__.nd
    refine ⟨_,(pss_cons (ps_fl (K:=K) (pv 0) pe_int) (pss_cons (ps_fl (K:=K) (pv 0) pe_int) (pss_cons (ps_fl (K:=K) (pv 0) (pv 2)) (pss_cons (ps_fl (K:=K) (pv 0) (pv 3)) (pss_cons (ps_fl (K:=K) (pv 0) (pe_lc (own:=[("amount",5)]) rfl nd (pi_listK (K:=K) (pv 4)) (by show BlkOk ["self","port_count","cap","spare","amounts","amount","place"] (defScope s_World__init__) _ _; exact ⟨rfl,by decide +kernel,by decide +kernel,by decide +kernel,by decide +kernel⟩) (fun _ _ _ _ _=>pg_name (i:=5) nd rfl (Or.inl rfl)) (fun _ _ _ _ _=>pts_nil) (fun _ _ _ _ _=>(pe_mk M_Supply (hr.mono (by decide)) (pa_cons (pv 5) pa_nil))))) (pss_cons (ps_fl (K:=K) (pv 0) (pe_lc (own:=[("place",6)]) rfl nd (pi_range1 rfl T.b_range (pa_cons (pv 1) pa_nil)) (by show BlkOk ["self","port_count","cap","spare","amounts","amount","place"] (defScope s_World__init__) _ _; exact ⟨rfl,by decide +kernel,by decide +kernel,by decide +kernel,by decide +kernel⟩) (fun _ _ _ _ _=>pg_name (i:=6) nd rfl (Or.inl rfl)) (fun _ _ _ _ _=>pts_nil) (fun _ _ _ _ _=>(pe_mk M_Port (hr.mono (by decide)) (pa_cons (pv 6) pa_nil))))) (pss_one (ps_fl (K:=K) (pv 0) (pe_lst pa_nil))))))))),?_⟩
    let w:=world0 n cap sp l
    refine ⟨_,rfl,initT (p:=p) (L:=worldF w p p p) 0 T.cl_world (na T.na_world (by decide +kernel)) (by show 0 < 1000; decide) (by kernel_rfl) ?_⟩
    refine ⟨_,rfl,initT (p:=p) (L:=worldF w p p p) 1 T.cl_world (na T.na_world (by decide +kernel)) (by show 1 < 1000; decide) (by kernel_rfl) ?_⟩
    refine ⟨_,rfl,_,rfl,initT (p:=p) (L:=worldF w p p p) 2 T.cl_world (na T.na_world (by decide +kernel)) (by show 2 < 1000; decide) (by kernel_rfl) ?_⟩
    refine ⟨_,rfl,_,rfl,initT (p:=p) (L:=worldF w p p p) 3 T.cl_world (na T.na_world (by decide +kernel)) (by show 3 < 1000; decide) (by kernel_rfl) ?_⟩
    have B0:Bld t (Gad.at ⟨fun _=>p,fun _=>p⟩ .wd p dx).ad (Far.L ⟨false,0,false,0,0,false⟩) (Far.c ⟨false,0,false,0,0,false⟩ t (Gad.at ⟨fun _=>p,fun _=>p⟩ .wd p dx) w (.ins t.CW dx ((worldF w p p p).take 4))) (upd H0 p (.ins t.CW dx ((worldF w p p p).take 4))) E :=
      (Bld.nil (G:=fun _=>p) (c:=fun _=>.lst []) FR).add .wd hp0 Gad.at_same.1 (fun r h=>h.elim) (fun r h=>by
        cases r with
        | wd=>exact .inl rfl
        | sl=>cases h
        | pl=>cases h
        | bg=>cases h
        | su i=>exact absurd h (Nat.not_lt_zero _)
        | po i=>exact absurd h (Nat.not_lt_zero _)
        | gr i=>exact absurd h (Nat.not_lt_zero _)
        | dv i=>exact h.elim) rfl (fun r h=>h.elim) (fun h=>h)
    have hamH:∀ {G:Gad} {fa:Far} {xw:HO} {H:Hp},Bld t G.ad fa.L (fa.c t G w xw) H E→H am=some (.lst (intV (l.map fun (m:Nat)=>(m:Int)))):=fun B=>(B.fr am _ ham).1
    refine ⟨_,rfl,am,rfl,⟨_,SqL.of (hamH B0)⟩,fun D hD=>?_⟩
    have B1:=B0.lsts (f':=⟨true,0,false,0,0,false⟩) (r0:=.sl) (by show ¬ (false=true); decide) hD rfl (fun r h=>by cases r <;> first | exact .inl rfl | exact .inr h) rfl rfl rfl (fun i z=>nomatch z) (fun i z=>nomatch z)
    refine lc_list (K:=K) (a:=am) (xs:=intV (l.map fun (m:Nat)=>(m:Int))) (fun i H'=>∃ G:Gad,G.ad .wd=p∧G.ad .sl=D∧Bld t G.ad (Far.L ⟨true,i,false,0,0,false⟩) (Far.c ⟨true,i,false,0,0,false⟩ t G w (.ins t.CW dx ((worldF w D p p).take 4))) H' E)
      ⟨_,(Gad.at_ne (by simp)).1.trans Gad.at_same.1,Gad.at_same.1,B1⟩ (fun i H' hi ⟨G,_,_,B⟩=>SqL.of (hamH B)) (fun i x H' hx ⟨G,hGw,hGs,B⟩=>?_) (fun H' ⟨G,hGw,hGs,B⟩=>?_)
    · obtain ⟨m,hm,rfl⟩:∃ m:Nat,l[i]?=some m∧x=.int m:=by
        unfold intV at hx
        rw [List.map_map,List.getElem?_map] at hx
        cases e:l[i]? with
        | none=>rw [e] at hx; cases hx
        | some m=>rw [e] at hx; exact ⟨m,rfl,(Option.some.inj hx).symm⟩
      have hi:i < l.length:=by
        by_cases z:i < l.length
        · exact z
        · rw [List.getElem?_eq_none (by omega)] at hm; cases hm
      refine ⟨rfl,?_⟩
      show ∃ x,_∧_
      refine ⟨_,rfl,fun x d hx hd hne=>⟨x,d,_,m,rfl,rfl,rfl,?_⟩⟩
      have hs:=B.sup rfl rfl hx hd hne
      rw [hGs] at hs
      rw [show sAt w i={ watts:=m } from sAt0 hm] at hs
      have hDs:H' D=some (.lst (refs ((List.range i).map fun j=>G.ad (.su j)))):=by rw [← hGs]; exact B.at_ .sl rfl
      refine ⟨_,(by rw [upd_ne (ne_of_none hDs hx),upd_ne (ne_of_none hDs hd)]; exact hDs),?_,_,(Gad.at_ne (by simp)).1.trans hGw,(Gad.at_ne (by simp)).1.trans hGs,hs⟩
      unfold refs
      rw [List.length_map,List.length_map,List.length_range]
      exact Nat.lt_of_lt_of_le hi (Nat.le_trans hl (by decide))
    · have el:(intV (l.map fun (m:Nat)=>(m:Int))).length=l.length:=by unfold intV; rw [List.length_map,List.length_map]
      rw [el] at B
      refine ⟨_,rfl,initB 4 T.cl_world (na T.na_world (by decide +kernel)) B (by show 4 < 1000; decide) (by kernel_rfl) hGw fun H1 B1=>?_⟩
      refine ⟨_,rfl,n,rfl,by omega,by omega,fun D2 hD2=>?_⟩
      have B2:=B1.lsts (f':=⟨true,l.length,true,0,0,false⟩) (r0:=.pl) (by show ¬ (false=true); decide) hD2 rfl (fun r h=>by cases r <;> first | exact .inl rfl | exact .inr h) rfl rfl rfl (fun i z=>nomatch z) (fun i z=>nomatch z)
      refine lc_range (lo:=0) (n:=n) (fun i H'=>∃ G:Gad,G.ad .wd=p∧G.ad .sl=D∧G.ad .pl=D2∧Bld t G.ad (Far.L ⟨true,l.length,true,i,i,false⟩) (Far.c ⟨true,l.length,true,i,i,false⟩ t G w (.ins t.CW dx ((worldF w D D2 p).take 5))) H' E)
        ⟨_,(Gad.at_ne (by simp)).1.trans hGw,(Gad.at_ne (by simp)).1.trans hGs,Gad.at_same.1,B2⟩ (fun i H' hi ⟨G,hGw,hGs,hGp,B⟩=>?_) (fun H' ⟨G,hGw,hGs,hGp,B⟩=>?_)
      · refine ⟨rfl,?_⟩
        show ∃ x,_∧_
        refine ⟨_,rfl,fun x d hx hd hne=>⟨x,d,_,i,?_,rfl,fun g hgx hgn=>⟨rfl,?_⟩⟩⟩
        · show [V.ref x,V.int (0 + (i:Int))]=_
          rw [Int.zero_add]
        · have hs:=B.prt rfl rfl hx hd hne hgx hgn
          rw [hGp] at hs
          have hDs:H' D2=some (.lst (refs ((List.range i).map fun j=>G.ad (.po j)))):=by rw [← hGp]; exact B.at_ .pl rfl
          have hgH:H' g=none:=by
            by_cases e:g=d
            · subst e; rw [upd_same] at hgn; cases hgn
            · rw [upd_ne e] at hgn; exact hgn
          refine ⟨_,(by rw [upd_ne (ne_of_none hDs hx),upd_ne (ne_of_none hDs hgH),upd_ne (ne_of_none hDs hd)]; exact hDs),?_,_,?_,?_,?_,hs⟩
          · unfold refs
            rw [List.length_map,List.length_map,List.length_range]
            exact Nat.lt_of_lt_of_le hi (Nat.le_trans hn (by decide))
          · rw [(Gad.at_ne (by simp)).1,(Gad.at_ne (by simp)).1]; exact hGw
          · rw [(Gad.at_ne (by simp)).1,(Gad.at_ne (by simp)).1]; exact hGs
          · rw [(Gad.at_ne (by simp)).1,(Gad.at_ne (by simp)).1]; exact hGp
      · refine ⟨_,rfl,initB 5 T.cl_world (na T.na_world (by decide +kernel)) B (by show 5 < 1000; decide) (by kernel_rfl) hGw fun H1 B1=>?_⟩
        refine ⟨(by show 0≤sizeLine; decide),fun b hb=>?_⟩
        have B2:=B1.lsts (f':=⟨true,l.length,true,n,n,true⟩) (r0:=.bg) (by show ¬ (false=true); decide) hb rfl (fun r h=>by cases r <;> first | exact .inl rfl | exact .inr h) rfl rfl rfl (fun i z=>nomatch z) (fun i z=>nomatch z)
        show ∃ x,_∧_
        refine ⟨_,rfl,initB (L:=worldF w D D2 b) 6 T.cl_world (na T.na_world (by decide +kernel)) B2 (by show 6 < 1000; decide) (by kernel_rfl) ((Gad.at_ne (by simp)).1.trans hGw) fun H2 B3=>?_⟩
        refine q ((G.at .bg b b).at .wd p dx).ad H2 Gad.at_same.1 ⟨(G.at .bg b b).at .wd p dx,fun _=>[],[],fun _ _=>rfl,?_⟩
        have adE:∀ r,((G.at .bg b b).at .wd p dx).ad r=(G.at .bg b b).ad r:=fun r=>by
          by_cases e:r=.wd
          · subst e; rw [Gad.at_same.1,(Gad.at_ne (by simp)).1,hGw]
          · exact (Gad.at_ne e).1
        have lv:∀ r,live w r→Far.L ⟨true,l.length,true,n,n,true⟩ r:=fun r h=>by
          cases r with
          | su i=>have h:i < (l.map _).length:=h; rw [List.length_map] at h; exact h
          | po i=>have h:i < (List.replicate n _).length:=h; rw [List.length_replicate] at h; exact h
          | gr i=>have h:i < (List.replicate n _).length:=h; rw [List.length_replicate] at h; exact h
          | dv i=>exfalso; have h:=h.2; rw [pAt0] at h; cases h
          | _=>first | rfl | trivial
        exact {
          at_:=fun r h=>by
            rw [adE,B3.at_ r (lv r h)]
            congr 1
            have dxE:∀ r,r≠.wd→((G.at .bg b b).at .wd p dx).dx r=(G.at .bg b b).dx r:=fun r e=>(Gad.at_ne e).2
            cases r with
            | wd =>
              show HO.ins t.CW dx (worldF w D D2 b)=HO.ins t.CW (((G.at .bg b b).at .wd p dx).dx .wd) (worldF w (((G.at .bg b b).at .wd p dx).ad .sl) (((G.at .bg b b).at .wd p dx).ad .pl) (((G.at .bg b b).at .wd p dx).ad .bg))
              rw [Gad.at_same.2,adE,adE,adE,(Gad.at_ne (by simp)).1,(Gad.at_ne (by simp)).1,Gad.at_same.1,hGs,hGp]
            | sl =>
              show HO.lst (refs ((List.range l.length).map _))=HO.lst (refs ((List.range (l.map _).length).map _))
              rw [List.length_map]
              congr 2
            | pl =>
              show HO.lst (refs ((List.range n).map _))=HO.lst (refs ((List.range (List.replicate n _).length).map _))
              rw [List.length_replicate]
              congr 2
            | su i=>show HO.ins t.CS _ _=HO.ins t.CS _ _; rw [dxE _ (by simp)]
            | po i =>
              show HO.ins t.CP _ (portF i {} _ .non)=HO.ins t.CP _ (portF i (pAt w i) _ (devV (pAt w i) _))
              rw [dxE _ (by simp),adE,show pAt w i={} from pAt0]
              rfl
            | dv i=>exfalso; have h:=h.2; rw [pAt0] at h; cases h
            | _=>rfl
          inj:=fun r r' h h' e=>by rw [adE,adE] at e; exact B3.inj r r' (lv r h) (lv r' h') e
          msg:=trivial
          grt:=fun i hi=>by rw [show pAt w i={} from pAt0]; trivial
          fr:=fun c o e=>⟨(B3.fr c o e).1,fun r h=>by rw [adE]; exact (B3.fr c o e).2 r (lv r h)⟩
          tab:=B3.tab
          et:=B3.et }
end
def KMap (P:Program) (w:PySem.World) (K:PySem.W.Frag) (a:Addr) (vs:List (Key × Value)):Prop:=∃ o,K.lookup a=some o∧o.IsDictOf (mixKind P w) vs
section
variable {X:Cx} {K:PySem.W.Frag} {o i:Expr} {td ty:TE} {pos:Pos}
def tKG (P:Program) (w:PySem.World) (K:PySem.W.Frag) (td ty:TE):TE:=fun σ H Q=>td σ H fun x H1=>ty σ H1 fun y H2=>∃ a vs k u v,x=.ref a∧y=.str k∧KMap P w K a vs∧valueAt vs (.inr k)=some u∧RelV v u∧Q v H2
theorem pe_kg {P:Program} {w:PySem.World} (ho:PE X o td) (hi:PE X i ty) (hs:NoSl i:=by exact fun _ _=>rfl) (hP:X.prog=P:=by rfl) (hw:X.w=w:=by rfl) (hK:X.K=K:=by rfl):PE X (.Subscript o i pos) (tKG P w K td ty):=by
  subst hP hw hK
  intro pins s σ H Q I h
  refine subD_of PySem.F.slot_dict_getitem.lookup hs (thn (ho pins s σ H _ I h) fun u s1 ⟨x,H1,I1,rx,q1⟩=>thn (hi pins s1 σ H1 _ I1 q1) fun iv s2 ⟨y,H2,I2,ry,a,vs,k,u',v,ex,ey,⟨ob,hl,dk⟩,hv,rv,q2⟩=>?_)
  subst ex ey
  obtain rfl:u=Value.ref a:=rx
  obtain ⟨tk,rfl⟩:=ry
  have dd:s2.heap.DictOf (mixKind X.prog X.w) a vs:=Heap.dictOf_iff.mpr ⟨ob,I2.kIn a ob hl,dk⟩
  exact ⟨dd.mapOf.typeIs,wpAny_getItem_of (k:=.inr k) (keyIs_str k tk) dd.mapOf hv ⟨v,H2,I2.tok _,rv,q2⟩⟩
def tCX (P:Program) (w:PySem.World) (K:PySem.W.Frag) (mg:Str→Option Value) (base:Heap) (k:Nat) (tf:TE) (t:TA):TE:=fun σ H Q=>tf σ H fun x H1=>∃ f fd j ps sp,x=.ref f∧j≤k∧FnOk P w K mg base CX0 j f fd ps sp∧PySem.W.keepIn K (.ref f)=true∧Binds K fd ps [] ∧
  t σ H1 fun vs H2=>sp vs H2 Q E0
theorem pe_cx {P:Program} {w:PySem.World} {mg:Str→Option Value} {base:Heap} {k:Nat} {p:Pos} {e:Expr} {es:List Expr} {tf:TE} {t:TA} (hr:Room k X.A) (hf:PE X (.Subscript o i p) tf) (ha:PA X (e::es) t)
    (hst:starEach (e::es) X.env=(false,eval e X.env)::starEach es X.env:=by rfl) (hpl:(backTo pos (starEach es X.env)).any (·.1)=false:=by rfl) (hP:X.prog=P:=by rfl) (hw:X.w=w:=by rfl) (hK:X.K=K:=by rfl) (hm:X.mg=mg:=by rfl) (hb:X.base=base:=by rfl) :
    PE X (.Call (.Subscript o i p) (e::es) [] pos) (tCX P w K mg base k tf t):=by
  subst hP hw hK hm hb
  intro pins s σ H Q I h
  refine Call_ (thn (hf pins s σ H _ I h) fun u s1 ⟨x,H1,I1,rx,f,fd,j,ps,sp,ex,hj,F,kp,bd,q1⟩=>?_)
  subst ex
  obtain rfl:u=Value.ref f:=rx
  refine PySem.W.callWith_K (h₀:=X.base) I1.ok.mod.kin kp (thn (ha pos pins s1 σ H1 _ I1 q1) fun us s2 ⟨vs,H2,I2,r,q⟩=>⟨I2.kIn,?_⟩) hst hpl
  refine run_fn (dvs:=[]) F (hr.mono hj) bd .nil pass0 I2 r ?_
  rw [List.append_nil]
  exact q
end
section
variable {prog:Program} {w:PySem.World} {A:Around} {E:Value→Shared→Prop} {s:Shared}
theorem tn_some {ia tu:Addr} {k:Nat} {xs:Array Value} {x:Value} {Q:Value→Shared→Prop} (hi:IsTupIter s.heap ia tu k) (ht:IsTup s.heap tu xs) (hx:xs[k]?=some x)
    (q:∀ h',IsTupIter h' ia tu (k + 1)→Heap.SameBut ia s.heap h'→Q x { s with heap:=h' }):wpAny (model prog w) A (Builtin.SmallTypes.nextOf (.ref ia)) Q E s:=by
  obtain ⟨ob,e1,e2,e3⟩:=id hi
  obtain ⟨ot,f1,_,m,f3⟩:=ht
  unfold Builtin.SmallTypes.nextOf
  refine wpAny_bind (wpAny_callSpecial?_slot (name:=Str.ofString "__next__") hi.typeIs slot_tupleiter_next (wpAny_call_entry slot_tupleiter_next hi.typeIs entry_tupleiter_next ?_ (args_tupleiter_next _)))
  show wpAny _ _ (field (.ref ia) 0 >>= _) _ _ s
  refine wpAny_bind (wpAny_field e1 e3 (x:=.ref tu) rfl ?_)
  show wpAny _ _ (if (Value.ref tu == Value.none)=true then _ else _) _ _ s
  rw [if_neg (show ¬ ((Value.ref tu == Value.none)=true) from Bool.false_ne_true)]
  show wpAny _ _ (field (.ref ia) 1 >>= _) _ _ s
  refine wpAny_bind (wpAny_field e1 e3 (x:=.int k 0) rfl ?_)
  show wpAny _ _ (seqItems? (.ref tu) >>= _) _ _ s
  refine wpAny_bind (wpAny_seqItems f1 f3 ?_)
  simp only [Int.toNat_natCast,hx]
  refine wpAny_bind (wpAny_setField e1 e3 (by simp) (wpAny_pure ⟨x,rfl,wpAny_pure (q _ ?_ (Heap.SameBut.update ..))⟩))
  exact ⟨_,Heap.get?_update_self _ e1 (Obj.isFreed_of_fields (Obj.data_mapFields e3 _)),(Obj.cls_mapFields ..).trans e2,by rw [Obj.data_mapFields e3]; simp [rawInt]⟩
theorem tn_none {ia tu:Addr} {k:Nat} {xs:Array Value} {Q:Value→Shared→Prop} (hh:A.handled=none) (hi:IsTupIter s.heap ia tu k) (ht:IsTup s.heap tu xs) (hx:xs[k]?=none)
    (q:∀ h' e,Heap.ExtBut ia s.heap h'→(∃ o,h'.get? e=some o∧o.cls=.type "StopIteration")→E (.ref e) { s with heap:=h' }):wpAny (model prog w) A (Builtin.SmallTypes.nextOf (.ref ia)) Q E s:=by
  obtain ⟨ob,e1,e2,e3⟩:=id hi
  obtain ⟨ot,f1,_,m,f3⟩:=ht
  unfold Builtin.SmallTypes.nextOf
  refine wpAny_bind (wpAny_callSpecial?_slot (name:=Str.ofString "__next__") hi.typeIs slot_tupleiter_next (wpAny_call_entry slot_tupleiter_next hi.typeIs entry_tupleiter_next ?_ (args_tupleiter_next _)))
  show wpAny _ _ (field (.ref ia) 0 >>= _) _ _ s
  refine wpAny_bind (wpAny_field e1 e3 (x:=.ref tu) rfl ?_)
  show wpAny _ _ (if (Value.ref tu == Value.none)=true then _ else _) _ _ s
  rw [if_neg (show ¬ ((Value.ref tu == Value.none)=true) from Bool.false_ne_true)]
  show wpAny _ _ (field (.ref ia) 1 >>= _) _ _ s
  refine wpAny_bind (wpAny_field e1 e3 (x:=.int k 0) rfl ?_)
  show wpAny _ _ (seqItems? (.ref tu) >>= _) _ _ s
  refine wpAny_bind (wpAny_seqItems f1 f3 ?_)
  simp only [Int.toNat_natCast,hx]
  refine wpAny_bind (wpAny_rule (wpAny_bind (wpAny_setField e1 e3 (by simp) ?_)))
  show wpAny _ _ (newExc (.type "StopIteration") [] >>= fun ex=>_) _ _ _
  refine wpAny_bind ?_
  simp only [newExc,newTuple]; refine wpAny_bind (wpAny_newObj_type ?_ (by size_fits))
  refine wpAny_bind (m:=firstArgMember _ _) (wpAny_of_eq (a:=Value.none) (by first | rfl | (simp only [firstArgMember]; rfl)) ?_); refine wpAny_newObj_type ?_ (by size_fits)
  simp only [raiseNew]; refine wpAny_bind (wpAny_handled ?_)
  first | rw [show A.in1.handled=none from hh] | rw [hh]
  refine wpAny_bind (wpAny_pure (wpAny_throw ?_))
  exact q _ _ (((Heap.SameBut.update ..).extBut.push _).push _) ⟨_,Heap.get?_push_size _ rfl,rfl⟩
theorem zt_some {z TI TO i1 i2 l1 l2:Addr} {k1 k2:Nat} {xs ys:Array Value} {x y a b:Value} {Q:Value→Shared→Prop} (D:ZipApart z TI TO i1 i2 l1 l2) (hz:IsZip s.heap z TI TO .none) (hTI:IsPair s.heap TI (.ref i1) (.ref i2)) (hTO:IsPair s.heap TO a b)
    (c1:s.heap.IsListIter i1 l1 k1) (c2:IsTupIter s.heap i2 l2 k2) (d1:s.heap.IsList l1 xs) (d2:IsTup s.heap l2 ys) (hx:xs[k1]?=some x) (hy:ys[k2]?=some y)
    (q:∀ h',IsZip h' z TI TO (rawInt s.heap.objs.size)→IsPair h' TO x y→h'.IsListIter i1 l1 (k1 + 1)→IsTupIter h' i2 l2 (k2 + 1)→IsPair h' s.heap.objs.size x y→h'.objs.size=s.heap.objs.size + 1 →
      (∀ c o,c≠z→c≠TO→c≠i1→c≠i2→s.heap.get? c=some o→h'.get? c=some o)→Q (.ref s.heap.objs.size) { s with heap:=h' }) :
    wpAny (model prog w) A (Builtin.«zip.__next__» ⟨[.ref z],[]⟩) (fun fin s'=>∃ v,fin=.done (.ret v)∧Q v s') E s:=by
  show wpAny _ _ (field (.ref z) 2 >>= fun c=>_) _ _ _
  refine wpAny_bind (wpAny_field hz rfl (x:=.bool false) rfl ?_); show wpAny _ _ (field (.ref z) 3 >>= _) _ _ _
  refine wpAny_bind (wpAny_field hz rfl (x:=.ref TI) rfl ?_); refine wpAny_bind (wpAny_seqItems hTI rfl ?_)
  show wpAny _ _ (Builtin.SmallTypes.ownedTupleIsFree (.ref z) >>= fun c=>_) _ _ _
  refine wpAny_bind ?_; unfold Builtin.SmallTypes.ownedTupleIsFree
  refine wpAny_bind (wpAny_field hz rfl (x:=.none) rfl (wpAny_pure ?_)); simp only [if_true]
  refine wpAny_bind (wpAny_rule ?_); refine wpAny_bind (wpAny_field hz rfl (x:=.ref TO) rfl ?_)
  refine wpAny_bind (wpAny_setField_rec hz (by simp) fun g1 z1 s1=>?_); replace z1:IsZip g1 z TI TO .ellipsis:=z1
  refine wpAny_bind ?_; simp only [List.zipIdx_cons,List.zipIdx_nil,List.forIn_cons,List.forIn_nil]
  refine wpAny_bind (wpAny_bind (wpAny_onRaise ?_)); show wpAny _ _ (Builtin.SmallTypes.nextOf (.ref i1) >>= _) _ _ _
  refine wpAny_bind (wpAny_nextOf_list_item (c1.extBut s1.extBut D.i1z) (d1.extBut s1.extBut D.l1z) hx fun g2 c12 s2=>wpAny_pure ?_)
  have t2:IsPair g2 TO a b:=s2.extBut _ _ D.TOi1 (s1.extBut _ _ D.TOz hTO)
  refine wpAny_bind (wpAny_seqItems t2 rfl ?_); refine wpAny_bind (wpAny_updateSeq_pair t2 fun g3 t3 s3=>?_)
  replace t3:IsPair g3 TO x b:=t3
  refine wpAny_bind (wpAny_letGo (wpAny_pure ?_)); refine wpAny_bind (wpAny_bind (wpAny_onRaise ?_)); show wpAny _ _ (Builtin.SmallTypes.nextOf (.ref i2) >>= _) _ _ _
  refine wpAny_bind (tn_some (((c2.extBut s1.extBut D.i2z).extBut s2.extBut D.i12.symm).extBut s3.extBut D.TOi2.symm) (((d2.extBut s1.extBut D.l2z).extBut s2.extBut D.l2i1).extBut s3.extBut D.l2TO) hy fun g4 c24 s4=>wpAny_pure ?_)
  have t4:IsPair g4 TO x b:=s4.extBut _ _ D.TOi2 t3
  refine wpAny_bind (wpAny_seqItems t4 rfl ?_); refine wpAny_bind (wpAny_updateSeq_pair t4 fun g5 t5 s5=>?_)
  replace t5:IsPair g5 TO x y:=t5
  refine wpAny_bind (wpAny_letGo (wpAny_pure (wpAny_pure ?_))); refine wpAny_bind (wpAny_seqItems t5 rfl ?_); refine wpAny_bind (wpAny_newTuple ?_)
  have sz:g5.objs.size=s.heap.objs.size:=by rw [s5.1,s4.1,s3.1,s2.1,s1.1]
  have z5:IsZip g5 z TI TO .ellipsis:=s5.extBut _ _ D.TOz.symm (s4.extBut _ _ D.i2z.symm (s3.extBut _ _ D.TOz.symm (s2.extBut _ _ D.i1z.symm z1)))
  have k5:∀ c o,c≠z→c≠TO→c≠i1→c≠i2→s.heap.get? c=some o→g5.get? c=some o:=fun c o n1 n2 n3 n4 e=>s5.extBut _ _ n2 (s4.extBut _ _ n4 (s3.extBut _ _ n2 (s2.extBut _ _ n3 (s1.extBut _ _ n1 e))))
  have c15:g5.IsListIter i1 l1 (k1 + 1):=((c12.extBut s3.extBut D.TOi1.symm).extBut s4.extBut D.i12).extBut s5.extBut D.TOi1.symm
  have c25:IsTupIter g5 i2 l2 (k2 + 1):=c24.extBut s5.extBut D.TOi2.symm
  have zlt:z < g5.objs.size:=Heap.lt_size z5
  show wpAny _ _ (Builtin.SmallTypes.ownedTupleHandOut (.ref z) (.ref g5.objs.size) >>= _) _ _ _
  refine wpAny_bind ?_; unfold Builtin.SmallTypes.ownedTupleHandOut
  have z6:IsZip (g5.push { cls:=.type "tuple",data:=.seq #[x,y] }) z TI TO .ellipsis:=Heap.get?_push_of_some _ z5
  refine wpAny_bind (wpAny_setField_rec z6 (by simp) fun g7 z7 s7=>?_); replace z7:IsZip g7 z TI TO (rawInt g5.objs.size):=z7
  refine wpAny_setField_rec z7 (by simp) fun g8 z8 s8=>?_
  replace z8:IsZip g8 z TI TO (rawInt g5.objs.size):=z8
  have up:∀ c o,c≠z→g5.get? c=some o→g8.get? c=some o:=fun c o n1 e=>s8.extBut _ _ n1 (s7.extBut _ _ n1 (Heap.get?_push_of_some _ e))
  have t8:IsPair g8 g5.objs.size x y:=s8.extBut _ _ (Nat.ne_of_gt zlt) (s7.extBut _ _ (Nat.ne_of_gt zlt) (Heap.get?_push_size _ rfl))
  have e8:g8.objs.size=g5.objs.size + 1:=by rw [s8.1,s7.1,Heap.size_push]
  rw [sz] at z8 t8 e8
  refine wpAny_pure ⟨_,rfl,?_⟩
  show Q (.ref g5.objs.size) _
  rw [sz]
  obtain ⟨o1,u1,v1⟩:=c15
  obtain ⟨o2,u2,v2⟩:=c25
  exact q g8 z8 (up _ _ D.TOz t5) ⟨o1,up _ _ D.i1z u1,v1⟩ ⟨o2,up _ _ D.i2z u2,v2⟩ t8 e8 fun c o n1 n2 n3 n4 e=>up c o n1 (k5 c o n1 n2 n3 n4 e)
theorem zt_none {z TI TO i1 i2 l1 l2:Addr} {k1 k2:Nat} {xs ys:Array Value} {a b:Value} {Q:Fin→Shared→Prop} (hh:A.handled=none) (D:ZipApart z TI TO i1 i2 l1 l2) (hz:IsZip s.heap z TI TO .none) (hTI:IsPair s.heap TI (.ref i1) (.ref i2)) (hTO:IsPair s.heap TO a b)
    (c1:s.heap.IsListIter i1 l1 k1) (c2:IsTupIter s.heap i2 l2 k2) (d1:s.heap.IsList l1 xs) (d2:IsTup s.heap l2 ys) (he:xs[k1]?=none∨ys[k2]?=none)
    (q:∀ h' e,(∀ c o,c≠z→c≠TO→c≠i1→c≠i2→s.heap.get? c=some o→h'.get? c=some o)→(∃ o,h'.get? e=some o∧o.cls=.type "StopIteration")→E (.ref e) { s with heap:=h' }) :
    wpAny (model prog w) A (Builtin.«zip.__next__» ⟨[.ref z],[]⟩) Q E s:=by
  show wpAny _ _ (field (.ref z) 2 >>= fun c=>_) _ _ _
  refine wpAny_bind (wpAny_field hz rfl (x:=.bool false) rfl ?_); show wpAny _ _ (field (.ref z) 3 >>= _) _ _ _
  refine wpAny_bind (wpAny_field hz rfl (x:=.ref TI) rfl ?_); refine wpAny_bind (wpAny_seqItems hTI rfl ?_)
  show wpAny _ _ (Builtin.SmallTypes.ownedTupleIsFree (.ref z) >>= fun c=>_) _ _ _
  refine wpAny_bind ?_; unfold Builtin.SmallTypes.ownedTupleIsFree
  refine wpAny_bind (wpAny_field hz rfl (x:=.none) rfl (wpAny_pure ?_)); simp only [if_true]
  refine wpAny_bind (wpAny_rule ?_); refine wpAny_bind (wpAny_field hz rfl (x:=.ref TO) rfl ?_)
  refine wpAny_bind (wpAny_setField_rec hz (by simp) fun g1 z1 s1=>?_); replace z1:IsZip g1 z TI TO .ellipsis:=z1
  refine wpAny_bind ?_; simp only [List.zipIdx_cons,List.zipIdx_nil,List.forIn_cons,List.forIn_nil]
  refine wpAny_bind (wpAny_bind (wpAny_onRaise ?_)); show wpAny _ _ (Builtin.SmallTypes.nextOf (.ref i1) >>= _) _ _ _
  cases hx:xs[k1]? with
  | none =>
    refine wpAny_bind (wpAny_nextOf_list_end hh (c1.extBut s1.extBut D.i1z) (d1.extBut s1.extBut D.l1z) hx fun g2 e s2 ⟨oe,oh,oc⟩=>?_)
    have z2:IsZip g2 z TI TO .ellipsis:=s2 _ _ D.i1z.symm z1
    have ez:e≠z:=fun v=>by subst v; rw [z2] at oh; cases oh; simp at oc
    refine wpAny_setField_rec z2 (by simp) fun g3 _ s3=>q g3 e (fun c o n1 _ n3 _ v=>s3.extBut _ _ n1 (s2 _ _ n3 (s1.extBut _ _ n1 v))) ⟨oe,s3.extBut _ _ ez oh,oc⟩
  | some x =>
    have hy:ys[k2]?=none:=by rcases he with h | h; rw [hx] at h; cases h; exact h
    refine wpAny_bind (wpAny_nextOf_list_item (c1.extBut s1.extBut D.i1z) (d1.extBut s1.extBut D.l1z) hx fun g2 c12 s2=>wpAny_pure ?_)
    have t2:IsPair g2 TO a b:=s2.extBut _ _ D.TOi1 (s1.extBut _ _ D.TOz hTO)
    refine wpAny_bind (wpAny_seqItems t2 rfl ?_); refine wpAny_bind (wpAny_updateSeq_pair t2 fun g3 t3 s3=>?_)
    refine wpAny_bind (wpAny_letGo (wpAny_pure ?_)); refine wpAny_bind (wpAny_bind (wpAny_onRaise ?_)); show wpAny _ _ (Builtin.SmallTypes.nextOf (.ref i2) >>= _) _ _ _
    refine wpAny_bind (tn_none hh (((c2.extBut s1.extBut D.i2z).extBut s2.extBut D.i12.symm).extBut s3.extBut D.TOi2.symm) (((d2.extBut s1.extBut D.l2z).extBut s2.extBut D.l2i1).extBut s3.extBut D.l2TO) hy fun g4 e s4 ⟨oe,oh,oc⟩=>?_)
    have z4:IsZip g4 z TI TO .ellipsis:=s4 _ _ D.i2z.symm (s3.extBut _ _ D.TOz.symm (s2.extBut _ _ D.i1z.symm z1))
    have ez:e≠z:=fun v=>by subst v; rw [z4] at oh; cases oh; simp at oc
    refine wpAny_setField_rec z4 (by simp) fun g5 _ s5=>q g5 e (fun c o n1 n2 n3 n4 v=>s5.extBut _ _ n1 (s4 _ _ n4 (s3.extBut _ _ n2 (s2.extBut _ _ n3 (s1.extBut _ _ n1 v))))) ⟨oe,s5.extBut _ _ ez oh,oc⟩
abbrev ztH1 (h:Heap) (l1:Addr):Heap:=h.push { cls:=.type "list_iterator",data:=.fields #[.ref l1,.int 0 0] }
abbrev ztH2 (h:Heap) (l1 l2:Addr):Heap:=(ztH1 h l1).push { cls:=.type "tuple_iterator",data:=.fields #[.ref l2,.int 0 0] }
abbrev ztH3 (h:Heap) (l1 l2:Addr):Heap:=(ztH2 h l1 l2).push { cls:=.type "tuple",data:=.seq #[.ref h.objs.size,.ref (ztH1 h l1).objs.size] }
abbrev ztH4 (h:Heap) (l1 l2:Addr):Heap:=(ztH3 h l1 l2).push { cls:=.type "tuple",data:=.seq #[.none,.none] }
abbrev ztH5 (h:Heap) (l1 l2:Addr):Heap:=(ztH4 h l1 l2).push { cls:=.type "zip",data:=.fields #[.none,.bool false,.bool false,.ref (ztH2 h l1 l2).objs.size,.ref (ztH3 h l1 l2).objs.size] }
theorem zt_new (l1 l2:Addr) (xs ys:Array Value):Meets (Builtin.«zip.__new__» ⟨[.type "zip",.ref l1,.ref l2],[]⟩) (fun _ R s=>s.heap.IsList l1 xs∧IsTup s.heap l2 ys ∧
      R (.ok (.ret (.ref (ztH4 s.heap l1 l2).objs.size))) { s with heap:=ztH5 s.heap l1 l2 }) :=
  .of_wp fun prog w A R s h=>by
    obtain ⟨hp,g,d,tk,os⟩:=s; obtain ⟨d1,d2,h⟩:=h
    have hsub:=sub_zip
    have L1:Heap.IsList (Shared.heap ⟨hp,g,d,tk,os⟩) l1 xs:=d1
    have L2:IsTup (Shared.heap ⟨hp.push { cls:=.type "list_iterator",data:=.fields #[.ref l1,.int 0 0] },g,d,tk,os⟩) l2 ys:=IsTup.push d2 _
    wp_walk using wpAny_pyIter_list L1,iter_tuple L2
    exact ⟨_,rfl,h⟩
end
section
variable {prog:Program} {w:PySem.World} {A:Around} {E:Value→Shared→Prop} {s:Shared}
theorem zt_call {l1 l2:Addr} {xs ys:Array Value} {Q:Value→Shared→Prop} (d1:s.heap.IsList l1 xs) (d2:IsTup s.heap l2 ys)
    (q:∀ h',IsZip h' (s.heap.objs.size + 4) (s.heap.objs.size + 2) (s.heap.objs.size + 3) .none→IsPair h' (s.heap.objs.size + 2) (.ref s.heap.objs.size) (.ref (s.heap.objs.size + 1))→IsPair h' (s.heap.objs.size + 3) .none .none →
      h'.IsListIter s.heap.objs.size l1 0→IsTupIter h' (s.heap.objs.size + 1) l2 0→h'.objs.size=s.heap.objs.size + 5→(∀ c o,s.heap.get? c=some o→h'.get? c=some o)→Q (.ref (s.heap.objs.size + 4)) { s with heap:=h' }) :
    wpAny (model prog w) A (call (.type "zip") [.ref l1,.ref l2]) Q E s:=by
  refine callType_new F.called_zip (by decide) (F.typeCall_zip_2 _ _) (F.newCall_zip_2 _ _) (fun obj=>F.args_object_init_3 obj _ _) F.entry_zip_new (zt_new l1 l2 xs ys) ⟨d1,d2,?_⟩
  have z1:(ztH1 s.heap l1).objs.size=s.heap.objs.size + 1:=Heap.size_push ..
  have z2:(ztH2 s.heap l1 l2).objs.size=s.heap.objs.size + 2:=by rw [Heap.size_push,z1]
  have z3:(ztH3 s.heap l1 l2).objs.size=s.heap.objs.size + 3:=by rw [Heap.size_push,z2]
  have z4:(ztH4 s.heap l1 l2).objs.size=s.heap.objs.size + 4:=by rw [Heap.size_push,z3]
  have z5:(ztH5 s.heap l1 l2).objs.size=s.heap.objs.size + 5:=by rw [Heap.size_push,z4]
  have k5:∀ c o,(ztH4 s.heap l1 l2).get? c=some o→(ztH5 s.heap l1 l2).get? c=some o:=fun c o e=>Heap.get?_push_of_some _ e
  have k4:∀ c o,(ztH3 s.heap l1 l2).get? c=some o→(ztH5 s.heap l1 l2).get? c=some o:=fun c o e=>k5 c o (Heap.get?_push_of_some _ e)
  have k3:∀ c o,(ztH2 s.heap l1 l2).get? c=some o→(ztH5 s.heap l1 l2).get? c=some o:=fun c o e=>k4 c o (Heap.get?_push_of_some _ e)
  have k2:∀ c o,(ztH1 s.heap l1).get? c=some o→(ztH5 s.heap l1 l2).get? c=some o:=fun c o e=>k3 c o (Heap.get?_push_of_some _ e)
  have g5:(ztH5 s.heap l1 l2).get? (ztH4 s.heap l1 l2).objs.size=some _:=Heap.get?_push_size _ rfl
  have g4:(ztH5 s.heap l1 l2).get? (ztH3 s.heap l1 l2).objs.size=some _:=k5 _ _ (Heap.get?_push_size _ rfl)
  have g3:(ztH5 s.heap l1 l2).get? (ztH2 s.heap l1 l2).objs.size=some _:=k4 _ _ (Heap.get?_push_size _ rfl)
  have g2:(ztH5 s.heap l1 l2).get? (ztH1 s.heap l1).objs.size=some _:=k3 _ _ (Heap.get?_push_size _ rfl)
  have g1:(ztH5 s.heap l1 l2).get? s.heap.objs.size=some _:=k2 _ _ (Heap.get?_push_size _ rfl)
  show _∧_
  rw [z2,z3,z4] at g5
  rw [z1,z2] at g3
  rw [z3] at g4
  rw [z1] at g2
  rw [z4]
  exact ⟨⟨_,g5,rfl⟩,q _ g5 g3 g4 ⟨_,g1,rfl,rfl⟩ ⟨_,g2,rfl,rfl⟩ z5 fun c o e=>k2 c o (Heap.get?_push_of_some _ e)⟩
end
def Izt (K:PySem.W.Frag) (a b:Addr):It :=
  ⟨fun i H=>∃ (xs ys:List V) (x y:V),SqL K H a xs∧SqT K H b ys∧xs[i]?=some x∧ys[i]?=some y,
    fun i H v H'=>∃ T x y,v=.ref T∧H T=none∧H'=upd H T (.tup [x,y])∧(∀ xs,SqL K H a xs→xs[i]?=some x)∧∀ ys,SqT K H b ys→ys[i]?=some y,
    fun i H=>∃ xs ys:List V,SqL K H a xs∧SqT K H b ys∧(xs.length≤i∨ys.length≤i)⟩
theorem turn_zt {P:Program} {w:PySem.World} {K:PySem.W.Frag} {elts:List Expr} {kk:Nat} {tpos:Pos} {a b z TI TO i1 i2:Addr} (D:ZipApart z TI TO i1 i2 a b) :
    Turn P w K (.Tuple elts kk tpos) (Izt K a b) [z,TI,TO,i1,i2] z (fun i h=>IsZip h z TI TO .none∧IsPair h TI (.ref i1) (.ref i2)∧(∃ x y,IsPair h TO x y)∧h.IsListIter i1 a i∧IsTupIter h i2 b i) where
  mem:=List.mem_cons_self
  obj:=fun i h st c hc=>by
    obtain ⟨hz,hTI,⟨x,y,hTO⟩,⟨o1,e1,_,d1⟩,⟨o2,e2,_,d2⟩⟩:=st
    have e':c=z∨c=TI∨c=TO∨c=i1∨c=i2:=by simpa using hc
    rcases e' with rfl | rfl | rfl | rfl | rfl
    · exact ⟨_,hz,fun v q=>nomatch q⟩
    · exact ⟨_,hTI,fun v q=>nomatch q⟩
    · exact ⟨_,hTO,fun v q=>nomatch q⟩
    · exact ⟨o1,e1,fun v q=>by rw [d1] at q; cases q⟩
    · exact ⟨o2,e2,fun v q=>by rw [d2] at q; cases q⟩
  keep:=fun i h h' st k=>by
    obtain ⟨hz,hTI,⟨x,y,hTO⟩,⟨o1,e1,r1⟩,⟨o2,e2,r2⟩⟩:=st
    exact ⟨k z (by simp) _ hz,k TI (by simp) _ hTI,⟨x,y,k TO (by simp) _ hTO⟩,⟨o1,k i1 (by simp) _ e1,r1⟩,⟨o2,k i2 (by simp) _ e2,r2⟩⟩
  item:=by
    intro X hP hw hK hc i pins s σ H E I hf st hg
    subst hP hw hK
    obtain ⟨hz,hTI,⟨x0,y0,hTO⟩,c1,c2⟩:=st
    obtain ⟨xs,ys,x,y,hqx,hqy,hx,hy⟩:=hg
    obtain ⟨its,rv,p,_⟩:=I.list hqx
    obtain ⟨jts,rv2,p2,_⟩:=I.tuple hqy
    obtain ⟨u,hu,ru⟩:=rv.get hx
    obtain ⟨u2,hu2,ru2⟩:=rv2.get hy
    have zl:z < s.heap.objs.size:=Heap.lt_size hz
    have hT:s.TypeIs (.ref z) "zip":=⟨_,hz,rfl⟩
    unfold pyNext
    refine wpAny_bind (wpAny_attempt (wpAny_callSpecial?_slot (name:=Str.ofString "__next__") hT F.slot_zip_next (wpAny_call_entry F.slot_zip_next hT F.entry_zip_next (zt_some D hz hTI hTO c1 c2 p.isList p2 (x:=u) (y:=u2) (by simpa using hu) (by simpa using hu2) fun h' z' TO' c1' c2' hT5 hsz hk=>wpAny_pure ?_) (F.args_zip_next_1 _))))
    refine ⟨_,rfl,wpAny_letOwnedTupleGo_zip (s:={ s with heap:=h' }) z' fun h'' z'' sb=>?_⟩
    have hT2:h''.get? s.heap.objs.size=some { cls:=.type "tuple",data:=.seq #[u,u2] }:=(sb.2 _ (Nat.ne_of_gt zl)).trans hT5
    have new:ObjOk X.prog X.w (upd H s.heap.objs.size (.tup [x,y])) h'' s.heap.objs.size (.tup [x,y]):=⟨by show 2≤sizeLine; decide,[u,u2],.cons ru (.cons ru2 .nil),⟨_,hT2,rfl,_,rfl⟩⟩
    have I1:Inv X pins σ (upd H s.heap.objs.size (.tup [x,y])) { s with heap:=h'' } :=
      I.turnedNew (t':=s.toks) (ch:=[z,TI,TO,i1,i2]) (fun c o hb q=>(sb.2 c (fun e=>hb (by simp [e]))).trans (hk c o (fun e=>hb (by simp [e])) (fun e=>hb (by simp [e])) (fun e=>hb (by simp [e])) (fun e=>hb (by simp [e])) q)) hf (Nat.le_refl _) new
    obtain ⟨o1,u1,v1⟩:=c1'
    obtain ⟨o2,w2,v2⟩:=c2'
    refine ⟨.ref s.heap.objs.size,_,I1,rfl,⟨_,x,y,rfl,I.hok.fresh (Nat.le_refl _),rfl,fun l hl=>by rw [I.list_inj hl hqx]; exact hx,fun l hl=>by rw [I.tuple_inj hl hqy]; exact hy⟩,
      ⟨z'',(sb.2 _ D.TIz).trans (hk _ _ D.TIz D.TITO D.TIi1 D.TIi2 hTI),⟨u,u2,(sb.2 _ D.TOz).trans TO'⟩,⟨o1,(sb.2 _ D.i1z).trans u1,v1⟩,⟨o2,(sb.2 _ D.i2z).trans w2,v2⟩⟩,fun c hcm=>?_⟩
    have lt:c < s.heap.objs.size:=by
      have e':c=z∨c=TI∨c=TO∨c=i1∨c=i2:=by simpa using hcm
      rcases e' with rfl | rfl | rfl | rfl | rfl
      · exact zl
      · exact Heap.lt_size hTI
      · exact Heap.lt_size hTO
      · obtain ⟨_,e1,_⟩:=c1; exact Heap.lt_size e1
      · obtain ⟨_,e2,_⟩:=c2; exact Heap.lt_size e2
    rw [upd_ne (Nat.ne_of_lt lt)]
    exact (hf c hcm).1
  done:=by
    intro X hP hw hK hc i pins s σ H E I hf st hg
    subst hP hw hK
    obtain ⟨hz,hTI,⟨x0,y0,hTO⟩,c1,c2⟩:=st
    obtain ⟨xs,ys,hqx,hqy,hend⟩:=hg
    obtain ⟨its,rv,p,_⟩:=I.list hqx
    obtain ⟨jts,rv2,p2,_⟩:=I.tuple hqy
    have n1:=rv.length
    have n2:=rv2.length
    have he:its.toArray[i]?=none∨jts.toArray[i]?=none:=by
      rcases hend with q | q
      · exact .inl (by simp; omega)
      · exact .inr (by simp; omega)
    have hT:s.TypeIs (.ref z) "zip":=⟨_,hz,rfl⟩
    unfold pyNext
    refine wpAny_bind (wpAny_attempt (wpAny_callSpecial?_slot (name:=Str.ofString "__next__") hT F.slot_zip_next (wpAny_call_entry F.slot_zip_next hT F.entry_zip_next (zt_none (I.ok.hd hc) D hz hTI hTO c1 c2 p.isList p2 he fun h' e hk ⟨o,ho,hc'⟩=>?_) (F.args_zip_next_1 _))))
    refine wpAny_bind (wpAny_isInstance (T:="StopIteration") (b:=true) ⟨o,ho,hc'⟩ isSubtype_stop (wpAny_pure ⟨rfl,?_⟩))
    exact I.turnedL (t':=s.toks) (ch:=[z,TI,TO,i1,i2]) (fun c o hb q=>hk c o (fun e=>hb (by simp [e])) (fun e=>hb (by simp [e])) (fun e=>hb (by simp [e])) (fun e=>hb (by simp [e])) q) hf
  self:=fun A i s Q E st h=>wpAny_pyIter_zip st.1 h
def iZt (K:PySem.W.Frag) (ta:L2.TA):TI:=fun σ H R=>ta σ H fun vs H1=>∃ a b xs ys,vs=[.ref a,.ref b]∧SqL K H1 a xs∧SqT K H1 b ys∧R (Izt K a b) H1
theorem pi_zt {X:Cx} {K:PySem.W.Frag} {e e2:Expr} {ta:L2.TA} {p pos tpos:Pos} {elts:List Expr} {kk:Nat} (hm:X.mg "zip" = none) (ha:PA X [e,e2] ta) (hg:Gl X "zip":=by rfl)
    (hs:starEach [e,e2] X.env=(false,eval e X.env)::starEach [e2] X.env:=by rfl) (hpl:(backTo pos (starEach [e2] X.env)).any (·.1)=false:=by rfl) (hK:X.K=K:=by rfl):PI X (.Tuple elts kk tpos) (.Call (.Name "zip" p) [e,e2] [] pos) (iZt K ta):=by
  subst hK
  intro pins s σ H R I h
  refine Call_ (ld_blt I hg hm boot_zip5 (PyProof.Rows.callWith_type1 (thn (ha pos pins s σ H _ I h) fun us s1 ⟨vs,H1,I1,r1,a,b,xs,ys,ex,hqx,hqy,q⟩=>?_) hs hpl))
  subst ex
  cases r1 with
  | cons r rr =>
    cases rr with
    | cons r' rr =>
      cases rr; cases r; cases r'
      obtain ⟨its,rv,p1,_⟩:=I1.list hqx
      obtain ⟨jts,rv2,p2,_⟩:=I1.tuple hqy
      refine zt_call p1.isList p2 fun h' hz hTI hTO c1 c2 hsz hk=>wpAny_pyIter_zip hz ?_
      have I2:Inv X pins σ H1 { s1 with heap:=h' }:=I1.kept (t':=s1.toks) hk
      refine ⟨s1.heap.objs.size + 4,[s1.heap.objs.size + 4,s1.heap.objs.size + 2,s1.heap.objs.size + 3,s1.heap.objs.size,s1.heap.objs.size + 1],_,_,H1,rfl,I2,turn_zt (PySem.W.ktu_apart s1.heap.objs.size a b p1.lt p2.lt),⟨hz,hTI,⟨_,_,hTO⟩,c1,c2⟩,fun c hcm=>?_,q⟩
      have hle:s1.heap.objs.size≤c:=by
        have e':c=s1.heap.objs.size + 4∨c=s1.heap.objs.size + 2∨c=s1.heap.objs.size + 3∨c=s1.heap.objs.size∨c=s1.heap.objs.size + 1:=by simpa using hcm
        rcases e' with z | z | z | z | z <;> (rw [z]; first | exact Nat.le_add_right _ _ | exact Nat.le_refl _)
      exact I1.fpOk hle (I1.hok.fresh hle)
def RNG:List (Str × Int × Int):=[("ports",1,48),("cap",1,10000),("bit",0,1),("supply amount",1,10000000),("rank",0,3),("class",1,4),("amount",0,100000),("time",0,1000000)]
def NUMB:List (List Str):=[[],["supply","bit"],["bit"],["port","bit","rank","amount"],["port","class"],["port"],[],["port","amount"],["port","amount"],["port"],["port"],["port"],["message"],["message"],["message"],[],["time"],["port"],["port"],[],[],["message"],[]]
def rngOf (w:VW) (x:Str):Option (Int × Int):=if x = "port" then some (0,(w.ports.length:Int) - 1) else if x = "supply" then some (0,(w.supplies.length:Int) - 1) else if x = "message" then some (0,(w.bag.length:Int) - 1) else RNG.lookup x
structure TxtD (P:Program) (w:PySem.World) (K:PySem.W.Frag) (mg:Str→Option Value):Prop where
  rng:∃ a vs,mg "RANGES" = some (.ref a)∧KMap P w K a vs∧∀ x lo hi,RNG.lookup x=some (lo,hi)→∃ b,valueAt vs (.inr x)=some (.ref b)∧∀ H:Hp,SqT K H b [.int lo,.int hi]
  num:∃ a as,mg "NUMBERS" = some (.ref a)∧(∀ H:Hp,SqT K H a (refs as))∧∀ (i:Nat) (l:List Str),NUMB[i]?=some l→∃ b,as[i]?=some b∧∀ H:Hp,SqT K H b (l.map V.str)
theorem Rep.bgs {t:Cas} {A:Rl→Addr} {H E:Hp} {w:VW} (R:Rep t A H w E):∃ ms,H (A .bg)=some (.lst (refs ms))∧(refs ms).length=w.bag.length:=by
  obtain ⟨G,gs,ms,hA,R⟩:=R
  have z:H (G.ad .bg)=some (.lst (refs ms)):=R.at_ .bg trivial
  rw [hA .bg rfl] at z
  exact ⟨ms,z,by unfold refs; rw [List.length_map]; exact R.mlen⟩
theorem lc_zt {K:PySem.W.Frag} {a b:Addr} {xs ys:List V} {g:TG} {tt:TT} {te:TE} {vs:List Nat} {σ:L2.St} {H1:Hp} {D:Addr} {Qd:Hp→Prop} (Pv:Nat→Hp→Prop) (h0:Pv 0 (upd H1 D (.lst []))) (hl:∀ i H,Pv i H→SqL K H a xs∧SqT K H b ys) (he:xs.length=ys.length)
    (hs:∀ i x y H T,xs[i]?=some x→ys[i]?=some y→Pv i H→H T=none→g (.ref T) (wipe σ vs) (upd H T (.tup [x,y])) fun σ2 H2=>wipe σ2 vs=wipe σ vs∧tt σ2 H2 fun b H3 =>
      if b=true then te σ2 H3 fun y H4=>∃ acc,H4 D=some (.lst acc)∧acc.length < sizeLine∧Pv (i + 1) (upd H4 D (.lst (acc ++ [y]))) else Pv (i + 1) H3) (hd:∀ H,Pv xs.length H→Qd H) :
    ∃ W:Nat→Nat→Hp→Prop,(∃ m,W 0 m (upd H1 D (.lst [])))∧∀ i m H,W i m H →
      ((Izt K a b).stop i H∧Qd H)∨((Izt K a b).go i H∧∃ Nx:Hp→Prop,(∀ H',Nx H'→∃ m',m' < m∧W (i + 1) m' H')∧∀ x H',(Izt K a b).yld i H x H'→g x (wipe σ vs) H' fun σ2 H2=>wipe σ2 vs=wipe σ vs∧tt σ2 H2 fun b H3 =>
        if b=true then te σ2 H3 fun y H4=>∃ acc,H4 D=some (.lst acc)∧acc.length < sizeLine∧Nx (upd H4 D (.lst (acc ++ [y]))) else Nx H3):=by
  refine ⟨fun i m H=>m=xs.length - i∧i≤xs.length∧Pv i H,⟨xs.length,(Nat.sub_zero _).symm,Nat.zero_le _,h0⟩,?_⟩
  rintro i m H ⟨rfl,hi,p⟩
  obtain ⟨q1,q2⟩:=hl i H p
  by_cases hlt:i < xs.length
  · have hlt2:i < ys.length:=he ▸ hlt
    refine .inr ⟨⟨xs,ys,xs[i],ys[i],q1,q2,List.getElem?_eq_getElem hlt,List.getElem?_eq_getElem hlt2⟩,Pv (i + 1),fun H' p'=>⟨xs.length - (i + 1),by omega,rfl,hlt,p'⟩,fun v H' yl=>?_⟩
    obtain ⟨T,x,y,rfl,hT,rfl,f1,f2⟩:=yl
    exact hs i x y H T (f1 xs q1) (f2 ys q2) p hT
  · have e:i=xs.length:=by omega
    subst e
    exact .inl ⟨⟨xs,ys,q1,q2,.inl (Nat.le_refl _)⟩,hd H p⟩
section
variable {P:Program} {w₀:PySem.World} {K:PySem.W.Frag} {mg:Str→Option Value} {base:Heap} {t:Cas} {f:Addr} {fd:FuncData}
def spIn (K:PySem.W.Frag):Sp:=fun vs H Q _=>∃ (n lo hi:Int) (e:Addr),vs=[.int n,.ref e]∧SqT K H e [.int lo,.int hi]∧Q (.bl (Vbcnam.within n lo hi)) H
theorem ok_is_within (T:Txt K mg t) (F:Fun K "is_within" "is_within" s_is_within f fd):FnOk P w₀ K mg base CX0 1 f fd ["number","ends"] (spIn K):=by
  refine F.ok sc_is_within (fun vs H Q E h=>?_) (fun cdv A outer s H vs Q E hr h=>?_)
  · obtain ⟨_,_,_,_,rfl,_⟩:=h; rfl
  · obtain ⟨n,lo,hi,e,rfl,he,q⟩:=h
    have nd:=sc_is_within.nd
    refine ⟨_,(pss_one (ps_ret (pe_chain op_le op_le (pe_ix (ix_tupK (K:=K)) (pv 1) pe_int (fun _ _=>rfl)) (pv 0) (pe_ix (ix_tupK (K:=K)) (pv 1) pe_int (fun _ _=>rfl))))),?_⟩
    refine ⟨_,rfl,e,_,_,.int lo,rfl,rfl,he,rfl,_,rfl,_,_,rfl,rfl,_,rfl,?_⟩
    unfold Vbcnam.within at q
    by_cases h1:lo≤n
    · refine ite2 (fun _=>?_) (fun h=>absurd (decide_eq_true h1) h)
      rw [decide_eq_true h1,Bool.true_and] at q
      exact ⟨_,rfl,e,_,_,.int hi,rfl,rfl,he,rfl,_,_,rfl,rfl,q⟩
    · refine ite2 (fun h=>absurd (of_decide_eq_true h) h1) (fun _=>?_)
      rw [decide_eq_false h1,Bool.false_and] at q
      exact q
def spEnds (t:Cas) (K:PySem.W.Frag):Sp:=fun vs H Q _=>∃ (A:Rl→Addr) (w:VW) (E:Hp) (x:Str) (lo hi:Int),vs=[.ref (A .wd),.str x]∧Rep t A H w E∧rngOf w x=some (lo,hi)∧∀ H' e,Rep t A H' w E→SqT K H' e [.int lo,.int hi]→Q (.ref e) H'
theorem ok_ends_of (T:Txt K mg t) (TD:TxtD P w₀ K mg) (F:Fun K "ends_of" "ends_of" s_ends_of f fd):FnOk P w₀ K mg base CX0 1 f fd ["world","name"] (spEnds t K):=by
  refine F.ok sc_ends_of (fun vs H Q E h=>?_) (fun cdv A outer s H vs Q E hr h=>?_)
  · obtain ⟨_,_,_,_,_,_,rfl,_⟩:=h; rfl
  · obtain ⟨A,w,E,x,lo,hi,rfl,R,hx,q⟩:=h
    have nd:=sc_ends_of.nd
    obtain ⟨aR,vs,m_RANGES,KM,hR⟩:=TD.rng
    refine ⟨_,(pss_cons (ps_if (pt_cmpR op_eq (pv 1) pe_str (nomark _)) (pss_one (ps_ret (pe_tup (pa_cons pe_int (pa_cons (pe_op op_sub (pe_callB (call_lenK (K:=K)) (by rfl) T.b_len PySem.boot_len (pa_cons (pe_fl (K:=K) (pv 0)) pa_nil)) pe_int) pa_nil))))) pss_nil) (pss_cons (ps_if (pt_cmpR op_eq (pv 1) pe_str (nomark _)) (pss_one (ps_ret (pe_tup (pa_cons pe_int (pa_cons (pe_op op_sub (pe_callB (call_lenK (K:=K)) (by rfl) T.b_len PySem.boot_len (pa_cons (pe_fl (K:=K) (pv 0)) pa_nil)) pe_int) pa_nil))))) pss_nil) (pss_cons (ps_if (pt_cmpR op_eq (pv 1) pe_str (nomark _)) (pss_one (ps_ret (pe_tup (pa_cons pe_int (pa_cons (pe_op op_sub (pe_callB (call_lenK (K:=K)) (by rfl) T.b_len PySem.boot_len (pa_cons (pe_fl (K:=K) (pv 0)) pa_nil)) pe_int) pa_nil))))) pss_nil) (pss_one (ps_ret (pe_kg (K:=K) (P:=P) (w:=w₀) (pe_gr m_RANGES) (pv 1))))))),?_⟩
    obtain ⟨dxw,hw⟩:=R.wld
    unfold rngOf at hx
    refine ⟨_,rfl,rfl,_,rfl,?_⟩
    by_cases h1:x = "port"
    · subst h1
      rw [if_pos rfl] at hx
      obtain ⟨rfl,rfl⟩:=Prod.mk.inj (Option.some.inj hx)
      refine ite2 (fun _=>?_) (fun h=>absurd (decide_eq_true rfl) h)
      refine ⟨_,rfl,r_world_ports T hw ⟨_,_,rfl,.inl (SqL.of R.pls),_,_,rfl,rfl,(by show 2≤sizeLine; decide),fun p hp=>?_⟩⟩
      have el:(refs ((List.range w.ports.length).map fun i=>A (.po i))).length=w.ports.length:=by unfold refs; rw [List.length_map,List.length_map,List.length_range]
      rw [el]
      obtain ⟨e1,R5⟩:=R.ans (o:=.tup [.int 0,.int ((w.ports.length:Int) - 1)]) hp
      exact q _ p (R5.drop e1) (SqT.of upd_same)
    · refine ite2 (fun h=>absurd (V.str.inj (of_decide_eq_true h)) h1) (fun _=>?_)
      rw [if_neg h1] at hx
      refine ⟨_,rfl,rfl,_,rfl,?_⟩
      by_cases h2:x = "supply"
      · subst h2
        rw [if_pos rfl] at hx
        obtain ⟨rfl,rfl⟩:=Prod.mk.inj (Option.some.inj hx)
        refine ite2 (fun _=>?_) (fun h=>absurd (decide_eq_true rfl) h)
        refine ⟨_,rfl,r_world_supplies T hw ⟨_,_,rfl,.inl (SqL.of R.sls),_,_,rfl,rfl,(by show 2≤sizeLine; decide),fun p hp=>?_⟩⟩
        have el:(refs ((List.range w.supplies.length).map fun i=>A (.su i))).length=w.supplies.length:=by unfold refs; rw [List.length_map,List.length_map,List.length_range]
        rw [el]
        obtain ⟨e1,R5⟩:=R.ans (o:=.tup [.int 0,.int ((w.supplies.length:Int) - 1)]) hp
        exact q _ p (R5.drop e1) (SqT.of upd_same)
      · refine ite2 (fun h=>absurd (V.str.inj (of_decide_eq_true h)) h2) (fun _=>?_)
        rw [if_neg h2] at hx
        refine ⟨_,rfl,rfl,_,rfl,?_⟩
        by_cases h3:x = "message"
        · subst h3
          rw [if_pos rfl] at hx
          obtain ⟨rfl,rfl⟩:=Prod.mk.inj (Option.some.inj hx)
          refine ite2 (fun _=>?_) (fun h=>absurd (decide_eq_true rfl) h)
          obtain ⟨ms,hb,lb⟩:=R.bgs
          refine ⟨_,rfl,r_world_bag T hw ⟨_,_,rfl,.inl (SqL.of hb),_,_,rfl,rfl,(by show 2≤sizeLine; decide),fun p hp=>?_⟩⟩
          rw [lb]
          obtain ⟨e1,R5⟩:=R.ans (o:=.tup [.int 0,.int ((w.bag.length:Int) - 1)]) hp
          exact q _ p (R5.drop e1) (SqT.of upd_same)
        · refine ite2 (fun h=>absurd (V.str.inj (of_decide_eq_true h)) h3) (fun _=>?_)
          rw [if_neg h3] at hx
          obtain ⟨b,hb,sb⟩:=hR x lo hi hx
          exact ⟨_,rfl,aR,vs,x,_,.ref b,rfl,rfl,KM,hb,rfl,q H b R (sb H)⟩
end
def inR (ns:List Int) (rs:List (Int × Int)):List Bool:=List.zipWith (fun n r=>Vbcnam.within n r.1 r.2) ns rs
section
variable {P:Program} {w₀:PySem.World} {K:PySem.W.Frag} {mg:Str→Option Value} {base:Heap} {t:Cas} {f:Addr} {fd:FuncData}
def spRange (t:Cas):Sp:=fun vs H Q _=>∃ (A:Rl→Addr) (w:VW) (E:Hp) (pl:Nat) (nm:Addr) (ns:List Int) (l:List Str) (rs:List (Int × Int)),vs=[.ref (A .wd),.int pl,.ref nm]∧Rep t A H w E∧E nm=some (.lst (intV ns))∧NUMB[pl]?=some l ∧
  l.map (rngOf w)=rs.map some∧ns.length=l.length∧ns.length≤100∧∀ H',Rep t A H' w E→Q (.bl ((inR ns rs).all id)) H'
theorem ok_are_in_range (T:Txt K mg t) (TD:TxtD P w₀ K mg) (F:Fun K "are_in_range" "are_in_range" s_are_in_range f fd) (F_is_within:Known P w₀ K mg base "is_within" 1 ["number","ends"] (spIn K)) (F_ends_of:Known P w₀ K mg base "ends_of" 1 ["world","name"] (spEnds t K)) :
    FnOk P w₀ K mg base CX0 2 f fd ["world","place","numbers"] (spRange t):=by
  refine F.ok sc_are_in_range (fun vs H Q E h=>?_) (fun cdv A outer s H vs Q E hr h=>?_)
  · obtain ⟨_,_,_,_,_,_,_,_,rfl,_⟩:=h; rfl
  · obtain ⟨A,w,E,pl,nm,ns,l,rs,rfl,R,hnm,hpl,hrs,hlen,hle,q⟩:=h
    have nd:=sc_are_in_range.nd
    obtain ⟨aN,as,m_NUMBERS,sN,hN⟩:=TD.num
    obtain ⟨b,hb,sb⟩:=hN pl l hpl
    refine ⟨_,(pss_one (ps_ret (pe_callB (cr_allK (K:=K)) (by rfl) T.b_all boot_all (pa_cons (pe_lc (own:=[("number",3),("name",4)]) rfl nd (pi_zt (K:=K) T.b_zip (pa_cons (pv 2) (pa_cons (pe_ix (ix_tupK (K:=K)) (pe_gr m_NUMBERS) (pv 1) (fun _ _=>rfl)) pa_nil))) (by show BlkOk ["world","place","numbers","number","name"] (defScope s_are_in_range) _ _; exact ⟨rfl,by decide +kernel,by decide +kernel,by decide +kernel,by decide +kernel⟩) (fun _ _ _ _ _=>pg_tupK (K:=K) (n:=2) (pgs_cons (pg_name (i:=3) nd rfl (Or.inl rfl)) (pgs_cons (pg_name (i:=4) nd rfl (Or.inl rfl)) pgs_nil))) (fun _ _ _ _ _=>pts_nil) (fun _ _ _ _ _=>(pe_f F_is_within (hr.mono (by decide)) (pa_cons (pv 3) (pa_cons (pe_f F_ends_of (hr.mono (by decide)) (pa_cons (pv 0) (pa_cons (pv 4) pa_nil))) pa_nil))))) pa_nil)))),?_⟩
    have lr:rs.length=ns.length:=by
      have:=congrArg List.length hrs
      rw [List.length_map,List.length_map] at this
      omega
    have lb:(inR ns rs).length=ns.length:=by unfold inR; rw [List.length_zipWith]; omega
    have lx:(intV ns).length=ns.length:=by unfold intV; rw [List.length_map]
    have ix:atI (refs as) (pl:Int)=some (.ref b):=atI_nat (by unfold refs; rw [List.getElem?_map,hb]; rfl)
    refine ⟨_,rfl,_,rfl,aN,_,_,.ref b,rfl,rfl,sN H,ix,?_⟩
    refine ⟨nm,b,intV ns,l.map V.str,rfl,SqL.of (R.sub hnm),sb H,fun D hD=>?_⟩
    have ED:E D=none:=(R.ans (o:=.lst []) hD).1
    refine lc_zt (K:=K) (a:=nm) (b:=b) (xs:=intV ns) (ys:=l.map V.str) (fun i H'=>Rep t A H' w (upd E D (.lst (((inR ns rs).take i).map V.bl)))) (R.ans hD).2
      (fun i H' R'=>⟨SqL.of (R'.sub (by rw [upd_ne (ne_of_none hnm ED)]; exact hnm)),sb H'⟩) (by rw [lx,List.length_map]; exact hlen) (fun i x y H' T' hx hy R' hT'=>?_) (fun H' R'=>?_)
    · obtain ⟨n,en,rfl⟩:∃ n,ns[i]?=some n∧x=.int n:=by
        unfold intV at hx
        rw [List.getElem?_map] at hx
        cases e:ns[i]? with
        | none=>rw [e] at hx; cases hx
        | some n=>rw [e] at hx; exact ⟨n,rfl,(Option.some.inj hx).symm⟩
      obtain ⟨z,ez,rfl⟩:∃ z,l[i]?=some z∧y=.str z:=by
        rw [List.getElem?_map] at hy
        cases e:l[i]? with
        | none=>rw [e] at hy; cases hy
        | some n=>rw [e] at hy; exact ⟨n,rfl,(Option.some.inj hy).symm⟩
      obtain ⟨r,er,hr'⟩:∃ r,rs[i]?=some r∧rngOf w z=some r:=by
        have:=congrArg (fun l=>l[i]?) hrs
        simp only [List.getElem?_map,ez] at this
        cases e:rs[i]? with
        | none=>rw [e] at this; cases this
        | some r=>rw [e] at this; exact ⟨r,rfl,Option.some.inj this⟩
      have hi:i < ns.length:=by
        by_cases z:i < ns.length
        · exact z
        · rw [List.getElem?_eq_none (by omega)] at en; cases en
      have ew:(inR ns rs)[i]?=some (Vbcnam.within n r.1 r.2):=by
        unfold inR
        rw [List.getElem?_zipWith,en,er]
      obtain ⟨e1,R1⟩:=R'.ans (o:=.tup [.int n,.str z]) hT'
      refine ⟨T',_,rfl,SqT.of upd_same,rfl,?_⟩
      refine ⟨_,_,rfl,_,_,rfl,rfl,rfl,?_⟩
      show ∃ x,_∧_
      refine ⟨_,rfl,_,rfl,_,rfl,A,w,_,z,r.1,r.2,rfl,R1.drop e1,hr',fun H2 e R2 he=>?_⟩
      refine ⟨n,r.1,r.2,e,rfl,he,_,R2.sub upd_same,?_,?_⟩
      · rw [List.length_map,List.length_take]
        exact Nat.lt_of_le_of_lt (Nat.min_le_left _ _) (Nat.lt_of_lt_of_le hi (Nat.le_trans hle (by decide)))
      · have R3:=R2.extw (o:=.lst (((inR ns rs).take i).map V.bl ++ [.bl (Vbcnam.within n r.1 r.2)])) upd_same trivial
        rw [upd_upd] at R3
        rw [take_snoc ew,List.map_append]
        exact R3
    · rw [lx,← lb,List.take_length] at R'
      exact ⟨D,inR ns rs,rfl,SqL.of (R'.sub upd_same),q H' (R'.drop ED)⟩
end
def Sta (t:Cas) (A:Rl→Addr) (H:Hp) (s:Option VW) (E:Hp):Prop:=match s with
  | none=>Frm t H E
  | some w=>Rep t A H w E
section
variable {t:Cas} {A:Rl→Addr} {H E:Hp} {s:Option VW} {w:VW}
theorem Rep.frm (R:Rep t A H w E):Frm t H E:=let ⟨_,_,_,_,R⟩:=R; ⟨fun b o e=>(R.fr b o e).1,R.tab,R.et⟩
theorem Sta.frm (S:Sta t A H s E):Frm t H E:=by
  cases s with
  | none=>exact S
  | some w=>exact Rep.frm S
theorem Frm.none_of (F:Frm t H E) {p:Addr} (hp:H p=none):E p=none:=by
  cases e:E p with
  | none=>rfl
  | some o=>rw [F.fr p o e] at hp; cases hp
theorem Frm.ext (F:Frm t H E) {p:Addr} {o:HO} (hp:H p=none):Frm t (upd H p o) (upd E p o) where
  fr:=fun b o' e=>by
    by_cases hb:b=p
    · subst hb; rw [upd_same] at e ⊢; exact e
    · rw [upd_ne hb] at e ⊢; exact F.fr b o' e
  tab:=tab_upd (.inl hp) F.tab
  et:=by
    obtain ⟨ps,hT,_⟩:=F.tab
    rw [upd_ne (ne_of_none hT hp)]
    exact F.et
theorem Frm.extw (F:Frm t H E) {p:Addr} {o0 o:HO} (hp:E p=some o0) (hs:Soft o0):Frm t (upd H p o) (upd E p o) where
  fr:=fun b o' e=>by
    by_cases hb:b=p
    · subst hb; rw [upd_same] at e ⊢; exact e
    · rw [upd_ne hb] at e ⊢; exact F.fr b o' e
  tab:=tab_upd (.inr ⟨_,F.fr p o0 hp,hs⟩) F.tab
  et:=by
    obtain ⟨ps,hT,_⟩:=F.tab
    rw [upd_ne (ne_of hT (F.fr p o0 hp) (fun z=>by subst z; exact hs))]
    exact F.et
theorem Frm.less {E':Hp} (F:Frm t H E) (h:∀ b o,E' b=some o→E b=some o):Frm t H E' where
  fr:=fun b o e=>F.fr b o (h b o e)
  tab:=F.tab
  et:=by
    cases e:E' t.T with
    | none=>rfl
    | some o =>
      have:=h _ _ e
      rw [F.et] at this
      cases this
theorem Sta.ans {p:Addr} {o:HO} (S:Sta t A H s E) (hp:H p=none):E p=none∧Sta t A (upd H p o) s (upd E p o):=by
  cases s with
  | none=>exact ⟨Frm.none_of S hp,Frm.ext S hp⟩
  | some w=>exact Rep.ans S hp
theorem Sta.extw {p:Addr} {o0 o:HO} (S:Sta t A H s E) (hp:E p=some o0) (hs:Soft o0):Sta t A (upd H p o) s (upd E p o):=by
  cases s with
  | none=>exact Frm.extw S hp hs
  | some w=>exact Rep.extw S hp hs
theorem Sta.less {E':Hp} (S:Sta t A H s E) (h:∀ b o,E' b=some o→E b=some o):Sta t A H s E':=by
  cases s with
  | none=>exact Frm.less S h
  | some w=>exact Rep.less S h
theorem Sta.drop {p:Addr} {o:HO} (S:Sta t A H s (upd E p o)) (hp:E p=none):Sta t A H s E:=S.less fun b o' e=>by rw [upd_ne (ne_of_none e hp)]; exact e
theorem Sta.sub (S:Sta t A H s E) {b:Addr} {o:HO} (h:E b=some o):H b=some o:=S.frm.fr b o h
end
theorem cut3 (n c p:Int) (l:List Int):cutV (intV (n::c::p::l)) (some 3) none=intV l:=by
  have e1:HT.sIx (intV (n::c::p::l)).length 0 (some 3)=3:=by
    have:(intV (n::c::p::l)).length=l.length + 3:=by unfold intV; rw [List.length_map]; rfl
    rw [this]
    unfold HT.sIx
    simp
  unfold cutV
  rw [e1]
  show ((intV l)).take ((intV (n::c::p::l)).length - 3)=intV l
  have:(intV (n::c::p::l)).length - 3=(intV l).length:=by unfold intV; rw [List.length_map,List.length_map]; rfl
  rw [this,List.take_length]
def canB (n c p:Int) (l:List Int):Bool:=Vbcnam.within n 1 48 && (Vbcnam.within c 1 10000 && (Vbcnam.within p 0 1 && (decide (1≤l.length) && (decide (l.length≤4) && l.all fun m=>Vbcnam.within m 1 10000000))))
section
variable {P:Program} {w₀:PySem.World} {K:PySem.W.Frag} {mg:Str→Option Value} {base:Heap} {t:Cas} {f:Addr} {fd:FuncData}
def spCanB (t:Cas):Sp:=fun vs H Q _=>∃ (A:Rl→Addr) (s:Option VW) (E:Hp) (nm:Addr) (n c p:Int) (l:List Int),vs=[.ref nm]∧Sta t A H s E∧E nm=some (.lst (intV (n::c::p::l)))∧l.length≤96∧∀ H',Sta t A H' s E→Q (.bl (canB n c p l)) H'
theorem ok_can_begin (T:Txt K mg t) (TD:TxtD P w₀ K mg) (F:Fun K "can_begin" "can_begin" s_can_begin f fd) (F_is_within:Known P w₀ K mg base "is_within" 1 ["number","ends"] (spIn K)) :
    FnOk P w₀ K mg base CX0 2 f fd ["numbers"] (spCanB t):=by
  refine F.ok sc_can_begin (fun vs H Q E h=>?_) (fun cdv A outer s H vs Q E hr h=>?_)
  · obtain ⟨_,_,_,_,_,_,_,_,rfl,_⟩:=h; rfl
  · obtain ⟨A,s,E,nm,n,c,p,l,rfl,S,hnm,hl,q⟩:=h
    have nd:=sc_can_begin.nd
    obtain ⟨aR,vs,m_RANGES,KM,hR⟩:=TD.rng
    refine ⟨_,(pss_cons (ps_set (i:=1) nd rfl (Or.inl rfl) (pe_slice (sl_listK (K:=K)) (pv 0) (po_some pe_int) po_none)) (pss_cons (ps_if (pt_not (pt_val (pe_f F_is_within (hr.mono (by decide)) (pa_cons (pe_callB (call_lenK (K:=K)) (by rfl) T.b_len PySem.boot_len (pa_cons (pv 1) pa_nil)) (pa_cons (pe_tup (pa_cons pe_int (pa_cons pe_int pa_nil))) pa_nil))))) (pss_one (ps_ret pe_bl)) pss_nil) (pss_cons (ps_if (pt_not (pt_val (pe_callB (cr_allK (K:=K)) (by rfl) T.b_all boot_all (pa_cons (pe_lc (own:=[("amount",2)]) rfl nd (pi_listK (K:=K) (pv 1)) (by show BlkOk ["numbers","amounts","amount"] (defScope s_can_begin) _ _; exact ⟨rfl,by decide +kernel,by decide +kernel,by decide +kernel,by decide +kernel⟩) (fun _ _ _ _ _=>pg_name (i:=2) nd rfl (Or.inl rfl)) (fun _ _ _ _ _=>pts_nil) (fun _ _ _ _ _=>(pe_f F_is_within (hr.mono (by decide)) (pa_cons (pv 2) (pa_cons (pe_kg (K:=K) (P:=P) (w:=w₀) (pe_gr m_RANGES) pe_str) pa_nil))))) pa_nil)))) (pss_one (ps_ret pe_bl)) pss_nil) (pss_one (ps_ret (pe_and (pe_f F_is_within (hr.mono (by decide)) (pa_cons (pe_ix (ix_listK (K:=K)) (pv 0) pe_int (fun _ _=>rfl)) (pa_cons (pe_kg (K:=K) (P:=P) (w:=w₀) (pe_gr m_RANGES) pe_str) pa_nil))) (pe_and (pe_f F_is_within (hr.mono (by decide)) (pa_cons (pe_ix (ix_listK (K:=K)) (pv 0) pe_int (fun _ _=>rfl)) (pa_cons (pe_kg (K:=K) (P:=P) (w:=w₀) (pe_gr m_RANGES) pe_str) pa_nil))) (pe_one (pe_f F_is_within (hr.mono (by decide)) (pa_cons (pe_ix (ix_listK (K:=K)) (pv 0) pe_int (fun _ _=>rfl)) (pa_cons (pe_kg (K:=K) (P:=P) (w:=w₀) (pe_gr m_RANGES) pe_str) pa_nil))))))))))),?_⟩
    obtain ⟨b1,hb1,sb1⟩:=hR "supply amount" 1 10000000 (by decide +kernel)
    obtain ⟨b2,hb2,sb2⟩:=hR "ports" 1 48 (by decide +kernel)
    obtain ⟨b3,hb3,sb3⟩:=hR "cap" 1 10000 (by decide +kernel)
    obtain ⟨b4,hb4,sb4⟩:=hR "bit" 0 1 (by decide +kernel)
    refine ⟨_,rfl,3,rfl,nm,_,rfl,SqL.of (S.sub hnm),fun a ha=>?_⟩
    rw [cut3]
    obtain ⟨Ea,S1⟩:=S.ans (o:=.lst (intV l)) ha
    have ham:upd E a (.lst (intV l)) a=some (.lst (intV l)):=upd_same
    have hnm1:upd E a (.lst (intV l)) nm=some (.lst (intV (n::c::p::l))):=by rw [upd_ne (ne_of_none hnm Ea)]; exact hnm
    have lx:(intV l).length=l.length:=by unfold intV; rw [List.length_map]
    refine ⟨_,rfl,a,_,rfl,.inl (SqL.of (S1.sub ham)),(by show 2≤sizeLine; decide),fun e he=>?_⟩
    rw [lx]
    obtain ⟨Ee,S2'⟩:=S1.ans (o:=.tup [.int 1,.int 4]) he
    have S2:=S2'.drop Ee
    refine ⟨l.length,1,4,e,rfl,SqT.of upd_same,_,rfl,?_⟩
    have cb:canB n c p l=(Vbcnam.within l.length 1 4 && (l.all (fun m=>Vbcnam.within m 1 10000000) && (Vbcnam.within n 1 48 && (Vbcnam.within c 1 10000 && Vbcnam.within p 0 1)))):=by
      have:Vbcnam.within l.length 1 4=(decide (1≤l.length) && decide (l.length≤4)):=by
        unfold Vbcnam.within
        congr 1 <;> exact decide_eq_decide.mpr (by omega)
      unfold canB
      rw [this]
      cases Vbcnam.within n 1 48 <;> cases Vbcnam.within c 1 10000 <;> cases Vbcnam.within p 0 1 <;> cases decide (1≤l.length) <;> cases decide (l.length≤4) <;> cases l.all (fun m=>Vbcnam.within m 1 10000000) <;> rfl
    rw [cb] at q
    cases hw:Vbcnam.within l.length 1 4 with
    | false =>
      rw [hw,Bool.false_and] at q
      refine ite2 (fun _=>?_) (fun h=>absurd rfl h)
      exact q _ (S2.drop Ea)
    | true =>
      rw [hw,Bool.true_and] at q
      refine ite2 (fun h=>absurd h (by decide)) (fun _=>?_)
      refine ⟨_,rfl,a,rfl,⟨_,SqL.of (S2.sub ham)⟩,fun D hD=>?_⟩
      obtain ⟨ED,S3⟩:=S2.ans (o:=.lst []) hD
      have ham':∀ {o:HO},upd (upd E a (.lst (intV l))) D o a=some (.lst (intV l)):=fun {o}=>by rw [upd_ne (ne_of_none ham ED)]; exact ham
      refine lc_list (K:=K) (a:=a) (xs:=intV l) (fun i H'=>Sta t A H' s (upd (upd E a (.lst (intV l))) D (.lst (((l.map fun m=>Vbcnam.within m 1 10000000).take i).map V.bl)))) S3 (fun i H' hi S'=>SqL.of (S'.sub ham')) (fun i x H' hx S'=>?_) (fun H' S'=>?_)
      · obtain ⟨m,em,rfl⟩:∃ m,l[i]?=some m∧x=.int m:=by
          unfold intV at hx
          rw [List.getElem?_map] at hx
          cases e:l[i]? with
          | none=>rw [e] at hx; cases hx
          | some n=>rw [e] at hx; exact ⟨n,rfl,(Option.some.inj hx).symm⟩
        have hi:i < l.length:=by
          by_cases z:i < l.length
          · exact z
          · rw [List.getElem?_eq_none (by omega)] at em; cases em
        have ew:(l.map fun m=>Vbcnam.within m 1 10000000)[i]?=some (Vbcnam.within m 1 10000000):=by rw [List.getElem?_map,em]; rfl
        refine ⟨rfl,?_⟩
        show ∃ x,_∧_
        refine ⟨_,rfl,aR,vs,_,_,.ref b1,rfl,rfl,KM,hb1,rfl,m,1,10000000,b1,rfl,sb1 H',_,S'.sub upd_same,?_,?_⟩
        · rw [List.length_map,List.length_take]
          exact Nat.lt_of_le_of_lt (Nat.min_le_left _ _) (Nat.lt_of_lt_of_le hi (Nat.le_trans hl (by decide)))
        · have S4:=S'.extw (o:=.lst (((l.map fun m=>Vbcnam.within m 1 10000000).take i).map V.bl ++ [.bl (Vbcnam.within m 1 10000000)])) upd_same trivial
          rw [upd_upd] at S4
          rw [take_snoc ew,List.map_append]
          exact S4
      · rw [lx,show l.length=(l.map fun m=>Vbcnam.within m 1 10000000).length from by rw [List.length_map],List.take_length] at S'
        refine ⟨D,_,rfl,SqL.of (S'.sub upd_same),_,rfl,?_⟩
        have S5:=(S'.drop ED).drop Ea
        have ea:(l.map fun m=>Vbcnam.within m 1 10000000).all id=l.all fun m=>Vbcnam.within m 1 10000000:=by rw [List.all_map]; rfl
        rw [ea]
        have hnmH:=S5.sub hnm
        cases hal:l.all fun m=>Vbcnam.within m 1 10000000 with
        | false =>
          rw [hal,Bool.false_and] at q
          refine ite2 (fun _=>?_) (fun h=>absurd rfl h)
          exact q _ S5
        | true =>
          rw [hal,Bool.true_and] at q
          refine ite2 (fun h=>absurd h (by decide)) (fun _=>?_)
          refine ⟨_,rfl,nm,_,_,.int n,rfl,rfl,SqL.of hnmH,atI_nat (j:=0) rfl,aR,vs,_,_,.ref b2,rfl,rfl,KM,hb2,rfl,n,1,48,b2,rfl,sb2 _,_,rfl,?_⟩
          cases h1:Vbcnam.within n 1 48 with
          | false =>
            rw [h1,Bool.false_and] at q
            refine ite2 (fun h=>absurd h (by decide)) (fun _=>?_)
            exact q _ S5
          | true =>
            rw [h1,Bool.true_and] at q
            refine ite2 (fun _=>?_) (fun h=>absurd rfl h)
            refine ⟨_,rfl,nm,_,_,.int c,rfl,rfl,SqL.of hnmH,atI_nat (j:=1) rfl,aR,vs,_,_,.ref b3,rfl,rfl,KM,hb3,rfl,c,1,10000,b3,rfl,sb3 _,_,rfl,?_⟩
            cases h2:Vbcnam.within c 1 10000 with
            | false =>
              rw [h2,Bool.false_and] at q
              refine ite2 (fun h=>absurd h (by decide)) (fun _=>?_)
              exact q _ S5
            | true =>
              rw [h2,Bool.true_and] at q
              refine ite2 (fun _=>?_) (fun h=>absurd rfl h)
              exact ⟨_,rfl,nm,_,_,.int p,rfl,rfl,SqL.of hnmH,atI_nat (j:=2) rfl,aR,vs,_,_,.ref b4,rfl,rfl,KM,hb4,rfl,p,0,1,b4,rfl,sb4 _,q _ S5⟩
end
abbrev lnO (t:Cas) (dl:Addr) (v:V):HO:=.ins t.CL dl (lineF v)
def lnV (A:Rl→Addr):Option VW→V
  | none=>.non
  | some _=>.ref (A .wd)
def StaL (t:Cas) (A:Rl→Addr) (H:Hp) (s:Option VW) (ln dl:Addr) (E:Hp):Prop:=E ln=none∧Sta t A H s (upd E ln (lnO t dl (lnV A s)))
theorem canB_nat {n c p:Int} {l:List Int} (h:canB n c p l=true):n=(n.toNat:Int)∧n.toNat≤48∧c=(c.toNat:Int)∧p=bt (p == 1)∧l=(l.map Int.toNat).map (fun (m:Nat)=>(m:Int))∧l.length≤4:=by
  unfold canB Vbcnam.within at h
  simp only [Bool.and_eq_true,decide_eq_true_eq,List.all_eq_true] at h
  obtain ⟨⟨h1,h2⟩,⟨h3,h4⟩,⟨h5,h6⟩,h7,h8,h9⟩:=h
  refine ⟨by omega,by omega,by omega,?_,?_,h8⟩
  · have:p=0∨p=1:=by omega
    rcases this with rfl | rfl <;> rfl
  · rw [List.map_map]
    refine (List.map_id l).symm.trans (List.map_congr_left fun m hm=>?_)
    have:=h9 m hm
    show m=((m.toNat:Nat):Int)
    omega
section
variable {P:Program} {w₀:PySem.World} {K:PySem.W.Frag} {mg:Str→Option Value} {base:Heap} {t:Cas} {f:Addr} {fd:FuncData}
def spBegin (t:Cas):Sp:=fun vs H Q _=>∃ (A:Rl→Addr) (s:Option VW) (E:Hp) (ln dl nm:Addr) (n c p:Int) (l:List Int),vs=[.ref ln,.ref nm]∧StaL t A H s ln dl E∧E nm=some (.lst (intV (n::c::p::l)))∧l.length≤96 ∧
  ∀ A' H' a,E a=none→a≠ln→StaL t A' H' (Vbcnam.step s (.begin n c p l)).1 ln dl (upd E a (.lst (intV (Vbcnam.step s (.begin n c p l)).2)))→Q (.ref a) H'
theorem step_begin {s:Option VW} {n c p:Int} {l:List Int}:Vbcnam.step s (.begin n c p l)=if canB n c p l=false then (s,[-1]) else (some (world0 n.toNat c.toNat (p == 1) (l.map Int.toNat)),[0]):=by
  show (if canB n c p l=false then (s,[-1]) else _)=_
  unfold world0
  rw [List.map_map]
  rfl
theorem ok_begin (T:Txt K mg t) (F:Fun K "begin" "begin" s_begin f fd) (F_can_begin:Known P w₀ K mg base "can_begin" 2 ["numbers"] (spCanB t)) (M_World:KnownC P w₀ K mg base "World" t.CW 3 ["self","port_count","cap","spare","amounts"] (sp_World t)) :
    FnOk P w₀ K mg base CX0 5 f fd ["line","numbers"] (spBegin t):=by
  refine F.ok sc_begin (fun vs H Q E h=>?_) (fun cdv A outer s H vs Q E hr h=>?_)
  · obtain ⟨_,_,_,_,_,_,_,_,_,_,rfl,_⟩:=h; rfl
  · obtain ⟨A,s,E,ln,dl,nm,n,c,p,l,rfl,⟨Eln,S⟩,hnm,hl,q⟩:=h
    have nd:=sc_begin.nd
    refine ⟨_,(pss_cons (ps_if (pt_not (pt_val (pe_f F_can_begin (hr.mono (by decide)) (pa_cons (pv 1) pa_nil)))) (pss_one (ps_ret (pe_lst (pa_cons (pe_gi T.i_OUT_OF_RANGE) pa_nil)))) pss_nil) (pss_cons (ps_fl (K:=K) (pv 0) (pe_mk M_World (hr.mono (by decide)) (pa_cons (pe_ix (ix_listK (K:=K)) (pv 1) pe_int (fun _ _=>rfl)) (pa_cons (pe_ix (ix_listK (K:=K)) (pv 1) pe_int (fun _ _=>rfl)) (pa_cons (pe_ix (ix_listK (K:=K)) (pv 1) pe_int (fun _ _=>rfl)) (pa_cons (pe_slice (sl_listK (K:=K)) (pv 1) (po_some pe_int) po_none) pa_nil)))))) (pss_one (ps_ret (pe_lst (pa_cons pe_int pa_nil)))))),?_⟩
    have nml:nm≠ln:=ne_of_none hnm Eln
    have hnm1:∀ {o:HO},upd E ln o nm=some (.lst (intV (n::c::p::l))):=fun {o}=>by rw [upd_ne nml]; exact hnm
    rw [step_begin] at q
    refine ⟨_,rfl,A,s,_,nm,n,c,p,l,rfl,S,hnm1,hl,fun H1 S1=>⟨_,rfl,?_⟩⟩
    cases hb:canB n c p l with
    | false =>
      rw [if_pos hb] at q
      refine ite2 (fun _=>?_) (fun h=>absurd rfl h)
      refine ⟨(by show 1≤sizeLine; decide),fun a ha=>?_⟩
      obtain ⟨e1,S2⟩:=S1.ans (o:=.lst (intV [-1])) ha
      have al:a≠ln:=fun z=>by rw [z,upd_same] at e1; cases e1
      rw [upd_ne al] at e1
      rw [upd_comm (Ne.symm al)] at S2
      exact q A _ a e1 al ⟨by rw [upd_ne (Ne.symm al)]; exact Eln,S2⟩
    | true =>
      rw [if_neg (by rw [hb]; decide)] at q
      refine ite2 (fun h=>absurd h (by decide)) (fun _=>?_)
      obtain ⟨en,ln48,ec,ep,el,l4⟩:=canB_nat hb
      have hnmH:=S1.sub hnm1
      refine ⟨_,rfl,nm,_,_,.int n,rfl,rfl,SqL.of hnmH,atI_nat (j:=0) rfl,?_⟩
      refine ⟨_,rfl,nm,_,_,.int c,rfl,rfl,SqL.of hnmH,atI_nat (j:=1) rfl,?_⟩
      refine ⟨_,rfl,nm,_,_,.int p,rfl,rfl,SqL.of hnmH,atI_nat (j:=2) rfl,?_⟩
      refine ⟨_,rfl,3,rfl,nm,_,rfl,SqL.of hnmH,fun am ham=>?_⟩
      rw [cut3]
      have F1:=S1.frm.ext (o:=.lst (intV l)) ham
      have Eam:=S1.frm.none_of ham
      refine fun x dx hx hdx hne=>?_
      have F2:=F1.ext (o:=.own x) hdx
      have F3:=F2.less (E':=upd (upd E ln (lnO t dl (lnV A s))) am (.lst (intV l))) fun b o e=>by rw [upd_ne (ne_of_none e (F1.none_of hdx))]; exact e
      refine ⟨x,dx,am,_,upd (upd E ln (lnO t dl (lnV A s))) am (.lst (intV l)),n.toNat,c.toNat,p == 1,l.map Int.toNat,?_,rfl,by rw [upd_ne (Ne.symm hne)]; exact hx,F3,by rw [upd_same,← el],by rw [List.length_map]; exact l4,ln48,fun A' H2 hA' R2=>⟨rfl,?_⟩⟩
      · rw [← en,← ec,← ep]
      · have aml:am≠ln:=fun z=>by rw [z,upd_same] at Eam; cases Eam
        have hln:upd (upd E ln (lnO t dl (lnV A s))) am (.lst (intV l)) ln=some (lnO t dl (lnV A s)):=by rw [upd_ne (Ne.symm aml),upd_same]
        refine ⟨_,rfl,w_line_world T (R2.sub hln) rfl ?_⟩
        have R3:=R2.extw (o:=lnO t dl (.ref x)) hln trivial
        refine ⟨(by show 1≤sizeLine; decide),fun a ha=>?_⟩
        obtain ⟨e1,R4⟩:=R3.ans (o:=.lst (intV [0])) ha
        have al:a≠ln:=fun z=>by rw [z,upd_same] at e1; cases e1
        rw [upd_ne al] at e1
        have aam:a≠am:=fun z=>by rw [z,upd_same] at e1; cases e1
        rw [upd_ne aam,upd_ne al] at e1
        refine q A' _ a e1 al ⟨by rw [upd_ne (Ne.symm al)]; exact Eln,?_⟩
        show Rep t A' _ (world0 _ _ _ _) (upd (upd E a (.lst (intV [0]))) ln (lnO t dl (.ref (A' .wd))))
        rw [hA']
        refine R4.less fun b o e=>?_
        by_cases bl:b=ln
        · subst bl
          rw [upd_same] at e
          rw [upd_ne (Ne.symm al),upd_same]
          exact e
        · rw [upd_ne bl] at e
          by_cases ba:b=a
          · subst ba
            rw [upd_same] at e ⊢
            exact e
          · rw [upd_ne ba] at e
            have bam:b≠am:=by
              rw [upd_ne aml] at Eam
              exact ne_of_none e Eam
            rw [upd_ne ba,upd_ne bl,upd_ne bam,upd_ne bl]
            exact e
end
end WP
set_option maxHeartbeats 4000000
namespace WP
inductive Form:Int→List Int→Prop
  | begin (n c s:Int) (l:List Int):l.length≤96→Form 0 (n::c::s::l)
  | supply (i x:Int):Form 1 [i,x]
  | spare (x:Int):Form 2 [x]
  | port (p e r m:Int):Form 3 [p,e,r,m]
  | plug (p c:Int):Form 4 [p,c]
  | unplug (p:Int):Form 5 [p]
  | settle:Form 6 []
  | wish (p m:Int):Form 7 [p,m]
  | draw (p m:Int):Form 8 [p,m]
  | fault (p:Int):Form 9 [p]
  | clear (p:Int):Form 10 [p]
  | again (p:Int):Form 11 [p]
  | deliver (k:Int):Form 12 [k]
  | lose (k:Int):Form 13 [k]
  | double (k:Int):Form 14 [k]
  | calm:Form 15 []
  | tick (t:Int):Form 16 [t]
  | look (p:Int):Form 17 [p]
  | device (p:Int):Form 18 [p]
  | power:Form 19 []
  | plan:Form 20 []
  | peek (k:Int):Form 21 [k]
  | state:Form 22 []
theorem no_form {P:Prop} {b:Bool} (h:b=true) (e:b=false):P:=by rw [e] at h; exact Bool.noConfusion h
theorem form_0:∀ {ns:List Int},VbcnamNeutral.asked1 [0::ns]=true→Form 0 ns
  | [],h=>no_form h rfl
  | [_],h=>no_form h rfl
  | [_,_],h=>no_form h rfl
  | _::_::_::_,h=>.begin _ _ _ _ (of_decide_eq_true (Bool.and_eq_true_iff.mp (Bool.and_eq_true_iff.mp h).2).1)
theorem form_1:∀ {ns:List Int},VbcnamNeutral.asked1 [1::ns]=true→Form 1 ns
  | [],h=>no_form h rfl
  | [_],h=>no_form h rfl
  | [_,_],_=>.supply _ _
  | _::_::_::_,h=>no_form h rfl
theorem form_2:∀ {ns:List Int},VbcnamNeutral.asked1 [2::ns]=true→Form 2 ns
  | [],h=>no_form h rfl
  | [_],_=>.spare _
  | _::_::_,h=>no_form h rfl
theorem form_3:∀ {ns:List Int},VbcnamNeutral.asked1 [3::ns]=true→Form 3 ns
  | [],h=>no_form h rfl
  | [_],h=>no_form h rfl
  | [_,_],h=>no_form h rfl
  | [_,_,_],h=>no_form h rfl
  | [_,_,_,_],_=>.port _ _ _ _
  | _::_::_::_::_::_,h=>no_form h rfl
theorem form_4:∀ {ns:List Int},VbcnamNeutral.asked1 [4::ns]=true→Form 4 ns
  | [],h=>no_form h rfl
  | [_],h=>no_form h rfl
  | [_,_],_=>.plug _ _
  | _::_::_::_,h=>no_form h rfl
theorem form_5:∀ {ns:List Int},VbcnamNeutral.asked1 [5::ns]=true→Form 5 ns
  | [],h=>no_form h rfl
  | [_],_=>.unplug _
  | _::_::_,h=>no_form h rfl
theorem form_6:∀ {ns:List Int},VbcnamNeutral.asked1 [6::ns]=true→Form 6 ns
  | [],_=>.settle
  | _::_,h=>no_form h rfl
theorem form_7:∀ {ns:List Int},VbcnamNeutral.asked1 [7::ns]=true→Form 7 ns
  | [],h=>no_form h rfl
  | [_],h=>no_form h rfl
  | [_,_],_=>.wish _ _
  | _::_::_::_,h=>no_form h rfl
theorem form_8:∀ {ns:List Int},VbcnamNeutral.asked1 [8::ns]=true→Form 8 ns
  | [],h=>no_form h rfl
  | [_],h=>no_form h rfl
  | [_,_],_=>.draw _ _
  | _::_::_::_,h=>no_form h rfl
theorem form_9:∀ {ns:List Int},VbcnamNeutral.asked1 [9::ns]=true→Form 9 ns
  | [],h=>no_form h rfl
  | [_],_=>.fault _
  | _::_::_,h=>no_form h rfl
theorem form_10:∀ {ns:List Int},VbcnamNeutral.asked1 [10::ns]=true→Form 10 ns
  | [],h=>no_form h rfl
  | [_],_=>.clear _
  | _::_::_,h=>no_form h rfl
theorem form_11:∀ {ns:List Int},VbcnamNeutral.asked1 [11::ns]=true→Form 11 ns
  | [],h=>no_form h rfl
  | [_],_=>.again _
  | _::_::_,h=>no_form h rfl
theorem form_12:∀ {ns:List Int},VbcnamNeutral.asked1 [12::ns]=true→Form 12 ns
  | [],h=>no_form h rfl
  | [_],_=>.deliver _
  | _::_::_,h=>no_form h rfl
theorem form_13:∀ {ns:List Int},VbcnamNeutral.asked1 [13::ns]=true→Form 13 ns
  | [],h=>no_form h rfl
  | [_],_=>.lose _
  | _::_::_,h=>no_form h rfl
theorem form_14:∀ {ns:List Int},VbcnamNeutral.asked1 [14::ns]=true→Form 14 ns
  | [],h=>no_form h rfl
  | [_],_=>.double _
  | _::_::_,h=>no_form h rfl
theorem form_15:∀ {ns:List Int},VbcnamNeutral.asked1 [15::ns]=true→Form 15 ns
  | [],_=>.calm
  | _::_,h=>no_form h rfl
theorem form_16:∀ {ns:List Int},VbcnamNeutral.asked1 [16::ns]=true→Form 16 ns
  | [],h=>no_form h rfl
  | [_],_=>.tick _
  | _::_::_,h=>no_form h rfl
theorem form_17:∀ {ns:List Int},VbcnamNeutral.asked1 [17::ns]=true→Form 17 ns
  | [],h=>no_form h rfl
  | [_],_=>.look _
  | _::_::_,h=>no_form h rfl
theorem form_18:∀ {ns:List Int},VbcnamNeutral.asked1 [18::ns]=true→Form 18 ns
  | [],h=>no_form h rfl
  | [_],_=>.device _
  | _::_::_,h=>no_form h rfl
theorem form_19:∀ {ns:List Int},VbcnamNeutral.asked1 [19::ns]=true→Form 19 ns
  | [],_=>.power
  | _::_,h=>no_form h rfl
theorem form_20:∀ {ns:List Int},VbcnamNeutral.asked1 [20::ns]=true→Form 20 ns
  | [],_=>.plan
  | _::_,h=>no_form h rfl
theorem form_21:∀ {ns:List Int},VbcnamNeutral.asked1 [21::ns]=true→Form 21 ns
  | [],h=>no_form h rfl
  | [_],_=>.peek _
  | _::_::_,h=>no_form h rfl
theorem form_22:∀ {ns:List Int},VbcnamNeutral.asked1 [22::ns]=true→Form 22 ns
  | [],_=>.state
  | _::_,h=>no_form h rfl
theorem form_of {pl:Int} {ns:List Int} (h:VbcnamNeutral.asked1 [pl::ns]=true):Form pl ns:=by
  rcases pl with n | n
  rcases n with _ | n
  · exact form_0 h
  rcases n with _ | n
  · exact form_1 h
  rcases n with _ | n
  · exact form_2 h
  rcases n with _ | n
  · exact form_3 h
  rcases n with _ | n
  · exact form_4 h
  rcases n with _ | n
  · exact form_5 h
  rcases n with _ | n
  · exact form_6 h
  rcases n with _ | n
  · exact form_7 h
  rcases n with _ | n
  · exact form_8 h
  rcases n with _ | n
  · exact form_9 h
  rcases n with _ | n
  · exact form_10 h
  rcases n with _ | n
  · exact form_11 h
  rcases n with _ | n
  · exact form_12 h
  rcases n with _ | n
  · exact form_13 h
  rcases n with _ | n
  · exact form_14 h
  rcases n with _ | n
  · exact form_15 h
  rcases n with _ | n
  · exact form_16 h
  rcases n with _ | n
  · exact form_17 h
  rcases n with _ | n
  · exact form_18 h
  rcases n with _ | n
  · exact form_19 h
  rcases n with _ | n
  · exact form_20 h
  rcases n with _ | n
  · exact form_21 h
  rcases n with _ | n
  · exact form_22 h
  · exact no_form h rfl
  · exact no_form h rfl
theorem step_world {pl:Int} {ns:List Int} (h:Form pl ns) (hp:pl≠0) (s:Option Vbcnam.World):Vbcnam.step s (VbcnamNeutral.callOf (pl::ns))=match s with
    | none=>(none,[-9])
    | some w=>(some (Vbcnam.inWorld w (VbcnamNeutral.callOf (pl::ns))).1,(Vbcnam.inWorld w (VbcnamNeutral.callOf (pl::ns))).2):=by
  cases h <;> first | exact absurd rfl hp | (cases s <;> rfl)
theorem form_pos {pl:Int} {ns:List Int} (h:Form pl ns):0≤pl∧pl≤22:=by cases h <;> decide
end WP
set_option maxHeartbeats 4000000
namespace WP
open PySem PySem.Spec PyProof.Rows L2
structure PGood (x:VP):Prop where
  cls:∀ y,x.device=some y→1≤y.cls∧y.cls≤4
  ses:x.on=true→∃ d,x.device=some d∧d.session=x.session
  last:x.on=true→∃ g,x.grants.getLast?=some g∧g.number=x.number
  gl:x.grants.length≤8
def NumOk (x:VP) (s n:Nat):Prop:=s≤x.session∧(x.on=true→s=x.session→n≤x.number)
def MsgOk (w:VW):VM→Prop
  | .grant p s n _=>p < w.ports.length∧NumOk (pAt w p) s n
  | .taken p s n=>p < w.ports.length∧NumOk (pAt w p) s n
  | .wish p _ _ _=>p < w.ports.length
structure Good (w:VW):Prop where
  ns:w.supplies.length≤4
  np:w.ports.length≤48
  po:∀ i,i < w.ports.length→PGood (pAt w i)
  bag:w.bag.length≤w.cap
  cap:w.cap≤10000
  msg:∀ m ∈ w.bag,MsgOk w m
theorem Good.ok {w:VW} (G:Good w):Ok w where
  ns:=G.ns
  np:=G.np
  cls:=fun i hi=>(G.po i hi).cls
  on:=fun i hi ho=>by
    obtain ⟨d,e,_⟩:=(G.po i hi).ses ho
    obtain ⟨g,e2,_⟩:=(G.po i hi).last ho
    refine ⟨fun z=>?_,by rw [e]; rfl⟩
    rw [z] at e2
    cases e2
  gl:=fun i hi=>(G.po i hi).gl
  bag:=G.bag
  cap:=G.cap
def PStep (x y:VP):Prop:=x.session≤y.session∧(y.on=true→y.session=x.session→x.on=true∧x.number≤y.number)
theorem PStep.refl (x:VP):PStep x x:=⟨Nat.le_refl _,fun h _=>⟨h,Nat.le_refl _⟩⟩
theorem NumOk.step {x y:VP} {s n:Nat} (h:NumOk x s n) (p:PStep x y):NumOk y s n:=by
  obtain ⟨h1,h2⟩:=h
  obtain ⟨p1,p2⟩:=p
  refine ⟨Nat.le_trans h1 p1,fun ho e=>?_⟩
  have e2:y.session=x.session:=by omega
  obtain ⟨q1,q2⟩:=p2 ho e2
  exact Nat.le_trans (h2 q1 (by omega)) q2
theorem MsgOk.set {w:VW} {i:Nat} {x:VP} {m:VM} (hi:i < w.ports.length) (p:PStep (pAt w i) x) (h:MsgOk w m):MsgOk (Vbcnam.setPort w i x) m:=by
  have k:∀ {j s n:Nat},NumOk (pAt w j) s n→NumOk (pAt (Vbcnam.setPort w i x) j) s n:=fun {j s n} h=>by
    rw [pAt_set hi]
    split
    · rename_i e; rw [e] at h; exact h.step p
    · exact h
  cases m with
  | grant p' s n wt=>exact ⟨by rw [len_set]; exact h.1,k h.2⟩
  | taken p' s n=>exact ⟨by rw [len_set]; exact h.1,k h.2⟩
  | wish p' s n wt=>show p' < _; rw [len_set]; exact h
theorem Good.set {w:VW} {i:Nat} {x:VP} (G:Good w) (hi:i < w.ports.length) (hx:PGood x) (p:PStep (pAt w i) x):Good (Vbcnam.setPort w i x) where
  ns:=G.ns
  np:=by rw [len_set]; exact G.np
  po:=fun j hj=>by
    rw [len_set] at hj
    rw [pAt_set hi]
    split
    · exact hx
    · exact G.po j hj
  bag:=G.bag
  cap:=G.cap
  msg:=fun m hm=>(G.msg m hm).set hi p
theorem Good.put {w:VW} {m:VM} (G:Good w) (h:MsgOk w m):Good (Vbcnam.put w m):=by
  unfold Vbcnam.put
  split
  · rename_i hl
    exact { ns:=G.ns,np:=G.np,po:=G.po,cap:=G.cap,bag:=by show (w.bag ++ [m]).length≤_; rw [List.length_append]; exact hl,msg:=fun m' hm=>by
              have e:m' ∈ w.bag ++ [m]:=hm
              rcases List.mem_append.mp e with e | e
              · have z:=G.msg m' e
                cases m' <;> exact z
              · have e:m'=m:=by simpa using e
                subst e
                cases m' <;> exact h }
  · exact G
theorem put_len {w:VW} {m:VM}:(Vbcnam.put w m).ports=w.ports∧(Vbcnam.put w m).supplies=w.supplies:=by
  unfold Vbcnam.put
  split <;> exact ⟨rfl,rfl⟩
theorem PGood.cut {x:VP} (h:PGood x):PGood (Vbcnam.cut x) where
  cls:=fun y e=>by
    have e:(x.device.map fun d=>({ d with session:=0,number:=0,limit:=0,draws:=0,asked:=0 }:VD))=some y:=e
    cases hd:x.device with
    | none=>rw [hd] at e; cases e
    | some d=>rw [hd] at e; cases e; exact h.cls d hd
  ses:=fun e=>nomatch e
  last:=fun e=>nomatch e
  gl:=Nat.zero_le _
theorem step_cut (x:VP):PStep x (Vbcnam.cut x):=⟨Nat.le_refl _,fun e=>nomatch e⟩
theorem PGood.lit {x:VP} {d:VD} (hd:x.device=some d) (h:PGood x):PGood (Vbcnam.lit x d) where
  cls:=fun y e=>by
    have e:=Option.some.inj e
    subst e
    exact h.cls d hd
  ses:=fun _=>⟨_,rfl,rfl⟩
  last:=fun _=>⟨_,rfl,rfl⟩
  gl:=by show 1≤8; decide
theorem step_lit (x:VP) (d:VD):PStep x (Vbcnam.lit x d):=⟨Nat.le_succ _,fun _ e=>absurd e (by show x.session + 1≠x.session; omega)⟩
theorem Good.gives {w:VW} {i n:Nat} (G:Good w) (hi:i < w.ports.length) (ho:(pAt w i).on=true):Good (Vbcnam.gives w i n):=by
  unfold Vbcnam.gives
  show Good (if Vbcnam.OPEN≤(pAt w i).grants.length then _ else _)
  split
  · exact G.put ⟨hi,Nat.le_refl _,fun _ _=>Nat.le_refl _⟩
  · rename_i hl
    have hl:¬ 8≤(pAt w i).grants.length:=hl
    have P:=G.po i hi
    have G2:=G.set hi (x:={ pAt w i with number:=(pAt w i).number + 1,grants:=(pAt w i).grants ++ [{ number:=(pAt w i).number + 1,watts:=n }] })
      { cls:=P.cls,ses:=P.ses,last:=fun _=>⟨_,List.getLast?_concat,rfl⟩,gl:=by show (_ ++ [_]).length≤8; rw [List.length_append]; show _ + 1≤8; omega } ⟨Nat.le_refl _,fun _ _=>⟨ho,Nat.le_succ _⟩⟩
    refine G2.put ⟨by rw [len_set]; exact hi,?_⟩
    rw [pAt_set hi,if_pos rfl]
    exact ⟨Nat.le_refl _,fun _ _=>Nat.le_refl _⟩
theorem len_gives {w:VW} {i n:Nat}:(Vbcnam.gives w i n).ports.length=w.ports.length:=by
  unfold Vbcnam.gives
  show (if Vbcnam.OPEN≤(pAt w i).grants.length then _ else _:VW).ports.length=_
  split
  · rw [put_len.1]
  · rw [put_len.1,len_set]
theorem Good.cutAt {w:VW} {i:Nat} (G:Good w) (hi:i < w.ports.length):Good (Vbcnam.setPort w i (Vbcnam.cut (pAt w i))):=G.set hi (G.po i hi).cut (step_cut _)
theorem Good.shed:∀ (l:List Nat) {w:VW},(∀ p ∈ l,p < w.ports.length)→Good w→Good (Vbcnam.shed l w)
  | [],_,_,G=>G
  | p::l,w,h,G=>by
    unfold Vbcnam.shed
    split
    · exact G
    · have hp:=h p List.mem_cons_self
      refine Good.shed l (fun q hq=>by rw [len_set]; exact h q (List.mem_cons_of_mem _ hq)) ?_
      show Good (Vbcnam.setPort w p (if (pAt w p).on=true then _ else pAt w p))
      split
      · exact G.cutAt hp
      · exact G.set hp (G.po p hp) (PStep.refl _)
theorem mem_insert {w:VW} {a b:Nat}:∀ {l:List Nat},b ∈ Vbcnam.insert w a l→b=a∨b ∈ l
  | [],h=>.inl (by simpa [Vbcnam.insert] using h)
  | c::l,h=>by
    unfold Vbcnam.insert at h
    split at h
    · exact List.mem_cons.mp h
    · rcases List.mem_cons.mp h with e | h
      · exact .inr (by rw [e]; exact List.mem_cons_self)
      · rcases mem_insert h with e | e
        · exact .inl e
        · exact .inr (List.mem_cons_of_mem _ e)
theorem mem_sorted {w:VW} {b:Nat}:∀ {l:List Nat},b ∈ l.foldr (Vbcnam.insert w) []→b ∈ l
  | [],h=>h
  | a::l,h=>by
    rcases mem_insert (show b ∈ Vbcnam.insert w a (l.foldr (Vbcnam.insert w) []) from h) with e | e
    · rw [e]; exact List.mem_cons_self
    · exact List.mem_cons_of_mem _ (mem_sorted e)
theorem mem_order {w:VW} {b:Nat} (h:b ∈ Vbcnam.order w):b < w.ports.length:=List.mem_range.mp (mem_sorted h)
theorem len_insert {w:VW} {a:Nat}:∀ {l:List Nat},(Vbcnam.insert w a l).length=l.length + 1
  | []=>rfl
  | c::l=>by
    unfold Vbcnam.insert
    split
    · rfl
    · show _ + 1=_ + 1 + 1
      rw [len_insert]
theorem len_sorted {w:VW}:∀ {l:List Nat},(l.foldr (Vbcnam.insert w) []).length=l.length
  | []=>rfl
  | a::l=>by
    show (Vbcnam.insert w a _).length=_ + 1
    rw [len_insert,len_sorted]
theorem len_order {w:VW}:(Vbcnam.order w).length=w.ports.length:=by
  unfold Vbcnam.order
  rw [len_sorted,List.length_range]
theorem Good.safe {w:VW} (G:Good w):Good (Vbcnam.safe w):=G.shed _ fun p hp=>mem_order (List.mem_reverse.mp hp)
theorem Good.lowers {l:List (Nat × Nat)}:∀ (r:List Nat) {w:VW},(∀ p ∈ r,p < w.ports.length)→Good w→Good (Vbcnam.lowers l r w)∧(Vbcnam.lowers l r w).ports.length=w.ports.length
  | [],_,_,G=>⟨G,rfl⟩
  | p::r,w,h,G=>by
    have hp:=h p List.mem_cons_self
    have hr:∀ {v:VW},v.ports.length=w.ports.length→Good v→Good (Vbcnam.lowers l r v)∧(Vbcnam.lowers l r v).ports.length=w.ports.length:=fun {v} e G=>by
      obtain ⟨a,b⟩:=Good.lowers r (fun q hq=>by rw [e]; exact h q (List.mem_cons_of_mem _ hq)) G
      exact ⟨a,b.trans e⟩
    unfold Vbcnam.lowers
    show Good (Vbcnam.lowers l r (if (pAt w p).on=false then w else _))∧(Vbcnam.lowers l r (if (pAt w p).on=false then w else _)).ports.length=_
    by_cases ho:(pAt w p).on=false
    · rw [if_pos ho]
      exact hr rfl G
    · rw [if_neg ho]
      have ho:(pAt w p).on=true:=by
        cases h:(pAt w p).on with
        | true=>rfl
        | false=>exact absurd h ho
      cases hpl:Vbcnam.planned l p with
      | none=>exact hr len_set (G.cutAt hp)
      | some t =>
        show Good (Vbcnam.lowers l r (if t < Vbcnam.latest (pAt w p) then _ else _))∧(Vbcnam.lowers l r (if t < Vbcnam.latest (pAt w p) then _ else _)).ports.length=_
        by_cases ht:t < Vbcnam.latest (pAt w p)
        · rw [if_pos ht]
          exact hr len_gives (G.gives hp ho)
        · rw [if_neg ht]
          exact hr rfl G
theorem Good.raises {l:List (Nat × Nat)}:∀ (r:List (Nat × Nat)) {w:VW},(∀ p ∈ r,p.1 < w.ports.length)→Good w→Good (Vbcnam.raises l r w)∧(Vbcnam.raises l r w).ports.length=w.ports.length
  | [],_,_,G=>⟨G,rfl⟩
  | (p,t)::r,w,h,G=>by
    have hp:p < w.ports.length:=h (p,t) List.mem_cons_self
    have hr:∀ {v:VW},v.ports.length=w.ports.length→Good v→Good (Vbcnam.raises l r v)∧(Vbcnam.raises l r v).ports.length=w.ports.length:=fun {v} e G=>by
      obtain ⟨a,b⟩:=Good.raises r (fun q hq=>by rw [e]; exact h q (List.mem_cons_of_mem _ hq)) G
      exact ⟨a,b.trans e⟩
    unfold Vbcnam.raises
    show Good (Vbcnam.raises l r (match (pAt w p).device with | none=>w | some d=>_))∧(Vbcnam.raises l r (match (pAt w p).device with | none=>w | some d=>_)).ports.length=_
    cases hd:(pAt w p).device with
    | none=>exact hr rfl G
    | some d =>
      show Good (Vbcnam.raises l r (if (pAt w p).on=false then _ else _))∧(Vbcnam.raises l r (if (pAt w p).on=false then _ else _)).ports.length=_
      by_cases ho:(pAt w p).on=false
      · rw [if_pos ho]
        split
        · exact hr len_set (G.set hp ((G.po p hp).lit hd) (step_lit _ _))
        · exact hr rfl G
      · rw [if_neg ho]
        have ho:(pAt w p).on=true:=by
          cases h:(pAt w p).on with
          | true=>rfl
          | false=>exact absurd h ho
        split
        · exact hr len_gives (G.gives hp ho)
        · split
          · exact hr (by rw [put_len.1]) (G.put ⟨hp,Nat.le_refl _,fun _ _=>Nat.le_refl _⟩)
          · exact hr rfl G
theorem lights_mem {w:VW}:∀ (l:List Nat) (n:Nat),(∀ x ∈ Vbcnam.lights w l n,x.1 ∈ l)∧(Vbcnam.lights w l n).length≤l.length
  | [],_=>⟨(fun _ h=>nomatch h),Nat.le_refl _⟩
  | p::l,n=>by
    unfold Vbcnam.lights
    have skip:∀ m,(∀ x ∈ Vbcnam.lights w l m,x.1 ∈ p::l)∧(Vbcnam.lights w l m).length≤l.length + 1:=fun m=>by
      obtain ⟨a,b⟩:=lights_mem (w:=w) l m
      exact ⟨fun x hx=>List.mem_cons_of_mem _ (a x hx),Nat.le_succ_of_le b⟩
    cases Vbcnam.fit (Vbcnam.portAt w p) with
    | none=>exact skip n
    | some d =>
      show (∀ x ∈ (if Vbcnam.base d.cls≤n then _ else _:List (Nat × Nat)),_)∧(if Vbcnam.base d.cls≤n then _ else _:List (Nat × Nat)).length≤_
      split
      · obtain ⟨a,b⟩:=lights_mem (w:=w) l (n - Vbcnam.base d.cls)
        refine ⟨fun x hx=>?_,Nat.succ_le_succ b⟩
        rcases List.mem_cons.mp hx with e | hx
        · rw [e]; exact List.mem_cons_self
        · exact List.mem_cons_of_mem _ (a x hx)
      · exact skip n
theorem extras_mem {w:VW}:∀ (l:List (Nat × Nat)) (n:Nat),(∀ x ∈ Vbcnam.extras w l n,∃ y ∈ l,y.1=x.1)∧(Vbcnam.extras w l n).length=l.length
  | [],_=>⟨(fun _ h=>nomatch h),rfl⟩
  | (p,b)::l,n=>by
    obtain ⟨a,c⟩:=extras_mem (w:=w) l (n - min n (min (Vbcnam.portAt w p).wish.watts (Vbcnam.portAt w p).most - b))
    refine ⟨fun x hx=>?_,congrArg (· + 1) c⟩
    rcases List.mem_cons.mp (show x ∈ (p,_)::Vbcnam.extras w l _ from hx) with e | hx
    · exact ⟨(p,b),List.mem_cons_self,by rw [e]⟩
    · obtain ⟨y,hy,e⟩:=a x hx
      exact ⟨y,List.mem_cons_of_mem _ hy,e⟩
theorem plan_mem {w:VW}:(∀ x ∈ Vbcnam.plan w,x.1 < w.ports.length)∧(Vbcnam.plan w).length≤w.ports.length:=by
  unfold Vbcnam.plan
  obtain ⟨a,b⟩:=lights_mem (w:=w) (Vbcnam.order w) (Vbcnam.may w)
  obtain ⟨c,d⟩:=extras_mem (w:=w) (Vbcnam.lights w (Vbcnam.order w) (Vbcnam.may w)) (Vbcnam.may w - Vbcnam.sum ((Vbcnam.lights w (Vbcnam.order w) (Vbcnam.may w)).map fun x=>x.2))
  refine ⟨fun x hx=>?_,?_⟩
  · obtain ⟨y,hy,e⟩:=c x hx
    rw [← e]
    exact mem_order (a y hy)
  · show (Vbcnam.extras w _ _).length≤_
    rw [d,← len_order (w:=w)]
    exact b
theorem Good.settle {w:VW} (G:Good w):Good (Vbcnam.settle w):=by
  unfold Vbcnam.settle
  obtain ⟨a,b⟩:=G.lowers (l:=Vbcnam.plan w) (Vbcnam.order w) fun p hp=>mem_order hp
  exact (Good.raises _ (fun x hx=>by rw [b]; exact plan_mem.1 x hx) a).1
theorem last_filter {l:List VG} {g:VG} {p:VG→Bool} (h:l.getLast?=some g) (hp:p g=true):(l.filter p).getLast?=some g:=by
  obtain ⟨l',rfl⟩:∃ l',l=l' ++ [g]:=by
    rw [List.getLast?_eq_some_iff] at h
    exact h
  rw [List.filter_append,List.filter_cons,if_pos hp,List.filter_nil]
  exact List.getLast?_concat
theorem PGood.taken {x:VP} {n:Nat} (h:PGood x) (hn:x.on=true→n≤x.number):PGood { x with grants:=x.grants.filter fun g=>decide (n≤g.number) } where
  cls:=h.cls
  ses:=h.ses
  last:=fun ho=>by
    obtain ⟨g,e,e2⟩:=h.last ho
    exact ⟨g,last_filter e (decide_eq_true (by rw [e2]; exact hn ho)),e2⟩
  gl:=Nat.le_trans (List.length_filter_le _ _) h.gl
theorem PGood.like {x y:VP} (h:PGood x) (ho:y.on=x.on) (hs:y.session=x.session) (hn:y.number=x.number) (hg:y.grants=x.grants) (hd:y.device=x.device):PGood y where
  cls:=by rw [hd]; exact h.cls
  ses:=by rw [ho,hd,hs]; exact h.ses
  last:=by rw [ho,hg,hn]; exact h.last
  gl:=by rw [hg]; exact h.gl
theorem step_like {x y:VP} (ho:y.on=x.on) (hs:y.session=x.session) (hn:y.number=x.number):PStep x y:=⟨by rw [hs]; exact Nat.le_refl _,fun h _=>⟨by rw [← ho]; exact h,by rw [hn]; exact Nat.le_refl _⟩⟩
theorem PGood.dev {x:VP} {d e:VD} (h:PGood x) (hd:x.device=some d) (hc:e.cls=d.cls) (hs:e.session=d.session):PGood { x with device:=some e } where
  cls:=fun y q=>by
    have q:=Option.some.inj q
    subst q
    rw [hc]
    exact h.cls d hd
  ses:=fun ho=>by
    obtain ⟨d',e1,e2⟩:=h.ses ho
    rw [hd] at e1
    have e1:=Option.some.inj e1
    subst e1
    exact ⟨e,rfl,hs.trans e2⟩
  last:=h.last
  gl:=h.gl
theorem Good.handled {w:VW} {m:VM} (G:Good w) (hm:MsgOk w m):Good (Vbcnam.handled w m):=by
  cases m with
  | grant p s n wt =>
    obtain ⟨hp,hn⟩:=hm
    show Good (match (pAt w p).device with | none=>w | some d=>_)
    cases hd:(pAt w p).device with
    | none=>exact G
    | some d =>
      show Good (if (pAt w p).on=false∨d.session≠s∨n < d.number then w else _)
      split
      · exact G
      · rename_i h
        have ho:(pAt w p).on=true:=by
          cases e:(pAt w p).on with
          | true=>rfl
          | false=>exact absurd (.inl e) h
        have hs:d.session=s:=Classical.byContradiction fun e=>h (.inr (.inl e))
        obtain ⟨d',e1,e2⟩:=(G.po p hp).ses ho
        rw [hd] at e1
        have e1:=Option.some.inj e1
        subst e1
        have G2:=G.set hp (x:={ pAt w p with device:=some { d with number:=n,limit:=wt,draws:=min d.draws wt } }) ((G.po p hp).dev hd rfl rfl) (step_like rfl rfl rfl)
        refine G2.put ⟨by rw [len_set]; exact hp,?_⟩
        rw [pAt_set hp,if_pos rfl]
        exact hn
  | taken p s n =>
    obtain ⟨hp,hn⟩:=hm
    show Good (if (pAt w p).on=true∧(pAt w p).session=s then _ else w)
    split
    · rename_i h
      exact G.set hp ((G.po p hp).taken fun _=>hn.2 h.1 h.2.symm) (step_like rfl rfl rfl)
    · exact G
  | wish p s n wt =>
    show Good (if (pAt w p).on=true∧((pAt w p).session=s∧(pAt w p).wish.number < n) then _ else w)
    split
    · exact G.set hm ((G.po p hm).like rfl rfl rfl rfl rfl) (step_like rfl rfl rfl)
    · exact G
theorem Good.bagOf {w:VW} {b:List VM} (G:Good w) (hl:b.length≤w.cap) (hb:∀ m ∈ b,m ∈ w.bag):Good { w with bag:=b } where
  ns:=G.ns
  np:=G.np
  po:=G.po
  bag:=hl
  cap:=G.cap
  msg:=fun m hm=>by
    have z:=G.msg m (hb m hm)
    cases m <;> exact z
theorem Good.erase {w:VW} (G:Good w) (k:Nat):Good { w with bag:=w.bag.eraseIdx k } :=
  G.bagOf (Nat.le_trans (List.eraseIdx_sublist _ k).length_le G.bag) fun m hm=>(List.eraseIdx_sublist _ k).subset hm
theorem Good.delivered {w:VW} (G:Good w) (k:Nat):Good (Vbcnam.delivered w k):=by
  unfold Vbcnam.delivered
  cases e:w.bag[k]? with
  | none=>exact G
  | some m =>
    refine (G.erase k).handled ?_
    have z:=G.msg m (List.mem_of_getElem? e)
    cases m <;> exact z
theorem Good.calmed:∀ (n:Nat) {w:VW},Good w→Good (Vbcnam.calmed n w).1
  | 0,_,G=>G
  | n + 1,w,G=>by
    unfold Vbcnam.calmed
    split
    · exact G
    · exact Good.calmed n (G.delivered 0)
def cost:List VM→Nat
  | []=>0
  | .grant ..::l=>2 + cost l
  | _::l=>1 + cost l
theorem cost_le:∀ l:List VM,cost l≤2 * l.length
  | []=>Nat.le_refl _
  | m::l=>by
    have:=cost_le l
    cases m <;> (unfold cost; rw [List.length_cons]; omega)
theorem cost_app:∀ (l:List VM) (m:VM),cost (l ++ [m])=cost l + cost [m]
  | [],m=>by show cost [m]=0 + cost [m]; omega
  | x::l,m=>by
    have:=cost_app l m
    cases x <;> (show _ + cost (l ++ [m])=_; rw [this]; show _=(_ + cost l) + _; omega)
theorem cost_put {w:VW} {m:VM}:cost (Vbcnam.put w m).bag≤cost w.bag + cost [m]:=by
  unfold Vbcnam.put
  split
  · exact Nat.le_of_eq (cost_app _ _)
  · exact Nat.le_add_right _ _
theorem cost_handled {w:VW} {m:VM}:cost (Vbcnam.handled w m).bag + 1≤cost w.bag + cost [m]:=by
  cases m with
  | grant p s n wt =>
    show cost (match (pAt w p).device with | none=>w | some d=>_:VW).bag + 1≤cost w.bag + 2
    cases (pAt w p).device with
    | none=>show cost w.bag + 1≤_; omega
    | some d =>
      show cost (if (pAt w p).on=false∨d.session≠s∨n < d.number then w else _:VW).bag + 1≤_
      split
      · omega
      · exact Nat.succ_le_succ cost_put
  | taken p s n =>
    show cost (if (pAt w p).on=true∧(pAt w p).session=s then _ else w:VW).bag + 1≤cost w.bag + 1
    split <;> exact Nat.le_refl _
  | wish p s n wt =>
    show cost (if (pAt w p).on=true∧((pAt w p).session=s∧(pAt w p).wish.number < n) then _ else w:VW).bag + 1≤cost w.bag + 1
    split <;> exact Nat.le_refl _
theorem cost_delivered {w:VW} (h:w.bag≠[]):cost (Vbcnam.delivered w 0).bag + 1≤cost w.bag:=by
  cases e:w.bag with
  | nil=>exact absurd e h
  | cons m l =>
    unfold Vbcnam.delivered
    rw [e]
    show cost (Vbcnam.handled { w with bag:=(m::l).eraseIdx 0 } m).bag + 1≤_
    refine Nat.le_trans cost_handled ?_
    show cost l + cost [m]≤cost (m::l)
    cases m <;> (show cost l + (_ + 0)≤_ + cost l; omega)
theorem calm_all:∀ (n:Nat) {w:VW},cost w.bag≤n→(Vbcnam.calmed n w).1.bag=[]∧∀ k,n≤k→Vbcnam.calmed k w=Vbcnam.calmed n w
  | 0,w,h=>by
    have e:w.bag=[]:=by
      cases e:w.bag with
      | nil=>rfl
      | cons m l =>
        rw [e] at h
        cases m <;> (have h:_ + cost l≤0:=h; omega)
    refine ⟨e,fun k _=>?_⟩
    cases k with
    | zero=>rfl
    | succ k=>unfold Vbcnam.calmed; rw [if_pos (by rw [e]; rfl)]
  | n + 1,w,h=>by
    by_cases e:w.bag=[]
    · refine ⟨?_,fun k hk=>?_⟩
      · unfold Vbcnam.calmed; rw [if_pos (by rw [e]; rfl)]; exact e
      · cases k with
        | zero=>omega
        | succ k=>unfold Vbcnam.calmed; rw [if_pos (by rw [e]; rfl),if_pos (by rw [e]; rfl)]
    · have hc:=cost_delivered e
      obtain ⟨a,b⟩:=calm_all n (w:=Vbcnam.delivered w 0) (by omega)
      have he:¬ w.bag.isEmpty=true:=fun z=>e (List.isEmpty_iff.mp z)
      refine ⟨?_,fun k hk=>?_⟩
      · unfold Vbcnam.calmed
        rw [if_neg he]
        exact a
      · cases k with
        | zero=>omega
        | succ k =>
          unfold Vbcnam.calmed
          rw [if_neg he,if_neg he]
          show ((Vbcnam.calmed k _).1,(Vbcnam.calmed k _).2 + 1)=_
          rw [b k (by omega)]
theorem calm_turn {w:VW} (n:Nat) (h:cost w.bag≤n) (e:w.bag≠[]):Vbcnam.calmed n w=((Vbcnam.calmed n (Vbcnam.delivered w 0)).1,(Vbcnam.calmed n (Vbcnam.delivered w 0)).2 + 1):=by
  have hc:=cost_delivered e
  cases n with
  | zero=>omega
  | succ n =>
    have he:¬ w.bag.isEmpty=true:=fun z=>e (List.isEmpty_iff.mp z)
    obtain ⟨_,b⟩:=calm_all n (w:=Vbcnam.delivered w 0) (by omega)
    rw [b (n + 1) (Nat.le_succ _)]
    show (if w.bag.isEmpty=true then _ else _)=_
    rw [if_neg he]
theorem calm_nil {w:VW} (n:Nat) (e:w.bag=[]):Vbcnam.calmed n w=(w,0):=by
  cases n with
  | zero=>rfl
  | succ n=>show (if w.bag.isEmpty=true then _ else _)=_; rw [if_pos (by rw [e]; rfl)]
theorem Good.sup {w:VW} (G:Good w) {l:List VS} (h:l.length≤4):Good { w with supplies:=l } where
  ns:=h
  np:=G.np
  po:=G.po
  bag:=G.bag
  cap:=G.cap
  msg:=fun m hm=>by have z:=G.msg m hm; cases m <;> exact z
theorem Good.tick {w:VW} (G:Good w) {now could:Nat} {f:VP→Nat}:Good { w with now:=now,could:=could,ports:=w.ports.map fun x=>{ x with energy:=f x } }:=by
  have hl:(w.ports.map fun x=>({ x with energy:=f x }:VP)).length=w.ports.length:=List.length_map ..
  have hat:∀ i,i < w.ports.length→pAt { w with now:=now,could:=could,ports:=w.ports.map fun x=>{ x with energy:=f x } } i={ pAt w i with energy:=f (pAt w i) }:=fun i hi=>by
    show (w.ports.map fun x=>({ x with energy:=f x }:VP)).getD i ({}:VP)=_
    rw [List.getD_eq_getElem?_getD,List.getElem?_map,pAt_get hi]
    rfl
  exact {
    ns:=G.ns
    np:=by show (w.ports.map _).length≤48; rw [hl]; exact G.np
    po:=fun i hi=>by
      have hi:i < w.ports.length:=by rw [← hl]; exact hi
      rw [hat i hi]
      exact (G.po i hi).like rfl rfl rfl rfl rfl
    bag:=G.bag
    cap:=G.cap
    msg:=fun m hm=>by
      have z:=G.msg m hm
      cases m with
      | grant p s n wt=>exact ⟨by show p < (w.ports.map _).length; rw [hl]; exact z.1,by rw [hat p z.1]; exact z.2⟩
      | taken p s n=>exact ⟨by show p < (w.ports.map _).length; rw [hl]; exact z.1,by rw [hat p z.1]; exact z.2⟩
      | wish p s n wt=>show p < (w.ports.map _).length; rw [hl]; exact z }
theorem ext_tup (l:Addr) (xs:Array Value) (n:Nat) (b:Addr) (ys:Array Value) (m:Nat) (od:Option Addr) (sl:Array (Option Value)) (h0:¬(!xs.isEmpty && Builtin.List.listTooLong (xs.size + ys.size))=true) (h1:xs.size≤sizeLine) (h2:xs.size + ys.size≤sizeLine + 1) :
    Meets (Builtin.«list.extend» ⟨[.ref l,.ref b],[]⟩) (fun _ R s=>s.heap.get? l=some { cls:=.type "list",dict:=none,data:=.seq xs n,slots:=#[] }∧s.heap.get? b=some { cls:=.type "tuple",dict:=od,data:=.seq ys m,slots:=sl } ∧
      R (.ok (.ret Value.none)) { s with heap:=s.heap.update l (Obj.mapSeq fun x=>x ++ ys),toks:=s.toks }) :=
  .of_wp fun prog w A R s h=>by
    obtain ⟨hp,g,d,tk,os⟩:=s
    obtain ⟨hl,hb,h⟩:=h
    have f1:=PySem.AutoSeq1.idx_int
    have f2:=PySem.AutoSeq1.sub_tuple_tuple
    have f3:=PySem.AutoSeq1.sub_list_list
    have f4:=PySem.AutoSeq1.sub_tuple_list
    have f5:=PySem.AutoSeq1.sub_list_tuple
    have hz:(xs ++ ys).size≤sizeLine + 1:=by rw [Array.size_append]; exact h2
    wp_walk using (wpAny_updateSeq hl rfl (hz:=h1) (_hz':=hz)),wpAny_loadPart' hl,wpAny_loadPart' hb
    exact ⟨_,rfl,h⟩
section
variable {X:Cx} {K:PySem.W.Frag}
def rExtT (K:PySem.W.Frag):V→List V→Hp→VK→Prop:=fun x vs H Q=>∃ l b xs zs,x=.ref l∧vs=[.ref b]∧H l=some (.lst xs)∧SqT K H b zs∧xs.length + zs.length≤sizeLine∧Q .non (upd H l (.lst (xs ++ zs)))
theorem mt_extT (hK:X.K=K:=by rfl):MtM X "list.extend" (rExtT K):=by
  subst hK
  intro pins s σ H x vs v us Q I rx rv h
  obtain ⟨l,b,xs,zs,rfl,rfl,hH,hB,hz,q⟩:=h
  cases rx
  obtain ⟨u,rfl,ru⟩:=rv.one
  cases ru
  obtain ⟨z,its,n,r,hl,e⟩:=I.lstM hH
  obtain ⟨its2,r2,⟨⟨cl,od,dt,sl⟩,ho,hc,n2,hd⟩,z2⟩:=I.tuple hB
  cases hc
  cases hd
  have hl2:=r2.length
  have hsz:its.toArray.size + its2.toArray.size≤sizeLine:=by rw [List.size_toArray,List.size_toArray]; omega
  have hlong:¬ (!its.toArray.isEmpty && Builtin.List.listTooLong (its.toArray.size + its2.toArray.size))=true:=by
    rw [notLongL hsz,Bool.and_false]
    exact Bool.false_ne_true
  refine call_meets PySem.F.slot_list_extend ⟨_,e,rfl⟩ PySem.F.entry_list_extend (PySem.F.args_list_extend_2 _ _) (ext_tup l its.toArray n b its2.toArray n2 od sl hlong (by rw [List.size_toArray]; omega) (by omega)) ⟨e,ho,?_⟩
  refine ⟨.non,_,I.lset (its':=its ++ its2) hH e (by simp) (r.append r2) ?_,rfl,q⟩
  rw [List.length_append]
  omega
theorem call_listK (hK:X.K=K:=by rfl):CallR X (.type "list") (fun xs H Q=>∃ p ys,xs=[.ref p]∧(SqL K H p ys∨SqT K H p ys)∧∀ l,H l=none→Q (.ref l) (upd H l (.lst ys))):=by subst hK; exact call_list_of
end
theorem RepX.keep {t:Cas} {G:Gad} {gs:Nat→List Addr} {ms:List Addr} {H E:Hp} {w:VW} {q:Addr} {xs:List V} (R:RepX t G gs ms H w E) (hq:H q=some (.tup xs)):RepX t G gs ms H w (upd E q (.tup xs)) where
  at_:=R.at_
  inj:=R.inj
  msg:=R.msg
  grt:=R.grt
  fr:=fun b o e=>by
    by_cases hb:b=q
    · subst hb
      rw [upd_same] at e
      have e:=Option.some.inj e
      subst e
      exact ⟨hq,fun r hr=>ne_of (R.at_ r hr) hq fun z=>by have s:=cont_soft (t:=t) (G:=G) (gs:=gs) (ms:=ms) (w:=w) r; rw [z] at s; exact s⟩
    · rw [upd_ne hb] at e
      exact R.fr b o e
  tab:=R.tab
  et:=by
    obtain ⟨ps,hT,_⟩:=R.tab
    rw [upd_ne (ne_of hT hq (fun z=>nomatch z))]
    exact R.et
theorem Rep.keep {t:Cas} {A:Rl→Addr} {H E:Hp} {w:VW} {q:Addr} {xs:List V} (R:Rep t A H w E) (hq:H q=some (.tup xs)):Rep t A H w (upd E q (.tup xs)) :=
  let ⟨G,gs,ms,hA,R⟩:=R
  ⟨G,gs,ms,hA,R.keep hq⟩
theorem Rep.unkeep {t:Cas} {A:Rl→Addr} {H H' E:Hp} {w w':VW} {q:Addr} {xs:List V} (R:Rep t A H w E) (hq:H q=some (.tup xs)) (R':Rep t A H' w' (upd E q (.tup xs))):Rep t A H' w' E :=
  R'.less fun b o e=>by
    by_cases hb:b=q
    · subst hb
      have:=R.sub e
      rw [hq] at this
      rw [upd_same]
      exact this
    · rw [upd_ne hb]; exact e
theorem Rep.mat {t:Cas} {A:Rl→Addr} {H E:Hp} {w:VW} {k:Nat} {m:VM} (R:Rep t A H w E) (hm:w.bag[k]?=some m):∃ ms q,H (A .bg)=some (.lst (refs ms))∧ms[k]?=some q∧H q=some (.tup (mV m))∧(refs ms).length=w.bag.length:=by
  obtain ⟨G,gs,ms,hA,R⟩:=R
  have z:H (G.ad .bg)=some (.lst (refs ms)):=R.at_ .bg trivial
  rw [hA .bg rfl] at z
  have hk:k < w.bag.length:=by
    by_cases h:k < w.bag.length
    · exact h
    · rw [List.getElem?_eq_none (by omega)] at hm; cases hm
  have hl:=R.mlen
  have hq:ms[k]?=some (ms[k]'(by omega)):=List.getElem?_eq_getElem (by omega)
  obtain ⟨v,hv,h⟩:=R.msg.get hq
  rw [List.getElem?_map,hm] at hv
  have hv:=Option.some.inj hv
  subst hv
  exact ⟨ms,_,z,hq,h,by unfold refs; rw [List.length_map]; exact hl⟩
theorem refs_ix {l:List Addr} {k:Nat} {a:Addr} (h:l[k]?=some a):atI (refs l) (k:Int)=some (.ref a):=atI_nat (by unfold refs; rw [List.getElem?_map,h]; rfl)
theorem erase_map {α β:Type} (g:α→β):∀ (l:List α) (k:Nat),(l.eraseIdx k).map g=(l.map g).eraseIdx k
  | [],_=>rfl
  | _::_,0=>rfl
  | x::l,k + 1=>congrArg (List.cons (g x)) (erase_map g l k)
theorem Rep.pop {t:Cas} {A:Rl→Addr} {H E:Hp} {w:VW} {ms:List Addr} {k:Nat} (R:Rep t A H w E) (hb:H (A .bg)=some (.lst (refs ms))):Rep t A (upd H (A .bg) (.lst ((refs ms).eraseIdx k))) { w with bag:=w.bag.eraseIdx k } E:=by
  obtain ⟨G,gs,ms',hA,R⟩:=R
  have z:H (G.ad .bg)=some (.lst (refs ms')):=R.at_ .bg trivial
  rw [hA .bg rfl,hb] at z
  have e:refs ms=refs ms':=by injection z with z; injection z
  have R2:=R.rebag (ms':=ms'.eraseIdx k) (b':=w.bag.eraseIdx k) (by rw [erase_map]; exact R.msg.erase k)
  have e2:refs (ms'.eraseIdx k)=(refs ms').eraseIdx k:=by unfold refs; rw [erase_map]
  rw [e2,hA .bg rfl,← e] at R2
  exact ⟨G,gs,_,hA,R2⟩
theorem Ok.erase {w:VW} (O:Ok w) (k:Nat):Ok { w with bag:=w.bag.eraseIdx k }:=⟨O.ns,O.np,O.cls,O.on,O.gl,Nat.le_trans (List.eraseIdx_sublist _ k).length_le O.bag,O.cap⟩
section
variable {P:Program} {w₀:PySem.World} {K:PySem.W.Frag} {mg:Str→Option Value} {base:Heap} {t:Cas} {f:Addr} {fd:FuncData}
def spFor (t:Cas) (val:VP→Nat→Nat→Bool):Sp:=fun vs H Q _=>∃ (A:Rl→Addr) (w:VW) (E:Hp) (i:Nat) (q:Addr) (k p:Nat) (s n:Nat) (r:List V),vs=[.ref (A (.po i)),.ref q]∧Rep t A H w E∧i < w.ports.length∧H q=some (.tup (.int k::.int p::.int s::.int n::r))∧Q (.bl (val (pAt w i) s n)) H
def forDev (x:VP) (s n:Nat):Bool:=match x.device with
  | none=>false
  | some d=>x.on && (d.session == s && decide (d.number≤n))
def forPort (x:VP) (s _n:Nat):Bool:=x.on && x.session == s
theorem int_dec (a b:Nat):decide (V.int (a:Int)=V.int (b:Int))=(a == b):=by
  by_cases h:a=b
  · subst h; rw [decide_eq_true rfl,beq_self_eq_true]
  · rw [decide_eq_false (fun z=>h (by injection z with z; omega)),beq_eq_false_iff_ne.mpr h]
theorem ok_is_for_device (T:Txt K mg t) (F:Fun K "is_for_device" "is_for_device" s_is_for_device f fd):FnOk P w₀ K mg base CX0 1 f fd ["port","message"] (spFor t forDev):=by
  refine F.ok sc_is_for_device (fun vs H Q E h=>?_) (fun cdv A outer s H vs Q E hr h=>?_)
  · obtain ⟨_,_,_,_,_,_,_,_,_,_,rfl,_⟩:=h; rfl
  · obtain ⟨A,w,E,i,q,k,p,s,n,r,rfl,R,hi,hq,z⟩:=h
    have nd:=sc_is_for_device.nd
    refine ⟨_,(pss_cons (ps_set (i:=2) nd rfl (Or.inl rfl) (pe_fl (K:=K) (pv 0))) (pss_cons (ps_if (PW.pt (pw_or (pt_cmpR op_isN (pv 2) pe_non (nomark _)) (pw_or1 (pt_cmpR op_eq (pe_fl (K:=K) (pv 0)) pe_int (nomark _))))) (pss_one (ps_ret pe_bl)) pss_nil) (pss_one (ps_ret (pe_and (pe_cmpR op_eq (pe_fl (K:=K) (pv 2)) (pe_ix (ix_tupK (K:=K)) (pv 1) pe_int (fun _ _=>rfl)) (nomark _)) (pe_one (pe_cmpR op_le (pe_fl (K:=K) (pv 2)) (pe_ix (ix_tupK (K:=K)) (pv 1) pe_int (fun _ _=>rfl)) (nomark _)))))))),?_⟩
    obtain ⟨G,gs,ms,hA,RX⟩:=id R
    rw [← hA (.po i) rfl]
    unfold forDev at z
    cases hd:(pAt w i).device with
    | none =>
      rw [hd] at z
      refine ⟨_,rfl,r_port_device T (RX.prtN hi hd) ⟨_,rfl,rfl,_,rfl,?_⟩⟩
      refine ite2 (fun _=>ite2 (fun _=>?_) (fun h=>absurd rfl h)) (fun h=>absurd rfl h)
      exact z
    | some y =>
      rw [hd] at z
      refine ⟨_,rfl,r_port_device T (RX.prtD hi hd) ⟨_,rfl,rfl,_,rfl,?_⟩⟩
      refine ite2 (fun h=>nomatch of_decide_eq_true h) (fun _=>?_)
      refine ⟨_,rfl,r_port_on T (RX.prt hi) ⟨rfl,_,rfl,?_⟩⟩
      cases ho:(pAt w i).on with
      | false =>
        rw [ho] at z
        refine ite2 (fun _=>?_) (fun h=>absurd rfl h)
        exact z
      | true =>
        rw [ho] at z
        refine ite2 (fun h=>absurd h (by decide)) (fun _=>?_)
        refine ⟨_,rfl,r_dev_session T (RX.dev hi hd) ⟨_,rfl,q,_,_,.int s,rfl,rfl,SqT.of hq,atI_nat (j:=2) rfl,rfl,_,rfl,?_⟩⟩
        have z:Q (.bl (y.session == s && decide (y.number≤n))) H:=z
        rw [int_dec]
        cases hs:(y.session == s) with
        | false =>
          rw [hs] at z
          refine ite2 (fun h=>absurd h (by decide)) (fun _=>?_)
          exact z
        | true =>
          rw [hs] at z
          refine ite2 (fun _=>?_) (fun h=>absurd rfl h)
          refine ⟨_,rfl,r_dev_number T (RX.dev hi hd) ⟨_,rfl,q,_,_,.int n,rfl,rfl,SqT.of hq,atI_nat (j:=3) rfl,_,_,rfl,rfl,?_⟩⟩
          have e:decide ((y.number:Int)≤(n:Int))=decide (y.number≤n):=by
            by_cases h:y.number≤n
            · rw [decide_eq_true h,decide_eq_true (by omega)]
            · rw [decide_eq_false h,decide_eq_false (by omega)]
          show Q (.bl (decide ((y.number:Int)≤(n:Int)))) H
          rw [e]
          exact z
theorem ok_is_for_port (T:Txt K mg t) (F:Fun K "is_for_port" "is_for_port" s_is_for_port f fd):FnOk P w₀ K mg base CX0 1 f fd ["port","message"] (spFor t forPort):=by
  refine F.ok sc_is_for_port (fun vs H Q E h=>?_) (fun cdv A outer s H vs Q E hr h=>?_)
  · obtain ⟨_,_,_,_,_,_,_,_,_,_,rfl,_⟩:=h; rfl
  · obtain ⟨A,w,E,i,q,k,p,s,n,r,rfl,R,hi,hq,z⟩:=h
    have nd:=sc_is_for_port.nd
    refine ⟨_,(pss_one (ps_ret (pe_and (pe_cmpR op_eq (pe_fl (K:=K) (pv 0)) pe_int (nomark _)) (pe_one (pe_cmpR op_eq (pe_fl (K:=K) (pv 0)) (pe_ix (ix_tupK (K:=K)) (pv 1) pe_int (fun _ _=>rfl)) (nomark _)))))),?_⟩
    obtain ⟨G,gs,ms,hA,RX⟩:=id R
    rw [← hA (.po i) rfl]
    unfold forPort at z
    refine ⟨_,rfl,r_port_on T (RX.prt hi) ⟨rfl,_,rfl,?_⟩⟩
    cases ho:(pAt w i).on with
    | false =>
      rw [ho] at z
      refine ite2 (fun h=>absurd h (by decide)) (fun _=>?_)
      exact z
    | true =>
      rw [ho] at z
      refine ite2 (fun _=>?_) (fun h=>absurd rfl h)
      refine ⟨_,rfl,r_port_session T (RX.prt hi) ⟨_,rfl,q,_,_,.int s,rfl,rfl,SqT.of hq,atI_nat (j:=2) rfl,rfl,?_⟩⟩
      rw [int_dec]
      exact z
def portM:VM→Nat
  | .grant p _ _ _=>p
  | .taken p _ _=>p
  | .wish p _ _ _=>p
def kindM:VM→Nat
  | .grant ..=>0
  | .taken ..=>1
  | .wish ..=>2
def spHan (t:Cas) (k:Nat):Sp:=fun vs H Q _=>∃ (A:Rl→Addr) (w:VW) (E:Hp) (q:Addr) (m:VM),vs=[.ref (A .wd),.ref q]∧Rep t A H w E∧Ok w∧E q=some (.tup (mV m))∧kindM m=k∧portM m < w.ports.length ∧
  ∀ H',Rep t A H' (Vbcnam.handled w m) E→Q .non H'
theorem ok_handle_wish (T:Txt K mg t) (F:Fun K "handle_wish" "handle_wish" s_handle_wish f fd) (F_is_for_port:Known P w₀ K mg base "is_for_port" 1 ["port","message"] (spFor t forPort)) :
    FnOk P w₀ K mg base CX0 2 f fd ["world","message"] (spHan t 2):=by
  refine F.ok sc_handle_wish (fun vs H Q E h=>?_) (fun cdv A outer s H vs Q E hr h=>?_)
  · obtain ⟨_,_,_,_,_,rfl,_⟩:=h; rfl
  · obtain ⟨A,w,E,q,m,rfl,R,O,hq,hk,hi,z⟩:=h
    cases m with
    | grant=>exact absurd hk (by show ¬ 0=2; decide)
    | taken=>exact absurd hk (by show ¬ 1=2; decide)
    | wish i s n wt =>
      have nd:=sc_handle_wish.nd
      have hi:i < w.ports.length:=hi
      refine ⟨_,(pss_cons (ps_set (i:=2) nd rfl (Or.inl rfl) (pe_ix (ix_listK (K:=K)) (pe_fl (K:=K) (pv 0)) (pe_ix (ix_tupK (K:=K)) (pv 1) pe_int (fun _ _=>rfl)) (fun _ _=>rfl))) (pss_one (ps_if (PW.pt (pw_and (pt_val (pe_f F_is_for_port (hr.mono (by decide)) (pa_cons (pv 2) (pa_cons (pv 1) pa_nil)))) (pw_and1 (pt_cmpR op_lt (pe_fl (K:=K) (pv 2)) (pe_ix (ix_tupK (K:=K)) (pv 1) pe_int (fun _ _=>rfl)) (nomark _))))) (pss_cons (ps_fl (K:=K) (pv 2) (pe_ix (ix_tupK (K:=K)) (pv 1) pe_int (fun _ _=>rfl))) (pss_one (ps_fl (K:=K) (pv 2) (pe_ix (ix_tupK (K:=K)) (pv 1) pe_int (fun _ _=>rfl))))) pss_nil))),?_⟩
      obtain ⟨dxw,hw⟩:=R.wld
      have hqH:H q=some (.tup [.int 2,.int i,.int s,.int n,.int wt]):=R.sub hq
      refine ⟨_,rfl,r_world_ports T hw ⟨_,rfl,q,_,_,.int i,rfl,rfl,SqT.of hqH,rfl,_,_,_,_,rfl,rfl,SqL.of R.pls,at_port hi,?_⟩⟩
      refine ⟨_,rfl,_,rfl,A,w,E,i,q,2,i,s,n,[.int wt],rfl,R,hi,hqH,_,rfl,?_⟩
      have hh:Vbcnam.handled w (.wish i s n wt)=if forPort (pAt w i) s n=true∧(pAt w i).wish.number < n then setP w i { pAt w i with wish:={ number:=n,watts:=wt } } else w:=by
        show (if (pAt w i).on=true∧((pAt w i).session=s∧(pAt w i).wish.number < n) then _ else w)=_
        unfold forPort
        by_cases h:(pAt w i).on=true∧((pAt w i).session=s∧(pAt w i).wish.number < n)
        · rw [if_pos h,if_pos ⟨by rw [h.1,h.2.1,beq_self_eq_true]; rfl,h.2.2⟩]
        · rw [if_neg h,if_neg fun h'=>h ⟨(Bool.and_eq_true_iff.mp h'.1).1,eq_of_beq (Bool.and_eq_true_iff.mp h'.1).2,h'.2⟩]
      rw [hh] at z
      cases hf:forPort (pAt w i) s n with
      | false =>
        rw [if_neg (fun h=>by rw [hf] at h; cases h.1)] at z
        refine ite2 (fun h=>absurd h (by decide)) (fun _=>?_)
        refine ite2 (fun h=>absurd h (by decide)) (fun _=>?_)
        exact z H R
      | true =>
        refine ite2 (fun _=>?_) (fun h=>absurd rfl h)
        obtain ⟨G,gs,ms,hA,RX⟩:=id R
        rw [← hA (.po i) rfl]
        refine ⟨_,rfl,r_port_wish_number T (RX.prt hi) ⟨_,rfl,q,_,_,.int n,rfl,rfl,SqT.of hqH,rfl,_,_,rfl,rfl,_,rfl,?_⟩⟩
        by_cases hn:(pAt w i).wish.number < n
        · rw [if_pos ⟨hf,hn⟩] at z
          refine ite2 (fun _=>?_) (fun h=>absurd (decide_eq_true (by omega)) h)
          refine ⟨_,rfl,q,_,_,.int n,rfl,rfl,SqT.of hqH,rfl,_,rfl,wp_wish_number T (RX.toI hi) hi (n:=n) rfl fun H1 R1=>?_⟩
          have hq1:=(R1.fr q _ hq).1
          refine ⟨_,rfl,q,_,_,.int wt,rfl,rfl,SqT.of hq1,rfl,_,rfl,wp_wish_amount T R1 hi (n:=wt) rfl fun H2 R2=>?_⟩
          exact z H2 ⟨G,gs,ms,hA,R2⟩
        · rw [if_neg (fun h=>hn h.2)] at z
          refine ite2 (fun h=>absurd (of_decide_eq_true h) (by omega)) (fun _=>?_)
          exact z H R
theorem ok_handle_grant (T:Txt K mg t) (F:Fun K "handle_grant" "handle_grant" s_handle_grant f fd) (F_is_for_device:Known P w₀ K mg base "is_for_device" 1 ["port","message"] (spFor t forDev))
    (F_put:Known P w₀ K mg base "put" 2 ["world","message"] (sp_put t)) :
    FnOk P w₀ K mg base CX0 3 f fd ["world","message"] (spHan t 0):=by
  refine F.ok sc_handle_grant (fun vs H Q E h=>?_) (fun cdv A outer s H vs Q E hr h=>?_)
  · obtain ⟨_,_,_,_,_,rfl,_⟩:=h; rfl
  · obtain ⟨A,w,E,q,m,rfl,R,O,hq,hk,hi,z⟩:=h
    cases m with
    | wish=>exact absurd hk (by show ¬ 2=0; decide)
    | taken=>exact absurd hk (by show ¬ 1=0; decide)
    | grant i s n wt =>
      have nd:=sc_handle_grant.nd
      have hi:i < w.ports.length:=hi
      refine ⟨_,(pss_cons (ps_set (i:=2) nd rfl (Or.inl rfl) (pe_ix (ix_listK (K:=K)) (pe_fl (K:=K) (pv 0)) (pe_ix (ix_tupK (K:=K)) (pv 1) pe_int (fun _ _=>rfl)) (fun _ _=>rfl))) (pss_one (ps_if (pt_val (pe_f F_is_for_device (hr.mono (by decide)) (pa_cons (pv 2) (pa_cons (pv 1) pa_nil)))) (pss_cons (ps_set (i:=3) nd rfl (Or.inl rfl) (pe_fl (K:=K) (pv 2))) (pss_cons (ps_fl (K:=K) (pv 3) (pe_ix (ix_tupK (K:=K)) (pv 1) pe_int (fun _ _=>rfl))) (pss_cons (ps_fl (K:=K) (pv 3) (pe_ix (ix_tupK (K:=K)) (pv 1) pe_int (fun _ _=>rfl))) (pss_cons (ps_fl (K:=K) (pv 3) (pe_callB (call_min2 rfl) (by rfl) T.b_min boot_min (pa_cons (pe_fl (K:=K) (pv 3)) (pa_cons (pe_fl (K:=K) (pv 3)) pa_nil)))) (pss_one (ps_expr (pe_f F_put (hr.mono (by decide)) (pa_cons (pv 0) (pa_cons (pe_tup (pa_cons (pe_gi T.i_TAKEN_MESSAGE) (pa_cons (pe_ix (ix_tupK (K:=K)) (pv 1) pe_int (fun _ _=>rfl)) (pa_cons (pe_ix (ix_tupK (K:=K)) (pv 1) pe_int (fun _ _=>rfl)) (pa_cons (pe_ix (ix_tupK (K:=K)) (pv 1) pe_int (fun _ _=>rfl)) pa_nil))))) pa_nil))))))))) pss_nil))),?_⟩
      obtain ⟨dxw,hw⟩:=R.wld
      have hqH:H q=some (.tup [.int 0,.int i,.int s,.int n,.int wt]):=R.sub hq
      refine ⟨_,rfl,r_world_ports T hw ⟨_,rfl,q,_,_,.int i,rfl,rfl,SqT.of hqH,rfl,_,_,_,_,rfl,rfl,SqL.of R.pls,at_port hi,?_⟩⟩
      refine ⟨_,rfl,_,rfl,A,w,E,i,q,0,i,s,n,[.int wt],rfl,R,hi,hqH,_,rfl,?_⟩
      cases hd:(pAt w i).device with
      | none =>
        have hf:forDev (pAt w i) s n=false:=by unfold forDev; rw [hd]
        have hh:Vbcnam.handled w (.grant i s n wt)=w:=by
          show (match (pAt w i).device with | none=>w | some d=>_)=w
          rw [hd]
        rw [hh] at z
        rw [hf]
        refine ite2 (fun h=>absurd h (by decide)) (fun _=>?_)
        exact z H R
      | some y =>
        have hf:forDev (pAt w i) s n=((pAt w i).on && (y.session == s && decide (y.number≤n))):=by unfold forDev; rw [hd]
        have hh:Vbcnam.handled w (.grant i s n wt)=if forDev (pAt w i) s n=true then Vbcnam.put (setP w i { pAt w i with device:=some { y with number:=n,limit:=wt,draws:=min y.draws wt } }) (.taken i s n) else w:=by
          show (match (pAt w i).device with | none=>w | some d=>_)=_
          rw [hd,hf]
          show (if (pAt w i).on=false∨y.session≠s∨n < y.number then w else _)=_
          by_cases h:(pAt w i).on=false∨y.session≠s∨n < y.number
          · rw [if_pos h,if_neg]
            intro h'
            obtain ⟨a,b⟩:=Bool.and_eq_true_iff.mp h'
            obtain ⟨b,c⟩:=Bool.and_eq_true_iff.mp b
            have b:=eq_of_beq b
            have c:=of_decide_eq_true c
            rcases h with h | h | h
            · rw [a] at h; cases h
            · exact h b
            · omega
          · rw [if_neg h,if_pos]
            have a:(pAt w i).on=true:=by
              cases e:(pAt w i).on with
              | true=>rfl
              | false=>exact absurd (.inl e) h
            have b:y.session=s:=Classical.byContradiction fun e=>h (.inr (.inl e))
            have c:y.number≤n:=by
              by_cases c:y.number≤n
              · exact c
              · exact absurd (.inr (.inr (by omega))) h
            rw [a,b,beq_self_eq_true,decide_eq_true c]
            rfl
        rw [hh] at z
        cases hv:forDev (pAt w i) s n with
        | false =>
          rw [if_neg (by rw [hv]; decide)] at z
          refine ite2 (fun h=>absurd h (by decide)) (fun _=>?_)
          exact z H R
        | true =>
          rw [if_pos hv] at z
          refine ite2 (fun _=>?_) (fun h=>absurd rfl h)
          obtain ⟨G,gs,ms,hA,RX⟩:=id R
          rw [← hA (.po i) rfl]
          refine ⟨_,rfl,r_port_device T (RX.prtD hi hd) ?_⟩
          refine ⟨_,rfl,q,_,_,.int n,rfl,rfl,SqT.of hqH,rfl,_,rfl,wd_number T (RX.toI hi) hi hd (n:=n) rfl fun H1 R1=>?_⟩
          refine ⟨_,rfl,q,_,_,.int wt,rfl,rfl,SqT.of (R1.fr q _ hq).1,rfl,_,rfl,wd_limit T R1 hi rfl (n:=wt) rfl fun H2 R2=>?_⟩
          refine ⟨_,rfl,r_dev_draws T (R2.devI hi rfl) ⟨_,rfl,r_dev_limit T (R2.devI hi rfl) ⟨_,_,rfl,_,rfl,wd_draws T R2 hi rfl (n:=min y.draws wt) ?_ fun H3 R3=>?_⟩⟩⟩
          · have e:(if (wt:Int) < (y.draws:Int) then (wt:Int) else (y.draws:Int))=((min y.draws wt:Nat):Int):=by split <;> omega
            show V.int _=_
            rw [← e]
          · have hq3:=(R3.fr q _ hq).1
            refine ⟨_,rfl,_,rfl,q,_,_,.int i,rfl,rfl,SqT.of hq3,rfl,_,rfl,q,_,_,.int s,rfl,rfl,SqT.of hq3,rfl,_,rfl,q,_,_,.int n,rfl,rfl,SqT.of hq3,rfl,(by show 4≤sizeLine; decide),fun q0 hq0=>?_⟩
            have O1:Ok (setP w i { pAt w i with device:=some { y with number:=n,limit:=wt,draws:=min y.draws wt } }):=O.set hi (fun v hv=>by cases hv; exact O.cls i hi y hd) (fun h=>⟨(O.on i hi h).1,rfl⟩) (O.gl i hi)
            exact ⟨A,_,_,q0,.taken i s n,rfl,⟨G,gs,ms,hA,R3.ext hq0⟩,O1,upd_same,fun H4 R4=>z H4 (R4.drop (R3.none_of hq0))⟩
theorem ok_handle_taken (T:Txt K mg t) (F:Fun K "handle_taken" "handle_taken" s_handle_taken f fd) (F_is_for_port:Known P w₀ K mg base "is_for_port" 1 ["port","message"] (spFor t forPort)) :
    FnOk P w₀ K mg base CX0 2 f fd ["world","message"] (spHan t 1):=by
  refine F.ok sc_handle_taken (fun vs H Q E h=>?_) (fun cdv A outer s H vs Q E hr h=>?_)
  · obtain ⟨_,_,_,_,_,rfl,_⟩:=h; rfl
  · obtain ⟨A,w,E,q,m,rfl,R,O,hq,hk,hi,z⟩:=h
    cases m with
    | wish=>exact absurd hk (by show ¬ 2=1; decide)
    | grant=>exact absurd hk (by show ¬ 0=1; decide)
    | taken i s n =>
      have nd:=sc_handle_taken.nd
      have hi:i < w.ports.length:=hi
      refine ⟨_,(pss_cons (ps_set (i:=2) nd rfl (Or.inl rfl) (pe_ix (ix_listK (K:=K)) (pe_fl (K:=K) (pv 0)) (pe_ix (ix_tupK (K:=K)) (pv 1) pe_int (fun _ _=>rfl)) (fun _ _=>rfl))) (pss_one (ps_if (pt_val (pe_f F_is_for_port (hr.mono (by decide)) (pa_cons (pv 2) (pa_cons (pv 1) pa_nil)))) (pss_one (ps_fl (K:=K) (pv 2) (pe_lc (own:=[("grant",3)]) rfl nd (pi_listK (K:=K) (pe_fl (K:=K) (pv 2))) (by show BlkOk ["world","message","port","grant"] (defScope s_handle_taken) _ _; exact ⟨rfl,by decide +kernel,by decide +kernel,by decide +kernel,by decide +kernel⟩) (fun _ _ _ _ _=>pg_name (i:=3) nd rfl (Or.inl rfl)) (fun _ _ _ _ _=>pts_one (pt_cmpR op_ge (pe_ix (ix_tupK (K:=K)) (pv 3) pe_int (fun _ _=>rfl)) (pe_ix (ix_tupK (K:=K)) (pv 1) pe_int (fun _ _=>rfl)) (nomark _))) (fun _ _ _ _ _=>(pv 3))))) pss_nil))),?_⟩
      obtain ⟨dxw,hw⟩:=R.wld
      have hqH:H q=some (.tup [.int 1,.int i,.int s,.int n]):=R.sub hq
      refine ⟨_,rfl,r_world_ports T hw ⟨_,rfl,q,_,_,.int i,rfl,rfl,SqT.of hqH,rfl,_,_,_,_,rfl,rfl,SqL.of R.pls,at_port hi,?_⟩⟩
      refine ⟨_,rfl,_,rfl,A,w,E,i,q,1,i,s,n,[],rfl,R,hi,hqH,_,rfl,?_⟩
      have hh:Vbcnam.handled w (.taken i s n)=if forPort (pAt w i) s n=true then setP w i { pAt w i with grants:=(pAt w i).grants.filter fun g=>decide (n≤g.number) } else w:=by
        show (if (pAt w i).on=true∧(pAt w i).session=s then _ else w)=_
        unfold forPort
        by_cases h:(pAt w i).on=true∧(pAt w i).session=s
        · rw [if_pos h,if_pos (by rw [h.1,h.2,beq_self_eq_true]; rfl)]
        · rw [if_neg h,if_neg fun h'=>h ⟨(Bool.and_eq_true_iff.mp h').1,eq_of_beq (Bool.and_eq_true_iff.mp h').2⟩]
      rw [hh] at z
      cases hf:forPort (pAt w i) s n with
      | false =>
        rw [if_neg (by rw [hf]; decide)] at z
        refine ite2 (fun h=>absurd h (by decide)) (fun _=>?_)
        exact z H R
      | true =>
        rw [if_pos hf] at z
        refine ite2 (fun _=>?_) (fun h=>absurd rfl h)
        obtain ⟨G,gs,ms,hA,RX⟩:=id R
        rw [← hA (.po i) rfl]
        refine ⟨_,rfl,r_port_grants T (RX.prt hi) ⟨G.ad (.gr i),rfl,⟨_,SqL.of (RX.at_ (.gr i) hi)⟩,fun D hD=>?_⟩⟩
        have ED:=RX.none_of hD
        have hqD:∀ {o:HO},upd E D o q=some (.tup (mV (.taken i s n))):=fun {o}=>by rw [upd_ne (ne_of_none hq ED)]; exact hq
        refine lc_list (K:=K) (a:=G.ad (.gr i)) (xs:=refs (gs i)) (fun j H'=>∃ l,l.length≤j∧Tups H' l ((((pAt w i).grants.take j).filter fun g=>decide (n≤g.number)).map gV)∧RepX t G gs ms H' w (upd E D (.lst (refs l))))
          ⟨[],Nat.zero_le _,trivial,RX.ext hD⟩ (fun j H' _ ⟨_,_,_,R'⟩=>SqL.of (R'.at_ (.gr i) hi)) (fun j x H' hx ⟨l,hl,tl,R'⟩=>?_) (fun H' ⟨l,hl,tl,R'⟩=>?_)
        · obtain ⟨a,ha,rfl⟩:=refs_at hx
          obtain ⟨g,hg,hga⟩:=R'.grant hi ha
          have hjl:j < (pAt w i).grants.length:=by
            by_cases h:j < (pAt w i).grants.length
            · exact h
            · rw [List.getElem?_eq_none (by omega)] at hg; cases hg
          have hq1:H' q=some (.tup [.int 1,.int i,.int s,.int n]):=(R'.fr q _ hqD).1
          refine ⟨rfl,?_⟩
          refine ⟨_,rfl,a,_,_,.int g.number,rfl,rfl,SqT.of hga,rfl,_,rfl,q,_,_,.int n,rfl,rfl,SqT.of hq1,rfl,_,_,rfl,rfl,_,rfl,?_⟩
          by_cases hn:n≤g.number
          · refine ite2 (fun _=>?_) (fun h=>absurd (decide_eq_true (by omega)) h)
            refine ⟨_,rfl,_,(R'.fr D _ upd_same).1,?_,?_⟩
            · unfold refs
              rw [List.length_map]
              exact Nat.lt_of_le_of_lt hl (Nat.lt_of_lt_of_le hjl (Nat.le_trans (O.gl i hi) (by decide)))
            · have e2:refs l ++ [V.ref a]=refs (l ++ [a]):=by unfold refs; rw [List.map_append]; rfl
              have R2:=R'.extw (o:=.lst (refs (l ++ [a]))) upd_same trivial
              rw [upd_upd] at R2
              rw [e2]
              refine ⟨l ++ [a],by rw [List.length_append]; exact Nat.succ_le_succ hl,?_,R2⟩
              rw [take_snoc hg,List.filter_append,List.map_append,List.filter_cons,if_pos (decide_eq_true hn),List.filter_nil]
              exact tups_upd (.inr ⟨_,(R'.fr D _ upd_same).1,trivial⟩) (tl.app ⟨hga,trivial⟩)
          · refine ite2 (fun h=>absurd (of_decide_eq_true h) (by omega)) (fun _=>?_)
            refine ⟨l,Nat.le_succ_of_le hl,?_,R'⟩
            rw [take_snoc hg,List.filter_append,List.filter_cons,if_neg (by simpa using hn),List.filter_nil,List.append_nil]
            exact tl
        · have e2:(pAt w i).grants.take (refs (gs i)).length=(pAt w i).grants:=by
            unfold refs
            rw [List.length_map,RX.glen hi,List.take_length]
          rw [e2] at tl
          refine ⟨_,rfl,wp_grants T (R'.toI hi) hi (q:=D) (l:=l) (g':=(pAt w i).grants.filter fun g=>decide (n≤g.number)) (E':=E) rfl (fun b o e=>by rw [upd_ne (ne_of_none e ED)]; exact e) upd_same tl ED fun H2 R2=>?_⟩
          exact z H2 ⟨_,_,ms,reAd_fix hA,R2⟩
end
theorem seq_nat {k n:Nat} (h:k < n):seqIndex? (k:Int) n=some k:=(ixN_seq (show ixN n (k:Int)=some k from by unfold ixN; rw [if_pos (by omega),if_pos (by omega)]; simp)).1
theorem get_bag {w:VW} {k:Nat} (h:k < w.bag.length):∃ m,w.bag[k]?=some m:=⟨_,List.getElem?_eq_getElem h⟩
section
variable {P:Program} {w₀:PySem.World} {K:PySem.W.Frag} {mg:Str→Option Value} {base:Heap} {t:Cas} {f:Addr} {fd:FuncData}
def HandOk (P:Program) (w₀:PySem.World) (K:PySem.W.Frag) (mg:Str→Option Value) (base:Heap) (t:Cas) (kk:Nat):Prop:=∃ aH fs,mg "HANDLERS" = some (.ref aH)∧(∀ H:Hp,SqT K H aH (refs fs)) ∧
  ∀ k,k < 3→∃ f fd j,fs[k]?=some f∧j≤kk∧FnOk P w₀ K mg base CX0 j f fd ["world","message"] (spHan t k)∧PySem.W.keepIn K (.ref f)=true∧Binds K fd ["world","message"] []
def spDel (t:Cas):Sp:=fun vs H Q _=>∃ (A:Rl→Addr) (w:VW) (E:Hp) (k:Nat),vs=[.ref (A .wd),.int k]∧Rep t A H w E∧Good w∧k < w.bag.length∧∀ H',Rep t A H' (Vbcnam.delivered w k) E→Q .non H'
theorem ok_deliver (T:Txt K mg t) (HD:HandOk P w₀ K mg base t (4 - 1)) (F:Fun K "deliver" "deliver" s_deliver f fd):FnOk P w₀ K mg base CX0 4 f fd ["world","place"] (spDel t):=by
  refine F.ok sc_deliver (fun vs H Q E h=>?_) (fun cdv A outer s H vs Q E hr h=>?_)
  · obtain ⟨_,_,_,_,rfl,_⟩:=h; rfl
  · obtain ⟨A,w,E,k,rfl,R,G,hk,z⟩:=h
    have nd:=sc_deliver.nd
    obtain ⟨aH,fs,m_HANDLERS,sH,hH⟩:=HD
    refine ⟨_,(pss_cons (ps_set (i:=2) nd rfl (Or.inl rfl) (pe_bm PySem.F.plainAttrs_list PySem.F.slot_list_pop PySem.F.type_list_pop mt_popAt (pe_fl (K:=K) (pv 0)) (pa_cons (pv 1) pa_nil))) (pss_one (ps_expr (pe_cx (P:=P) (w:=w₀) (K:=K) (mg:=mg) (base:=base) (k:=3) (hr.mono (by decide)) (pe_ix (ix_tupK (K:=K)) (pe_gr m_HANDLERS) (pe_ix (ix_tupK (K:=K)) (pv 2) pe_int (fun _ _=>rfl)) (fun _ _=>rfl)) (pa_cons (pv 0) (pa_cons (pv 2) pa_nil)))))),?_⟩
    obtain ⟨dxw,hw⟩:=R.wld
    obtain ⟨m,hm⟩:=get_bag hk
    obtain ⟨ms,q,hb,hq,hqH,hl⟩:=R.mat hm
    have k0:(k:Int) < 2 ^ 63:=by have:=G.bag; have:=G.cap; omega
    refine ⟨_,rfl,r_world_bag T hw ⟨.inl ⟨rfl,_,SqL.of hb⟩,_,rfl,A .bg,refs ms,k,k,.ref q,rfl,rfl,hb,by omega,k0,seq_nat (by rw [hl]; exact hk),by unfold refs; rw [List.getElem?_map,hq]; rfl,?_⟩⟩
    have R1:=R.pop (k:=k) hb
    have hq1:upd H (A .bg) (.lst ((refs ms).eraseIdx k)) q=some (.tup (mV m)):=by rw [upd_ne (ne_of hqH hb (fun z=>nomatch z))]; exact hqH
    have R2:=R1.keep hq1
    have hd:Vbcnam.delivered w k=Vbcnam.handled { w with bag:=w.bag.eraseIdx k } m:=by unfold Vbcnam.delivered; rw [hm]
    rw [hd] at z
    have hp:portM m < w.ports.length:=by
      have:=G.msg m (List.mem_of_getElem? hm)
      cases m with
      | grant=>exact this.1
      | taken=>exact this.1
      | wish=>exact this
    have kk:kindM m < 3:=by cases m <;> first | exact (by decide:0 < 3) | exact (by decide:1 < 3) | exact (by decide:2 < 3)
    obtain ⟨fk,fdk,j,hf,hj,FK,kp,bd⟩:=hH (kindM m) kk
    have ek:∃ r,mV m=V.int (kindM m:Nat)::r:=by cases m <;> exact ⟨_,rfl⟩
    obtain ⟨rr,ek⟩:=ek
    refine ⟨_,rfl,q,_,_,.int (kindM m:Nat),rfl,rfl,SqT.of hq1,by rw [ek]; exact atI_nat (j:=0) rfl,aH,_,_,.ref fk,rfl,rfl,sH _,refs_ix hf,fk,fdk,j,_,_,rfl,hj,FK,kp,bd,?_⟩
    exact ⟨_,rfl,_,rfl,A,_,_,q,m,rfl,R2,G.ok.erase k,upd_same,rfl,hp,fun H3 R3=>z H3 (R1.unkeep hq1 R3)⟩
def spCalm (t:Cas):Sp:=fun vs H Q _=>∃ (A:Rl→Addr) (w:VW) (E:Hp),vs=[.ref (A .wd)]∧Rep t A H w E∧Good w∧∀ H',Rep t A H' (Vbcnam.calmed (2 * w.bag.length) w).1 E→Q (.int ((Vbcnam.calmed (2 * w.bag.length) w).2:Nat)) H'
theorem ok_deliver_all (T:Txt K mg t) (F:Fun K "deliver_all" "deliver_all" s_deliver_all f fd) (F_deliver:Known P w₀ K mg base "deliver" 4 ["world","place"] (spDel t)):FnOk P w₀ K mg base CX0 5 f fd ["world"] (spCalm t):=by
  refine F.ok sc_deliver_all (fun vs H Q E h=>?_) (fun cdv A outer s H vs Q E hr h=>?_)
  · obtain ⟨_,_,_,rfl,_⟩:=h; rfl
  · obtain ⟨A,w,E,rfl,R,G,z⟩:=h
    have nd:=sc_deliver_all.nd
    refine ⟨_,(pss_cons (ps_set (i:=1) nd rfl (Or.inl rfl) pe_int) (pss_cons (ps_while PassesOwn.never (pt_cmpR op_gt (pe_callB (call_lenK (K:=K)) (by rfl) T.b_len PySem.boot_len (pa_cons (pe_fl (K:=K) (pv 0)) pa_nil)) pe_int (nomark _)) (pss_cons (ps_expr (pe_f F_deliver (hr.mono (by decide)) (pa_cons (pv 0) (pa_cons pe_int pa_nil)))) (pss_one (ps_aug (i:=1) nd rfl (Or.inl rfl) pe_int ip_add)))) (pss_one (ps_ret (pv 1))))),?_⟩
    generalize hN:2 * w.bag.length=N at z
    have hc0:cost w.bag≤N:=by rw [← hN]; exact cost_le _
    let IV:Nat→L2.St→Hp→Prop:=fun m σ H=>∃ (c:Nat) (v:VW),σ=[some (.ref (A .wd)),some (.int c)]∧Good v∧m=cost v.bag∧m≤N∧Rep t A H v E∧Vbcnam.calmed N w=((Vbcnam.calmed N v).1,(Vbcnam.calmed N v).2 + c)
    refine ⟨IV,⟨cost w.bag,0,w,rfl,G,rfl,hc0,R,rfl⟩,?_⟩
    rintro m σ H ⟨c,v,rfl,Gv,rfl,hm,Rv,ev⟩
    obtain ⟨dxw,hw⟩:=Rv.wld
    obtain ⟨ms,hb,hl⟩:=Rv.bgs
    refine ⟨_,rfl,r_world_bag T hw ⟨_,_,rfl,.inl (SqL.of hb),_,_,rfl,rfl,_,rfl,?_⟩⟩
    rw [hl]
    by_cases he:v.bag=[]
    · refine ite2 (fun h=>absurd (of_decide_eq_true h) (by rw [he]; decide)) (fun _=>?_)
      rw [calm_nil N he] at ev
      rw [ev] at z
      refine ⟨_,rfl,?_⟩
      have z:=z H Rv
      rw [Nat.zero_add] at z
      exact z
    · have hpos:0 < v.bag.length:=List.length_pos_iff.mpr he
      refine ite2 (fun _=>?_) (fun h=>absurd (decide_eq_true (by omega)) h)
      have hc:=cost_delivered he
      refine ⟨fun σ' H'=>IV (cost (Vbcnam.delivered v 0).bag) σ' H',fun σ' H' h=>⟨cost (Vbcnam.delivered v 0).bag,by omega,h⟩,?_⟩
      refine ⟨_,rfl,A,v,E,0,rfl,Rv,Gv,hpos,fun H1 R1=>⟨_,rfl,_,_,rfl,rfl,c + 1,Vbcnam.delivered v 0,rfl,Gv.delivered 0,rfl,by omega,R1,?_⟩⟩
      rw [ev,calm_turn N hm he]
      show (_,_ + 1 + c)=(_,_ + (c + 1))
      rw [Nat.add_assoc,Nat.add_comm 1 c]
theorem ok_all_energy (T:Txt K mg t) (F:Fun K "all_energy" "all_energy" s_all_energy f fd) :
    FnOk P w₀ K mg base CX0 1 f fd ["world"] (spW t fun w=>.int (Vbcnam.sum (w.ports.map fun x=>x.energy):Nat)):=by
  refine F.ok sc_all_energy (fun vs H Q E h=>?_) (fun cdv A outer s H vs Q E hr h=>?_)
  · obtain ⟨_,_,_,rfl,_⟩:=h; rfl
  · obtain ⟨A,w,E,rfl,R,O,q⟩:=h
    have q:∀ H',Rep t A H' w E→Q (.int (Vbcnam.sum (w.ports.map fun x=>x.energy):Nat)) H':=q
    have nd:=sc_all_energy.nd
    refine ⟨_,(pss_one (ps_ret (pe_callB (cr_sumK (K:=K)) (by rfl) T.b_sum boot_sum (pa_cons (pe_lc (own:=[("port",1)]) rfl nd (pi_listK (K:=K) (pe_fl (K:=K) (pv 0))) (by show BlkOk ["world","port"] (defScope s_all_energy) _ _; exact ⟨rfl,by decide +kernel,by decide +kernel,by decide +kernel,by decide +kernel⟩) (fun _ _ _ _ _=>pg_name (i:=1) nd rfl (Or.inl rfl)) (fun _ _ _ _ _=>pts_nil) (fun _ _ _ _ _=>(pe_fl (K:=K) (pv 1)))) pa_nil)))),?_⟩
    obtain ⟨G,gs,ms,hA,RX⟩:=id R
    have hw:=RX.at_ .wd trivial
    rw [hA .wd rfl,] at hw
    refine ⟨_,rfl,r_world_ports T hw ⟨G.ad .pl,rfl,⟨_,SqL.of (RX.at_ .pl trivial)⟩,fun D hD=>?_⟩⟩
    have ED:=RX.none_of hD
    refine lc_list (K:=K) (a:=G.ad .pl) (xs:=refs ((List.range w.ports.length).map fun i=>G.ad (.po i))) (fun i H'=>RepX t G gs ms H' w (upd E D (.lst (numV ((w.ports.take i).map fun x=>x.energy)))))
      (RX.ext hD) (fun i H' _ R'=>SqL.of (R'.at_ .pl trivial)) (fun i x H' hx R'=>?_) (fun H' R'=>?_)
    · obtain ⟨hi,rfl⟩:=refs_get hx
      refine ⟨rfl,?_⟩
      refine yesI ?_
      refine ⟨_,rfl,r_port_energy T (R'.prt hi) ⟨_,(R'.fr D _ upd_same).1,?_,?_⟩⟩
      · unfold numV
        rw [List.length_map,List.length_map]
        exact Nat.lt_of_le_of_lt (List.take_sublist i _).length_le (Nat.lt_of_le_of_lt O.np (by decide))
      · have e2:numV ((w.ports.take (i + 1)).map fun x=>x.energy)=numV ((w.ports.take i).map fun x=>x.energy) ++ [V.int (pAt w i).energy]:=by
          rw [map_take_snoc (pAt_get hi)]
          unfold numV
          rw [List.map_append]
          rfl
        rw [e2]
        have R3:=R'.extw (o:=.lst (numV ((w.ports.take i).map fun x=>x.energy) ++ [V.int (pAt w i).energy])) upd_same trivial
        rw [upd_upd] at R3
        exact R3
    · have e2:w.ports.take (refs ((List.range w.ports.length).map fun i=>G.ad (.po i))).length=w.ports:=by
        unfold refs
        rw [List.length_map,List.length_map,List.length_range,List.take_length]
      rw [e2] at R'
      refine ⟨D,_,rfl,SqL.of (by rw [← numV_map]; exact (R'.fr D _ upd_same).1),?_⟩
      rw [sum_cast]
      exact q H' (Rep.drop ⟨G,gs,ms,hA,R'⟩ ED)
def staL (w:VW):List Int:=Vbcnam.nums [w.now,w.bag.length,Vbcnam.sum (w.ports.map fun x=>x.energy),w.could]
theorem ok_state_view (T:Txt K mg t) (F:Fun K "state_view" "state_view" s_state_view f fd) (F_all_energy:Known P w₀ K mg base "all_energy" 1 ["world"] (spW t fun w=>.int (Vbcnam.sum (w.ports.map fun x=>x.energy):Nat))) :
    FnOk P w₀ K mg base CX0 2 f fd ["world"] (spV t staL):=by
  refine F.ok sc_state_view (fun vs H Q E h=>?_) (fun cdv A outer s H vs Q E hr h=>?_)
  · obtain ⟨_,_,_,rfl,_⟩:=h; rfl
  · obtain ⟨A,w,E,rfl,R,O,k⟩:=h
    have nd:=sc_state_view.nd
    refine ⟨_,(pss_one (ps_ret (pe_lst (pa_cons (pe_fl (K:=K) (pv 0)) (pa_cons (pe_callB (call_lenK (K:=K)) (by rfl) T.b_len PySem.boot_len (pa_cons (pe_fl (K:=K) (pv 0)) pa_nil)) (pa_cons (pe_f F_all_energy (hr.mono (by decide)) (pa_cons (pv 0) pa_nil)) (pa_cons (pe_fl (K:=K) (pv 0)) pa_nil))))))),?_⟩
    obtain ⟨dxw,hw⟩:=R.wld
    obtain ⟨ms,hb,hl⟩:=R.bgs
    refine ⟨_,rfl,r_world_now T hw ⟨_,rfl,r_world_bag T hw ⟨_,_,rfl,.inl (SqL.of hb),_,rfl,A,w,E,rfl,R,O,fun H1 R1=>?_⟩⟩⟩
    obtain ⟨dxw1,hw1⟩:=R1.wld
    refine ⟨_,rfl,r_world_could T hw1 ⟨(by show 4≤sizeLine; decide),fun p hp=>?_⟩⟩
    rw [hl]
    obtain ⟨R5,E5⟩:=R1.ext (o:=.lst (intV (staL w))) hp
    exact k _ p E5 R5
def devL (y:VD):List Int:=Vbcnam.nums [y.cls,y.session,y.number,y.limit,y.draws,y.asked]
def spDv (t:Cas):Sp:=fun vs H Q _=>∃ (p dx:Addr) (y:VD),vs=[.ref p]∧H p=some (.ins t.CD dx (devF y))∧∀ l,H l=none→Q (.ref l) (upd H l (.lst (intV (devL y))))
theorem ok_device_view (T:Txt K mg t) (F:Fun K "device_view" "device_view" s_device_view f fd):FnOk P w₀ K mg base CX0 1 f fd ["device"] (spDv t):=by
  refine F.ok sc_device_view (fun vs H Q E h=>?_) (fun cdv A outer s H vs Q E hr h=>?_)
  · obtain ⟨_,_,_,rfl,_⟩:=h; rfl
  · obtain ⟨p,dx,y,rfl,hp,k⟩:=h
    have nd:=sc_device_view.nd
    refine ⟨_,(pss_one (ps_ret (pe_lst (pa_cons (pe_fl (K:=K) (pv 0)) (pa_cons (pe_fl (K:=K) (pv 0)) (pa_cons (pe_fl (K:=K) (pv 0)) (pa_cons (pe_fl (K:=K) (pv 0)) (pa_cons (pe_fl (K:=K) (pv 0)) (pa_cons (pe_fl (K:=K) (pv 0)) pa_nil))))))))),?_⟩
    exact ⟨_,rfl,r_dev_power_class T hp ⟨_,rfl,r_dev_session T hp ⟨_,rfl,r_dev_number T hp ⟨_,rfl,r_dev_limit T hp ⟨_,rfl,r_dev_draws T hp ⟨_,rfl,r_dev_asked T hp ⟨(by show 6≤sizeLine; decide),k⟩⟩⟩⟩⟩⟩⟩
def porL (x:VP) (l:List Nat):List Int:=[bt x.enabled,(x.rank:Int),(x.most:Int),bt x.faulty,bt x.on] ++ Vbcnam.nums ([x.session,x.number,Vbcnam.reserved x,x.wish.number,x.wish.watts,x.energy,x.grants.length] ++ l)
def graL (l:List VG):List Nat:=l.flatMap fun g=>[g.number,g.watts]
theorem porL_len (x:VP) (l:List Nat):(porL x l).length=12 + l.length:=by
  unfold porL Vbcnam.nums
  rw [List.length_append,List.length_map,List.length_append]
  show 5 + (7 + _)=_
  omega
theorem porL_app (x:VP) (l r:List Nat):porL x (l ++ r)=porL x l ++ Vbcnam.nums r:=by
  unfold porL Vbcnam.nums
  rw [← List.append_assoc [x.session,x.number,Vbcnam.reserved x,x.wish.number,x.wish.watts,x.energy,x.grants.length],List.map_append,← List.append_assoc]
theorem graL_len:∀ l:List VG,(graL l).length=2 * l.length
  | []=>rfl
  | g::l=>by
    show (graL l).length + 1 + 1=2 * (l.length + 1)
    rw [graL_len l]
    omega
theorem graL_snoc {l:List VG} {j:Nat} {g:VG} (h:l[j]?=some g):graL (l.take (j + 1))=graL (l.take j) ++ [g.number,g.watts]:=by
  unfold graL
  rw [take_snoc h,List.flatMap_append]
  rfl
def spPv (t:Cas):Sp:=fun vs H Q _=>∃ (A:Rl→Addr) (w:VW) (E:Hp) (i:Nat),vs=[.ref (A (.po i))]∧Rep t A H w E∧Ok w∧i < w.ports.length∧∀ H' p,E p=none→Rep t A H' w (upd E p (.lst (intV (porL (pAt w i) (graL (pAt w i).grants)))))→Q (.ref p) H'
theorem ok_port_view (T:Txt K mg t) (F:Fun K "port_view" "port_view" s_port_view f fd) (F_reserved_at:Known P w₀ K mg base "reserved_at" 1 ["port"] (spP t (fun _=>True) fun x=>.int (Vbcnam.reserved x))) :
    FnOk P w₀ K mg base CX0 2 f fd ["port"] (spPv t):=by
  refine F.ok sc_port_view (fun vs H Q E h=>?_) (fun cdv A outer s H vs Q E hr h=>?_)
  · obtain ⟨_,_,_,_,rfl,_⟩:=h; rfl
  · obtain ⟨A,w,E,i,rfl,R,O,hi,k⟩:=h
    have nd:=sc_port_view.nd
    refine ⟨_,(pss_cons (ps_set (i:=1) nd rfl (Or.inl rfl) (pe_lst (pa_cons (pe_fl (K:=K) (pv 0)) (pa_cons (pe_fl (K:=K) (pv 0)) (pa_cons (pe_fl (K:=K) (pv 0)) (pa_cons (pe_fl (K:=K) (pv 0)) (pa_cons (pe_fl (K:=K) (pv 0)) (pa_cons (pe_fl (K:=K) (pv 0)) (pa_cons (pe_fl (K:=K) (pv 0)) (pa_cons (pe_f F_reserved_at (hr.mono (by decide)) (pa_cons (pv 0) pa_nil)) (pa_cons (pe_fl (K:=K) (pv 0)) (pa_cons (pe_fl (K:=K) (pv 0)) (pa_cons (pe_fl (K:=K) (pv 0)) (pa_cons (pe_callB (call_lenK (K:=K)) (by rfl) T.b_len PySem.boot_len (pa_cons (pe_fl (K:=K) (pv 0)) pa_nil)) pa_nil)))))))))))))) (pss_cons (ps_for PassesOwn.never rfl (pi_listK (K:=K) (pe_fl (K:=K) (pv 0))) (pg_name (i:=2) nd rfl (Or.inl rfl)) (pss_one (ps_expr (pe_bm PySem.F.plainAttrs_list PySem.F.slot_list_extend PySem.F.type_list_extend (mt_extT (K:=K)) (pv 1) (pa_cons (pv 2) pa_nil))))) (pss_one (ps_ret (pv 1))))),?_⟩
    obtain ⟨dx,g,d,hp⟩:=R.prt hi
    refine ⟨_,rfl,r_port_enabled T hp ⟨_,rfl,r_port_rank T hp ⟨_,rfl,r_port_most T hp ⟨_,rfl,r_port_faulty T hp ⟨_,rfl,r_port_on T hp ⟨_,rfl,r_port_session T hp ⟨_,rfl,r_port_number T hp ⟨_,rfl,A,w,E,i,rfl,R,O,hi,trivial,fun H1 R1=>?_⟩⟩⟩⟩⟩⟩⟩⟩
    obtain ⟨G,gs,ms,hA,RX⟩:=id R1
    rw [← hA (.po i) rfl]
    have hp1:=RX.prt hi
    refine ⟨_,rfl,r_port_wish_number T hp1 ⟨_,rfl,r_port_wish_amount T hp1 ⟨_,rfl,r_port_energy T hp1 ⟨_,rfl,r_port_grants T hp1 ⟨_,_,rfl,.inl (SqL.of (RX.at_ (.gr i) hi)),(by show 12≤sizeLine; decide),fun D hD=>?_⟩⟩⟩⟩⟩
    have el:(refs (gs i)).length=(pAt w i).grants.length:=by unfold refs; rw [List.length_map,RX.glen hi]
    rw [el]
    have ED:=RX.none_of hD
    have R2:=RX.ext (o:=.lst (intV (porL (pAt w i) []))) hD
    refine ⟨_,rfl,r_port_grants T (R2.prt hi) ⟨G.ad (.gr i),rfl,⟨_,SqL.of (R2.at_ (.gr i) hi)⟩,?_⟩⟩
    refine for_list (K:=K) (a:=G.ad (.gr i)) (xs:=refs (gs i)) (fun j σ H'=>∃ v:Option V,σ=[some (.ref (G.ad (.po i))),some (.ref D),v]∧RepX t G gs ms H' w (upd E D (.lst (intV (porL (pAt w i) (graL ((pAt w i).grants.take j)))))))
      ⟨none,rfl,R2⟩ (fun j σ H' _ ⟨_,_,R'⟩=>SqL.of (R'.at_ (.gr i) hi)) ?_ ?_
    · rintro j x σ H' hx ⟨v,rfl,R'⟩
      obtain ⟨a,ha,rfl⟩:=refs_at hx
      obtain ⟨g',hg,hga⟩:=R'.grant hi ha
      have hD':=(R'.fr D _ upd_same).1
      refine ⟨_,rfl,.inl ⟨rfl,_,SqL.of hD'⟩,_,rfl,D,a,_,gV g',rfl,rfl,hD',SqT.of hga,?_,?_⟩
      · have h8:=O.gl i hi
        have hn:((pAt w i).grants.take j).length≤8:=Nat.le_trans (List.take_sublist j _).length_le h8
        show (intV _).length + 2≤sizeLine
        unfold intV
        rw [List.length_map,porL_len,graL_len]
        exact Nat.le_trans (show 12 + 2 * ((pAt w i).grants.take j).length + 2≤100 by omega) (by decide)
      · have e2:intV (porL (pAt w i) (graL ((pAt w i).grants.take j))) ++ gV g'=intV (porL (pAt w i) (graL ((pAt w i).grants.take (j + 1)))):=by
          rw [graL_snoc hg,porL_app]
          unfold intV
          rw [List.map_append]
          rfl
        have R3:=R'.extw (o:=.lst (intV (porL (pAt w i) (graL ((pAt w i).grants.take (j + 1)))))) upd_same trivial
        rw [upd_upd] at R3
        rw [e2]
        exact ⟨_,rfl,R3⟩
    · rintro σ H' ⟨v,rfl,R'⟩
      have e0:(pAt w i).grants.take (refs (gs i)).length=(pAt w i).grants:=by rw [el,List.take_length]
      rw [e0] at R'
      exact ⟨_,rfl,k _ D ED ⟨G,gs,ms,hA,R'⟩⟩
def plaF (l:List (Nat × Nat)):List Nat:=l.flatMap fun x=>[x.1,x.2]
def plaL (w:VW):List Int:=((Vbcnam.plan w).length:Int)::Vbcnam.nums (plaF (Vbcnam.plan w))
theorem plaF_len:∀ l:List (Nat × Nat),(plaF l).length=2 * l.length
  | []=>rfl
  | g::l=>by
    show (plaF l).length + 1 + 1=2 * (l.length + 1)
    rw [plaF_len l]
    omega
theorem plaF_snoc {l:List (Nat × Nat)} {j:Nat} {g:Nat × Nat} (h:l[j]?=some g):plaF (l.take (j + 1))=plaF (l.take j) ++ [g.1,g.2]:=by
  unfold plaF
  rw [take_snoc h,List.flatMap_append]
  rfl
theorem ok_plan_view (T:Txt K mg t) (F:Fun K "plan_view" "plan_view" s_plan_view f fd) (F_make_plan:Known P w₀ K mg base "make_plan" 5 ["world"] (sp_make_plan t)):FnOk P w₀ K mg base CX0 6 f fd ["world"] (spV t plaL):=by
  refine F.ok sc_plan_view (fun vs H Q E h=>?_) (fun cdv A outer s H vs Q E hr h=>?_)
  · obtain ⟨_,_,_,rfl,_⟩:=h; rfl
  · obtain ⟨A,w,E,rfl,R,O,k⟩:=h
    have nd:=sc_plan_view.nd
    have hu:=hu_of hr
    refine ⟨_,(pss_cons (ps_set (i:=1) nd rfl (Or.inl rfl) (pe_f F_make_plan (hr.mono (by decide)) (pa_cons (pv 0) pa_nil))) (pss_cons (ps_set (i:=2) nd rfl (Or.inl rfl) (pe_lst (pa_cons (pe_callB call_lenD (by rfl) T.b_len PySem.boot_len (pa_cons (pv 1) pa_nil)) pa_nil))) (pss_cons (ps_lock (ps_for PassesOwn.never rfl (pi_keys (pv 1)) (pg_name (i:=3) nd rfl (Or.inl rfl)) (pss_one (ps_expr (pe_bm PySem.F.plainAttrs_list PySem.F.slot_list_extend PySem.F.type_list_extend (mt_extT (K:=K)) (pv 2) (pa_cons (pe_tup (pa_cons (pv 3) (pa_cons (pe_dget hu (pv 1) (pv 3) (fun _ _=>rfl)) pa_nil))) pa_nil)))))) (pss_one (ps_ret (pv 2)))))),?_⟩
    refine ⟨_,rfl,A,w,E,rfl,R,O,fun H1 d hd R1=>?_⟩
    refine ⟨_,rfl,d,_,rfl,R1.sub upd_same,(by show 1≤sizeLine; decide),fun D hD=>?_⟩
    have lk:(planKV (Vbcnam.plan w)).length=(Vbcnam.plan w).length:=by unfold planKV; rw [List.length_map]
    rw [lk]
    obtain ⟨R2,eD⟩:=R1.ext (o:=.lst (intV [((Vbcnam.plan w).length:Int)])) hD
    have nDd:D≠d:=fun z=>by rw [z,upd_same] at eD; cases eD
    rw [upd_ne nDd] at eD
    have hdE:∀ {o:HO},upd (upd E d (.dK (planKV (Vbcnam.plan w)))) D o d=some (.dK (planKV (Vbcnam.plan w))):=fun {o}=>by rw [upd_ne (Ne.symm nDd),upd_same]
    refine ⟨d,.dK (planKV (Vbcnam.plan w)),R2.sub hdE,trivial,fun od=>?_⟩
    have R3:=R2.extw (o:=.frz od (.dK (planKV (Vbcnam.plan w)))) hdE trivial
    refine ⟨_,rfl,d,od,rfl,.inl ⟨_,upd_same,?_⟩⟩
    let FE:Nat→Hp:=fun j=>upd (upd E d (.frz od (.dK (planKV (Vbcnam.plan w))))) D (.lst (intV (((Vbcnam.plan w).length:Int)::Vbcnam.nums (plaF ((Vbcnam.plan w).take j)))))
    have e4:upd (upd (upd E d (.dK (planKV (Vbcnam.plan w)))) D (.lst (intV [((Vbcnam.plan w).length:Int)]))) d (.frz od (.dK (planKV (Vbcnam.plan w))))=FE 0:=by
      rw [upd_comm nDd,upd_upd]
      rfl
    rw [e4] at R3
    refine for_keys (d:=d) (o:=od) (kvs:=planKV (Vbcnam.plan w)) (fun j σ H'=>∃ v:Option V,σ=[some (.ref (A .wd)),some (.ref d),some (.ref D),v]∧Rep t A H' w (FE j))
      ⟨none,rfl,R3⟩ (fun j σ H' _ ⟨_,_,R'⟩=>R'.sub (by show upd _ D _ d=_; rw [upd_ne (Ne.symm nDd),upd_same])) ?_ ?_
    · rintro j kk vv σ H5 hk ⟨v,rfl,R5⟩
      obtain ⟨⟨p,n⟩,hp,rfl,rfl⟩:∃ q:Nat × Nat,(Vbcnam.plan w)[j]?=some q∧kk=Sum.inl (q.1:Int)∧vv=V.int (q.2:Nat):=by
        unfold planKV at hk
        rw [List.getElem?_map] at hk
        cases e:(Vbcnam.plan w)[j]? with
        | none=>rw [e] at hk; cases hk
        | some q =>
          rw [e] at hk
          have hk:=Option.some.inj hk
          exact ⟨q,rfl,(congrArg Prod.fst hk).symm,(congrArg Prod.snd hk).symm⟩
      have hm:=List.mem_of_getElem? hp
      have hdF:H5 d=some (.frz od (.dK (planKV (Vbcnam.plan w)))):=R5.sub (by show upd _ D _ d=_; rw [upd_ne (Ne.symm nDd),upd_same])
      have dg:DGet H5 d (.int p) (some (.int n)):=by
        refine .inl ⟨planKV (Vbcnam.plan w),Sum.inl (p:Int),.inr ⟨od,hdF⟩,rfl,?_⟩
        rw [planKV_val,planned_some (WO.plan_nodup w) hm]
        rfl
      have hDF:FE j D=some (.lst (intV (((Vbcnam.plan w).length:Int)::Vbcnam.nums (plaF ((Vbcnam.plan w).take j))))):=upd_same
      refine ⟨_,rfl,.inl ⟨rfl,_,SqL.of (R5.sub hDF)⟩,_,rfl,_,rfl,_,rfl,d,_,rfl,dg,(by show 2≤sizeLine; decide),fun T' hT'=>?_⟩
      obtain ⟨R6,eT⟩:=R5.ext (o:=.tup [.int p,.int n]) hT'
      have nTD:D≠T':=fun z=>by rw [← z,hDF] at eT; cases eT
      have hD6:upd (FE j) T' (.tup [.int p,.int n]) D=some (.lst (intV (((Vbcnam.plan w).length:Int)::Vbcnam.nums (plaF ((Vbcnam.plan w).take j))))):=by rw [upd_ne nTD]; exact hDF
      refine ⟨D,T',_,[.int p,.int n],rfl,rfl,R6.sub hD6,SqT.of upd_same,?_,?_⟩
      · have hn:((Vbcnam.plan w).take j).length≤48:=Nat.le_trans (List.take_sublist j _).length_le (Nat.le_trans plan_mem.2 O.np)
        show (intV _).length + 2≤sizeLine
        unfold intV Vbcnam.nums
        rw [List.length_map,List.length_cons,List.length_map,plaF_len]
        exact Nat.le_trans (show 2 * ((Vbcnam.plan w).take j).length + 1 + 2≤100 by omega) (by decide)
      · have e2:intV (((Vbcnam.plan w).length:Int)::Vbcnam.nums (plaF ((Vbcnam.plan w).take j))) ++ [.int p,.int n]=intV (((Vbcnam.plan w).length:Int)::Vbcnam.nums (plaF ((Vbcnam.plan w).take (j + 1)))):=by
          rw [plaF_snoc hp]
          unfold intV Vbcnam.nums
          rw [List.map_append,List.map_cons,List.map_cons,List.map_append]
          rfl
        have R7:=R6.extw (o:=.lst (intV (((Vbcnam.plan w).length:Int)::Vbcnam.nums (plaF ((Vbcnam.plan w).take (j + 1)))))) hD6 trivial
        rw [e2]
        refine ⟨_,rfl,R7.less fun c o e=>?_⟩
        by_cases hc:c=D
        · subst hc
          rw [upd_same]
          have e:upd _ c _ c=some o:=e
          rw [upd_same] at e
          exact e
        · have e:upd _ D _ c=some o:=e
          rw [upd_ne hc] at e ⊢
          have e':FE j c=some o:=by show upd _ D _ c=_; rw [upd_ne hc]; exact e
          rw [upd_ne (ne_of_none e' eT)]
          exact e'
    · rintro σ H5 ⟨v,rfl,R5⟩
      have e1:(Vbcnam.plan w).take (planKV (Vbcnam.plan w)).length=Vbcnam.plan w:=by rw [lk,List.take_length]
      have hdF:FE (planKV (Vbcnam.plan w)).length d=some (.frz od (.dK (planKV (Vbcnam.plan w)))):=by show upd _ D _ d=_; rw [upd_ne (Ne.symm nDd),upd_same]
      refine ⟨R5.sub hdF,?_⟩
      have R6:=R5.extw (o:=.dK (planKV (Vbcnam.plan w))) hdF trivial
      refine ⟨_,rfl,k _ D eD (R6.less fun c o e=>?_)⟩
      by_cases hc:c=D
      · subst hc
        rw [upd_same] at e
        rw [upd_ne nDd]
        show upd _ c _ c=some o
        rw [upd_same,e1]
        exact e
      · rw [upd_ne hc] at e
        have c1:c≠d:=fun z=>by rw [z,hd] at e; cases e
        rw [upd_ne c1]
        show upd _ D _ c=some o
        rw [upd_ne hc,upd_ne c1]
        exact e
end
section
variable {P:Program} {w₀:PySem.World} {K:PySem.W.Frag} {mg:Str→Option Value} {base:Heap} {t:Cas} {f:Addr} {fd:FuncData}
theorem ok_answer_deliver (T:Txt K mg t) (F:Fun K "answer_deliver" "answer_deliver" s_answer_deliver f fd) (F_deliver:Known P w₀ K mg base "deliver" 4 ["world","place"] (spDel t)) :
    FnOk P w₀ K mg base CX0 5 f fd ["world","numbers"] (spC t fun w ns r=>∃ k:Nat,ns=[(k:Int)]∧Good w∧k < w.bag.length∧r=(Vbcnam.delivered w k,[0,((Vbcnam.delivered w k).bag.length:Int)])):=by
  refine F.ok sc_answer_deliver (fun vs H Q E h=>?_) (fun cdv A outer s H vs Q E hr h=>?_)
  · obtain ⟨_,_,_,_,_,_,rfl,_⟩:=h; rfl
  · obtain ⟨A,w,E,ln,ns,r,rfl,R,O,hln,⟨k,rfl,G,hk,rfl⟩,z⟩:=h
    have nd:=sc_answer_deliver.nd
    refine ⟨_,(pss_cons (ps_expr (pe_f F_deliver (hr.mono (by decide)) (pa_cons (pv 0) (pa_cons (pe_ix (ix_listK (K:=K)) (pv 1) pe_int (fun _ _=>rfl)) pa_nil)))) (pss_one (ps_ret (pe_lst (pa_cons pe_int (pa_cons (pe_callB (call_lenK (K:=K)) (by rfl) T.b_len PySem.boot_len (pa_cons (pe_fl (K:=K) (pv 0)) pa_nil)) pa_nil)))))),?_⟩
    refine ⟨_,rfl,_,rfl,ln,_,_,.int k,rfl,rfl,SqL.of (R.sub hln),rfl,A,w,E,k,rfl,R,G,hk,fun H1 R1=>?_⟩
    obtain ⟨dxw,hw⟩:=R1.wld
    obtain ⟨ms,hb,hl⟩:=R1.bgs
    refine ⟨_,rfl,r_world_bag T hw ⟨_,_,rfl,.inl (SqL.of hb),(by show 2≤sizeLine; decide),fun p hp=>?_⟩⟩
    rw [hl]
    obtain ⟨e1,R5⟩:=R1.ans (o:=.lst (intV [0,((Vbcnam.delivered w k).bag.length:Int)])) hp
    exact z _ p e1 R5
theorem ok_answer_lose (T:Txt K mg t) (F:Fun K "answer_lose" "answer_lose" s_answer_lose f fd) :
    FnOk P w₀ K mg base CX0 1 f fd ["world","numbers"] (spC t fun w ns r=>∃ k:Nat,ns=[(k:Int)]∧k < w.bag.length∧r=({ w with bag:=w.bag.eraseIdx k },[0])):=by
  refine F.ok sc_answer_lose (fun vs H Q E h=>?_) (fun cdv A outer s H vs Q E hr h=>?_)
  · obtain ⟨_,_,_,_,_,_,rfl,_⟩:=h; rfl
  · obtain ⟨A,w,E,ln,ns,r,rfl,R,O,hln,⟨k,rfl,hk,rfl⟩,z⟩:=h
    have nd:=sc_answer_lose.nd
    refine ⟨_,(pss_cons (ps_expr (pe_bm PySem.F.plainAttrs_list PySem.F.slot_list_pop PySem.F.type_list_pop mt_popAt (pe_fl (K:=K) (pv 0)) (pa_cons (pe_ix (ix_listK (K:=K)) (pv 1) pe_int (fun _ _=>rfl)) pa_nil))) (pss_one (ps_ret (pe_lst (pa_cons pe_int pa_nil))))),?_⟩
    obtain ⟨dxw,hw⟩:=R.wld
    obtain ⟨m,hm⟩:=get_bag hk
    obtain ⟨ms,q,hb,hq,hqH,hl⟩:=R.mat hm
    have k0:(k:Int) < 2 ^ 63:=by have:=O.bag; have:=O.cap; omega
    refine ⟨_,rfl,r_world_bag T hw ⟨.inl ⟨rfl,_,SqL.of hb⟩,_,rfl,ln,_,_,.int k,rfl,rfl,SqL.of (R.sub hln),rfl,A .bg,refs ms,k,k,.ref q,rfl,rfl,hb,by omega,k0,seq_nat (by rw [hl]; exact hk),by unfold refs; rw [List.getElem?_map,hq]; rfl,?_⟩⟩
    refine ⟨(by show 1≤sizeLine; decide),fun p hp=>?_⟩
    obtain ⟨e1,R5⟩:=(R.pop (k:=k) hb).ans (o:=.lst (intV [0])) hp
    exact z _ p e1 R5
theorem ok_answer_double (T:Txt K mg t) (F:Fun K "answer_double" "answer_double" s_answer_double f fd) (F_bag_is_full:Known P w₀ K mg base "bag_is_full" 1 ["world"] (spW t fun w=>.bl (Vbcnam.full w)))
    (F_put:Known P w₀ K mg base "put" 2 ["world","message"] (sp_put t)) :
    FnOk P w₀ K mg base CX0 3 f fd ["world","numbers"] (spC t fun w ns r=>∃ k:Nat,ns=[(k:Int)]∧k < w.bag.length∧r=if Vbcnam.full w=true then (w,[-4]) else ({ w with bag:=w.bag ++ (w.bag[k]?).toList },[0])):=by
  refine F.ok sc_answer_double (fun vs H Q E h=>?_) (fun cdv A outer s H vs Q E hr h=>?_)
  · obtain ⟨_,_,_,_,_,_,rfl,_⟩:=h; rfl
  · obtain ⟨A,w,E,ln,ns,r,rfl,R,O,hln,⟨k,rfl,hk,er⟩,z⟩:=h
    have nd:=sc_answer_double.nd
    refine ⟨_,(pss_cons (ps_if (pt_val (pe_f F_bag_is_full (hr.mono (by decide)) (pa_cons (pv 0) pa_nil))) (pss_one (ps_ret (pe_lst (pa_cons (pe_gi T.i_BAG_FULL) pa_nil)))) pss_nil) (pss_cons (ps_expr (pe_f F_put (hr.mono (by decide)) (pa_cons (pv 0) (pa_cons (pe_ix (ix_listK (K:=K)) (pe_fl (K:=K) (pv 0)) (pe_ix (ix_listK (K:=K)) (pv 1) pe_int (fun _ _=>rfl)) (fun _ _=>rfl)) pa_nil)))) (pss_one (ps_ret (pe_lst (pa_cons pe_int pa_nil)))))),?_⟩
    refine ⟨_,rfl,A,w,E,rfl,R,O,fun H1 R1=>⟨_,rfl,?_⟩⟩
    cases hf:Vbcnam.full w with
    | true =>
      refine ite2 (fun _=>?_) (fun h=>absurd rfl h)
      rw [if_pos hf] at er
      subst er
      refine ⟨(by show 1≤sizeLine; decide),fun p hp=>?_⟩
      obtain ⟨e1,R5⟩:=R1.ans (o:=.lst (intV [-4])) hp
      exact z _ p e1 R5
    | false =>
      refine ite2 (fun h=>absurd h (by decide)) (fun _=>?_)
      rw [if_neg (by rw [hf]; decide)] at er
      subst er
      obtain ⟨dxw,hw⟩:=R1.wld
      obtain ⟨m,hm⟩:=get_bag hk
      obtain ⟨ms,q,hb,hq,hqH,hl⟩:=R1.mat hm
      have ep:Vbcnam.put w m={ w with bag:=w.bag ++ (w.bag[k]?).toList }:=by
        unfold Vbcnam.put
        rw [if_pos (by have:=of_decide_eq_false hf; omega),hm]
        rfl
      refine ⟨_,rfl,_,rfl,r_world_bag T hw ⟨_,rfl,ln,_,_,.int k,rfl,rfl,SqL.of (R1.sub hln),rfl,_,_,_,_,rfl,rfl,SqL.of hb,refs_ix hq,?_⟩⟩
      refine ⟨A,w,_,q,m,rfl,R1.keep hqH,O,upd_same,fun H2 R2=>⟨(by show 1≤sizeLine; decide),fun p hp=>?_⟩⟩
      have R3:=R1.unkeep hqH R2
      rw [ep] at R3
      obtain ⟨e1,R5⟩:=R3.ans (o:=.lst (intV [0])) hp
      exact z _ p e1 R5
theorem ok_answer_calm (T:Txt K mg t) (F:Fun K "answer_calm" "answer_calm" s_answer_calm f fd) (F_deliver_all:Known P w₀ K mg base "deliver_all" 5 ["world"] (spCalm t)) :
    FnOk P w₀ K mg base CX0 6 f fd ["world","numbers"] (spC t fun w ns r=>Good w∧r=((Vbcnam.calmed (2 * w.bag.length) w).1,[0,((Vbcnam.calmed (2 * w.bag.length) w).2:Int)])):=by
  refine F.ok sc_answer_calm (fun vs H Q E h=>?_) (fun cdv A outer s H vs Q E hr h=>?_)
  · obtain ⟨_,_,_,_,_,_,rfl,_⟩:=h; rfl
  · obtain ⟨A,w,E,ln,ns,r,rfl,R,O,hln,⟨G,rfl⟩,z⟩:=h
    have nd:=sc_answer_calm.nd
    refine ⟨_,(pss_one (ps_ret (pe_lst (pa_cons pe_int (pa_cons (pe_f F_deliver_all (hr.mono (by decide)) (pa_cons (pv 0) pa_nil)) pa_nil))))),?_⟩
    refine ⟨_,rfl,A,w,E,rfl,R,G,fun H1 R1=>⟨(by show 2≤sizeLine; decide),fun p hp=>?_⟩⟩
    obtain ⟨e1,R5⟩:=R1.ans (o:=.lst (intV [0,((Vbcnam.calmed (2 * w.bag.length) w).2:Int)])) hp
    exact z _ p e1 R5
def tickP (n:Nat) (x:VP):VP:={ x with energy:=x.energy + Vbcnam.drawn x * n }
def tickW (w:VW) (n j:Nat):VW:={ w with ports:=(w.ports.take j).map (tickP n) ++ w.ports.drop j }
theorem tick_len {w:VW} {n j:Nat}:(tickW w n j).ports.length=w.ports.length:=by
  show ((w.ports.take j).map (tickP n) ++ w.ports.drop j).length=_
  rw [List.length_append,List.length_map,← List.length_append,List.take_append_drop]
theorem tick_at {w:VW} {n j:Nat} (h:j < w.ports.length):pAt (tickW w n j) j=pAt w j:=by
  show ((w.ports.take j).map (tickP n) ++ w.ports.drop j).getD j {}=w.ports.getD j {}
  have hl:((w.ports.take j).map (tickP n)).length=j:=by rw [List.length_map,List.length_take]; omega
  rw [List.getD_eq_getElem?_getD,List.getD_eq_getElem?_getD,List.getElem?_append_right (by omega),hl,Nat.sub_self,List.getElem?_drop,Nat.add_zero]
theorem tick_set {w:VW} {n j:Nat} (h:j < w.ports.length):setP (tickW w n j) j (tickP n (pAt w j))=tickW w n (j + 1):=by
  unfold setP Vbcnam.setPort tickW
  have hl:((w.ports.take j).map (tickP n)).length=j:=by rw [List.length_map,List.length_take]; omega
  have e:((w.ports.take j).map (tickP n) ++ w.ports.drop j).set j (tickP n (pAt w j))=(w.ports.take (j + 1)).map (tickP n) ++ w.ports.drop (j + 1):=by
    rw [List.set_append_right _ _ (by omega),hl,Nat.sub_self,take_snoc (pAt_get h),List.map_append,List.append_assoc]
    congr 1
    rw [List.drop_eq_getElem_cons h]
    rfl
  show ({ w with ports:=_ }:VW)={ w with ports:=_ }
  rw [e]
theorem Ok.tick {w:VW} (O:Ok w) (n j:Nat):Ok (tickW w n j):=by
  have k:∀ i,∃ m,pAt (tickW w n j) i={ pAt w i with energy:=m }:=fun i=>by
    show ∃ m,((w.ports.take j).map (tickP n) ++ w.ports.drop j).getD i {}=_
    rw [List.getD_eq_getElem?_getD]
    unfold pAt Vbcnam.portAt
    rw [List.getD_eq_getElem?_getD]
    by_cases h:i < ((w.ports.take j).map (tickP n)).length
    · rw [List.getElem?_append_left h,List.getElem?_map]
      rw [List.length_map,List.length_take] at h
      rw [List.getElem?_take_of_lt (by omega),List.getElem?_eq_getElem (by omega)]
      exact ⟨_,rfl⟩
    · rw [List.getElem?_append_right (by omega),List.getElem?_drop]
      rw [List.length_map,List.length_take] at h ⊢
      by_cases hj:j≤w.ports.length
      · rw [Nat.min_eq_left hj,show j + (i - j)=i by omega]
        exact ⟨_,rfl⟩
      · rw [List.getElem?_eq_none (by omega),List.getElem?_eq_none (by omega)]
        exact ⟨_,rfl⟩
  refine ⟨O.ns,by rw [tick_len]; exact O.np,fun i hi y hy=>?_,fun i hi ho=>?_,fun i hi=>?_,O.bag,O.cap⟩
  · rw [tick_len] at hi
    obtain ⟨m,e⟩:=k i
    rw [e] at hy
    exact O.cls i hi y hy
  · rw [tick_len] at hi
    obtain ⟨m,e⟩:=k i
    rw [e] at ho ⊢
    exact O.on i hi ho
  · rw [tick_len] at hi
    obtain ⟨m,e⟩:=k i
    rw [e]
    exact O.gl i hi
theorem ok_answer_tick (T:Txt K mg t) (F:Fun K "answer_tick" "answer_tick" s_answer_tick f fd) (F_can_give:Known P w₀ K mg base "can_give" 2 ["world"] (spW t fun w=>.int (Vbcnam.can w)))
    (F_drawn_at:Known P w₀ K mg base "drawn_at" 1 ["port"] (spP t (fun _=>True) fun x=>.int (Vbcnam.drawn x))) :
    FnOk P w₀ K mg base CX0 3 f fd ["world","numbers"] (spC t fun w ns r=>∃ n:Nat,ns=[(n:Int)]∧n≤1000000 ∧
      r=if Vbcnam.TIMES < w.now + n then (w,[-2]) else ({ w with now:=w.now + n,could:=w.could + Vbcnam.can w * n,ports:=w.ports.map (tickP n) },[0,((w.now + n:Nat):Int)])):=by
  refine F.ok sc_answer_tick (fun vs H Q E h=>?_) (fun cdv A outer s H vs Q E hr h=>?_)
  · obtain ⟨_,_,_,_,_,_,rfl,_⟩:=h; rfl
  · obtain ⟨A,w,E,ln,ns,r,rfl,R,O,hln,⟨n,rfl,hn,er⟩,z⟩:=h
    have nd:=sc_answer_tick.nd
    refine ⟨_,(pss_cons (ps_set (i:=2) nd rfl (Or.inl rfl) (pe_ix (ix_listK (K:=K)) (pv 1) pe_int (fun _ _=>rfl))) (pss_cons (ps_if (pt_cmpR op_gt (pe_op op_add (pe_fl (K:=K) (pv 0)) (pv 2)) (pe_gi T.i_LAST_MOMENT) (nomark _)) (pss_one (ps_ret (pe_lst (pa_cons (pe_gi T.i_WRONG_STATE) pa_nil)))) pss_nil) (pss_cons (ps_fla (K:=K) (pv 0) (pv 2) in_add) (pss_cons (ps_fla (K:=K) (pv 0) (pe_op op_mul (pv 2) (pe_f F_can_give (hr.mono (by decide)) (pa_cons (pv 0) pa_nil))) in_add) (pss_cons (ps_for PassesOwn.never rfl (pi_listK (K:=K) (pe_fl (K:=K) (pv 0))) (pg_name (i:=3) nd rfl (Or.inl rfl)) (pss_one (ps_fla (K:=K) (pv 3) (pe_op op_mul (pv 2) (pe_f F_drawn_at (hr.mono (by decide)) (pa_cons (pv 3) pa_nil))) in_add))) (pss_one (ps_ret (pe_lst (pa_cons pe_int (pa_cons (pe_fl (K:=K) (pv 0)) pa_nil)))))))))),?_⟩
    refine ⟨_,rfl,ln,_,_,.int n,rfl,rfl,SqL.of (R.sub hln),rfl,?_⟩
    obtain ⟨dxw,hw⟩:=R.wld
    refine ⟨_,rfl,r_world_now T hw ⟨_,rfl,_,_,rfl,rfl,_,_,rfl,rfl,_,rfl,?_⟩⟩
    by_cases h:Vbcnam.TIMES < w.now + n
    · have h':(100000000:Int) < (w.now:Int) + (n:Int):=by have h:100000000 < w.now + n:=h; omega
      refine ite2 (fun _=>?_) (fun h=>absurd (decide_eq_true h') h)
      rw [if_pos h] at er
      subst er
      refine ⟨(by show 1≤sizeLine; decide),fun p hp=>?_⟩
      obtain ⟨e1,R5⟩:=R.ans (o:=.lst (intV [-2])) hp
      exact z _ p e1 R5
    · have h':¬ (100000000:Int) < (w.now:Int) + (n:Int):=by have h:¬ 100000000 < w.now + n:=h; omega
      refine ite2 (fun h=>absurd (of_decide_eq_true h) h') (fun _=>?_)
      rw [if_neg h] at er
      subst er
      obtain ⟨G,gs,ms,hA,RX⟩:=id R
      rw [← hA .wd rfl]
      refine ⟨_,rfl,rx_world_now T (RX.at_ .wd trivial) ⟨_,rfl,_,_,rfl,rfl,aw_now RX (n:=w.now + n) rfl fun H1 R1=>?_⟩⟩
      have O1:Ok { w with now:=w.now + n }:=⟨O.ns,O.np,O.cls,O.on,O.gl,O.bag,O.cap⟩
      refine ⟨_,rfl,rx_world_could T (R1.at_ .wd trivial) ⟨_,rfl,_,rfl,A,_,E,by rw [hA .wd rfl],⟨G,gs,ms,hA,R1⟩,O1,fun H2 R2=>?_⟩⟩
      refine ⟨_,_,rfl,rfl,.inl ⟨by omega,by omega⟩,_,_,rfl,rfl,?_⟩
      obtain ⟨G2,gs2,ms2,hA2,RX2⟩:=R2
      rw [hA .wd rfl,← hA2 .wd rfl]
      refine aw_could RX2 (n:=w.could + Vbcnam.can w * n) ?_ fun H3 R3=>?_
      · show V.int _=V.int _
        congr 1
        show (w.could:Int) + (n:Int) * (Vbcnam.can w:Int)=_
        rw [Int.mul_comm]
        rfl
      · have O3:Ok { w with now:=w.now + n,could:=w.could + Vbcnam.can w * n }:=⟨O.ns,O.np,O.cls,O.on,O.gl,O.bag,O.cap⟩
        have R3':Rep t A H3 (tickW { w with now:=w.now + n,could:=w.could + Vbcnam.can w * n } n 0) E:=⟨G2,gs2,ms2,hA2,R3⟩
        have ew:{ w with now:=w.now + n,could:=w.could + Vbcnam.can w * n,ports:=w.ports.map (tickP n) }=tickW { w with now:=w.now + n,could:=w.could + Vbcnam.can w * n } n w.ports.length:=by
          unfold tickW
          rw [List.take_length,List.drop_length,List.append_nil]
        rw [ew] at z
        have hpl:({ w with now:=w.now + n,could:=w.could + Vbcnam.can w * n }:VW).ports.length=w.ports.length:=rfl
        have hnow:∀ j,(tickW { w with now:=w.now + n,could:=w.could + Vbcnam.can w * n } n j).now=w.now + n:=fun _=>rfl
        generalize ({ w with now:=w.now + n,could:=w.could + Vbcnam.can w * n }:VW)=v at O3 R3' z hpl hnow
        rw [hA2 .wd rfl]
        obtain ⟨dxw3,hw3⟩:=R3'.wld
        have hpls:=R3'.pls
        rw [tick_len] at hpls
        refine ⟨_,rfl,r_world_ports T hw3 ⟨A .pl,rfl,⟨_,SqL.of hpls⟩,?_⟩⟩
        refine for_list (K:=K) (a:=A .pl) (xs:=refs ((List.range v.ports.length).map fun i=>A (.po i))) (fun j σ H'=>∃ u:Option V,σ=[some (.ref (A .wd)),some (.ref ln),some (.int n),u]∧Rep t A H' (tickW v n j) E)
          ⟨none,rfl,R3'⟩ (fun j σ H' _ ⟨_,_,R'⟩=>SqL.of (by have:=R'.pls; rw [tick_len] at this; exact this)) ?_ ?_
        · rintro j x σ H' hx ⟨u,rfl,R'⟩
          obtain ⟨hj,rfl⟩:=refs_get hx
          have hj':j < (tickW v n j).ports.length:=by rw [tick_len]; exact hj
          obtain ⟨dxj,gj,dj,hpj⟩:=R'.prt hj'
          refine ⟨_,rfl,rx_port_energy T hpj ⟨_,rfl,_,rfl,A,_,E,j,rfl,R',O3.tick n j,hj',trivial,fun H4 R4=>?_⟩⟩
          refine ⟨_,_,rfl,rfl,.inl ⟨by omega,by omega⟩,_,_,rfl,rfl,?_⟩
          obtain ⟨G4,gs4,ms4,hA4,RX4⟩:=R4
          rw [← hA4 (.po j) rfl]
          refine ap_energy (RX4.toI hj') hj' (n:=(pAt v j).energy + Vbcnam.drawn (pAt v j) * n) ?_ fun H5 R5=>?_
          · rw [tick_at hj]
            show V.int _=V.int _
            congr 1
            show ((pAt v j).energy:Int) + (n:Int) * (Vbcnam.drawn (pAt v j):Int)=_
            rw [Int.mul_comm]
            rfl
          · rw [tick_at hj] at R5
            have e:setP (tickW v n j) j { pAt v j with energy:=(pAt v j).energy + Vbcnam.drawn (pAt v j) * n }=tickW v n (j + 1):=tick_set hj
            rw [e] at R5
            exact ⟨_,rfl,G4,gs4,ms4,hA4,R5⟩
        · rintro σ H' ⟨u,rfl,R'⟩
          have el:(refs ((List.range v.ports.length).map fun i=>A (.po i))).length=w.ports.length:=by unfold refs; rw [List.length_map,List.length_map,List.length_range,hpl]
          rw [el] at R'
          obtain ⟨dxw6,hw6⟩:=R'.wld
          refine ⟨_,rfl,r_world_now T hw6 ⟨(by show 2≤sizeLine; decide),fun p hp=>?_⟩⟩
          rw [hnow]
          obtain ⟨e1,R5⟩:=R'.ans (o:=.lst (intV [0,((w.now + n:Nat):Int)])) hp
          exact z _ p e1 R5
theorem ok_answer_look (T:Txt K mg t) (F:Fun K "answer_look" "answer_look" s_answer_look f fd) (F_port_view:Known P w₀ K mg base "port_view" 2 ["port"] (spPv t)) :
    FnOk P w₀ K mg base CX0 3 f fd ["world","numbers"] (spC t fun w ns r=>∃ i:Nat,ns=[(i:Int)]∧i < w.ports.length∧r=(w,0::porL (pAt w i) (graL (pAt w i).grants))):=by
  refine F.ok sc_answer_look (fun vs H Q E h=>?_) (fun cdv A outer s H vs Q E hr h=>?_)
  · obtain ⟨_,_,_,_,_,_,rfl,_⟩:=h; rfl
  · obtain ⟨A,w,E,ln,ns,r,rfl,R,O,hln,⟨i,rfl,hi,rfl⟩,z⟩:=h
    have nd:=sc_answer_look.nd
    refine ⟨_,(pss_one (ps_ret (pe_op op_cat (pe_lst (pa_cons pe_int pa_nil)) (pe_f F_port_view (hr.mono (by decide)) (pa_cons (pe_ix (ix_listK (K:=K)) (pe_fl (K:=K) (pv 0)) (pe_ix (ix_listK (K:=K)) (pv 1) pe_int (fun _ _=>rfl)) (fun _ _=>rfl)) pa_nil))))),?_⟩
    refine ⟨(by show 1≤sizeLine; decide),fun p hp=>?_⟩
    obtain ⟨e1,R1⟩:=R.ans (o:=.lst (intV [0])) hp
    obtain ⟨dxw,hw⟩:=R1.wld
    have hln1:upd E p (.lst (intV [0])) ln=some (.lst (intV [(i:Int)])):=by rw [upd_ne (ne_of_none hln e1)]; exact hln
    refine ⟨_,rfl,r_world_ports T hw ⟨_,rfl,ln,_,_,.int i,rfl,rfl,SqL.of (R1.sub hln1),rfl,_,_,_,_,rfl,rfl,SqL.of R1.pls,at_port hi,A,w,_,i,rfl,R1,O,hi,fun H2 p2 e2 R2=>?_⟩⟩
    refine cat0 z ?_ e1 e2 R2
    rw [porL_len,graL_len]
    have:=O.gl i hi
    omega
theorem ok_answer_device (T:Txt K mg t) (F:Fun K "answer_device" "answer_device" s_answer_device f fd) (F_device_view:Known P w₀ K mg base "device_view" 1 ["device"] (spDv t)) :
    FnOk P w₀ K mg base CX0 2 f fd ["world","numbers"] (spC t fun w ns r=>∃ i:Nat,ns=[(i:Int)]∧i < w.ports.length∧r=match (pAt w i).device with | none=>(w,[-2]) | some y=>(w,0::devL y)):=by
  refine F.ok sc_answer_device (fun vs H Q E h=>?_) (fun cdv A outer s H vs Q E hr h=>?_)
  · obtain ⟨_,_,_,_,_,_,rfl,_⟩:=h; rfl
  · obtain ⟨A,w,E,ln,ns,r,rfl,R,O,hln,⟨i,rfl,hi,er⟩,z⟩:=h
    have nd:=sc_answer_device.nd
    refine ⟨_,(pss_cons (ps_set (i:=2) nd rfl (Or.inl rfl) (pe_fl (K:=K) (pe_ix (ix_listK (K:=K)) (pe_fl (K:=K) (pv 0)) (pe_ix (ix_listK (K:=K)) (pv 1) pe_int (fun _ _=>rfl)) (fun _ _=>rfl)))) (pss_cons (ps_if (pt_cmpR op_isN (pv 2) pe_non (nomark _)) (pss_one (ps_ret (pe_lst (pa_cons (pe_gi T.i_WRONG_STATE) pa_nil)))) pss_nil) (pss_one (ps_ret (pe_op op_cat (pe_lst (pa_cons pe_int pa_nil)) (pe_f F_device_view (hr.mono (by decide)) (pa_cons (pv 2) pa_nil))))))),?_⟩
    obtain ⟨dxw,hw⟩:=R.wld
    refine ⟨_,rfl,r_world_ports T hw ⟨_,rfl,ln,_,_,.int i,rfl,rfl,SqL.of (R.sub hln),rfl,_,_,_,_,rfl,rfl,SqL.of R.pls,at_port hi,?_⟩⟩
    obtain ⟨G,gs,ms,hA,RX⟩:=id R
    rw [← hA (.po i) rfl]
    cases hd:(pAt w i).device with
    | none =>
      rw [hd] at er
      subst er
      refine r_port_device T (RX.prtN hi hd) ⟨_,rfl,rfl,_,rfl,?_⟩
      refine ite2 (fun _=>?_) (fun h=>absurd rfl h)
      refine ⟨(by show 1≤sizeLine; decide),fun p hp=>?_⟩
      obtain ⟨e1,R5⟩:=R.ans (o:=.lst (intV [-2])) hp
      exact z _ p e1 R5
    | some y =>
      rw [hd] at er
      subst er
      refine r_port_device T (RX.prtD hi hd) ⟨_,rfl,rfl,_,rfl,?_⟩
      refine ite2 (fun h=>nomatch of_decide_eq_true h) (fun _=>?_)
      refine ⟨(by show 1≤sizeLine; decide),fun p hp=>?_⟩
      have R1:=RX.ext (o:=.lst (intV [0])) hp
      refine ⟨_,rfl,_,_,y,rfl,R1.dev hi hd,fun l hl=>?_⟩
      exact cat0 (w:=w) (l:=devL y) z (by show 6≤1000; decide) (RX.none_of hp) (R1.none_of hl) ⟨G,gs,ms,hA,R1.ext hl⟩
theorem ok_answer_power (T:Txt K mg t) (F:Fun K "answer_power" "answer_power" s_answer_power f fd) (F_power_view:Known P w₀ K mg base "power_view" 4 ["world"] (spV t powL)) :
    FnOk P w₀ K mg base CX0 5 f fd ["world","numbers"] (spC t fun w ns r=>r=(w,Vbcnam.powers w)):=by
  refine F.ok sc_answer_power (fun vs H Q E h=>?_) (fun cdv A outer s H vs Q E hr h=>?_)
  · obtain ⟨_,_,_,_,_,_,rfl,_⟩:=h; rfl
  · obtain ⟨A,w,E,ln,ns,r,rfl,R,O,hln,rfl,z⟩:=h
    have nd:=sc_answer_power.nd
    refine ⟨_,(pss_one (ps_ret (pe_op op_cat (pe_lst (pa_cons pe_int pa_nil)) (pe_f F_power_view (hr.mono (by decide)) (pa_cons (pv 0) pa_nil))))),?_⟩
    exact ⟨(by show 1≤sizeLine; decide),fun p hp=>⟨_,rfl,cat0V (val:=powL) z R O (by show 4≤1000; decide) hp⟩⟩
theorem ok_answer_plan (T:Txt K mg t) (F:Fun K "answer_plan" "answer_plan" s_answer_plan f fd) (F_plan_view:Known P w₀ K mg base "plan_view" 6 ["world"] (spV t plaL)) :
    FnOk P w₀ K mg base CX0 7 f fd ["world","numbers"] (spC t fun w ns r=>r=(w,0::plaL w)):=by
  refine F.ok sc_answer_plan (fun vs H Q E h=>?_) (fun cdv A outer s H vs Q E hr h=>?_)
  · obtain ⟨_,_,_,_,_,_,rfl,_⟩:=h; rfl
  · obtain ⟨A,w,E,ln,ns,r,rfl,R,O,hln,rfl,z⟩:=h
    have nd:=sc_answer_plan.nd
    refine ⟨_,(pss_one (ps_ret (pe_op op_cat (pe_lst (pa_cons pe_int pa_nil)) (pe_f F_plan_view (hr.mono (by decide)) (pa_cons (pv 0) pa_nil))))),?_⟩
    refine ⟨(by show 1≤sizeLine; decide),fun p hp=>⟨_,rfl,cat0V (val:=plaL) z R O ?_ hp⟩⟩
    show (plaL w).length≤1000
    unfold plaL Vbcnam.nums
    rw [List.length_cons,List.length_map,plaF_len]
    have:=(plan_mem (w:=w)).2
    have:=O.np
    omega
theorem ok_answer_state (T:Txt K mg t) (F:Fun K "answer_state" "answer_state" s_answer_state f fd) (F_state_view:Known P w₀ K mg base "state_view" 2 ["world"] (spV t staL)) :
    FnOk P w₀ K mg base CX0 3 f fd ["world","numbers"] (spC t fun w ns r=>r=(w,0::staL w)):=by
  refine F.ok sc_answer_state (fun vs H Q E h=>?_) (fun cdv A outer s H vs Q E hr h=>?_)
  · obtain ⟨_,_,_,_,_,_,rfl,_⟩:=h; rfl
  · obtain ⟨A,w,E,ln,ns,r,rfl,R,O,hln,rfl,z⟩:=h
    have nd:=sc_answer_state.nd
    refine ⟨_,(pss_one (ps_ret (pe_op op_cat (pe_lst (pa_cons pe_int pa_nil)) (pe_f F_state_view (hr.mono (by decide)) (pa_cons (pv 0) pa_nil))))),?_⟩
    exact ⟨(by show 1≤sizeLine; decide),fun p hp=>⟨_,rfl,cat0V (val:=staL) z R O (by show 4≤1000; decide) hp⟩⟩
theorem ok_answer_peek (T:Txt K mg t) (F:Fun K "answer_peek" "answer_peek" s_answer_peek f fd) :
    FnOk P w₀ K mg base CX0 1 f fd ["world","numbers"] (spC t fun w ns r=>∃ k:Nat,ns=[(k:Int)]∧k < w.bag.length∧r=(w,0::((w.bag[k]?).map Vbcnam.shown).getD [])):=by
  refine F.ok sc_answer_peek (fun vs H Q E h=>?_) (fun cdv A outer s H vs Q E hr h=>?_)
  · obtain ⟨_,_,_,_,_,_,rfl,_⟩:=h; rfl
  · obtain ⟨A,w,E,ln,ns,r,rfl,R,O,hln,⟨k,rfl,hk,rfl⟩,z⟩:=h
    have nd:=sc_answer_peek.nd
    refine ⟨_,(pss_one (ps_ret (pe_op op_cat (pe_lst (pa_cons pe_int pa_nil)) (pe_callTy (call_listK (K:=K)) (by rfl) T.b_list PyProof.Rows.boot_list (pa_cons (pe_ix (ix_listK (K:=K)) (pe_fl (K:=K) (pv 0)) (pe_ix (ix_listK (K:=K)) (pv 1) pe_int (fun _ _=>rfl)) (fun _ _=>rfl)) pa_nil))))),?_⟩
    refine ⟨(by show 1≤sizeLine; decide),fun p hp=>?_⟩
    obtain ⟨e1,R1⟩:=R.ans (o:=.lst (intV [0])) hp
    obtain ⟨dxw,hw⟩:=R1.wld
    obtain ⟨m,hm⟩:=get_bag hk
    obtain ⟨ms,q,hb,hq,hqH,hl⟩:=R1.mat hm
    have hln1:upd E p (.lst (intV [0])) ln=some (.lst (intV [(k:Int)])):=by rw [upd_ne (ne_of_none hln e1)]; exact hln
    have em:mV m=intV (Vbcnam.shown m):=by cases m <;> rfl
    rw [hm] at z
    refine ⟨_,rfl,r_world_bag T hw ⟨_,rfl,ln,_,_,.int k,rfl,rfl,SqL.of (R1.sub hln1),rfl,_,_,_,_,rfl,rfl,SqL.of hb,refs_ix hq,q,mV m,rfl,.inr (SqT.of hqH),fun l hl'=>?_⟩⟩
    rw [em]
    obtain ⟨e2,R2⟩:=R1.ans (o:=.lst (intV (Vbcnam.shown m))) hl'
    exact cat0 (l:=Vbcnam.shown m) z (by cases m <;> first | exact (by decide:5≤1000) | exact (by decide:4≤1000)) e1 e2 R2
end
abbrev cOf (pl:Int) (ns:List Int):Vbcnam.Call:=VbcnamNeutral.callOf (pl::ns)
section
variable {P:Program} {w₀:PySem.World} {K:PySem.W.Frag} {mg:Str→Option Value} {base:Heap} {t:Cas} {f:Addr} {fd:FuncData}
def spAnswer (t:Cas) (Gd:VW→Prop):Sp:=fun vs H Q _=>∃ (A:Rl→Addr) (s:Option VW) (E:Hp) (ln dl nm:Addr) (pl:Int) (ns:List Int),vs=[.ref ln,.int pl,.ref nm]∧StaL t A H s ln dl E∧(∀ w,s=some w→Gd w)∧E nm=some (.lst (intV ns))∧Form pl ns ∧
  ∀ A' H' a,E a=none→a≠ln→StaL t A' H' (Vbcnam.step s (cOf pl ns)).1 ln dl (upd E a (.lst (intV (Vbcnam.step s (cOf pl ns)).2)))→Q (.ref a) H'
def CallsOk (P:Program) (w₀:PySem.World) (K:PySem.W.Frag) (mg:Str→Option Value) (base:Heap) (t:Cas) (kk:Nat) (Gd:VW→Prop):Prop:=∃ aC as,mg "CALLS" = some (.ref aC)∧(∀ H:Hp,SqT K H aC (.non::refs as)) ∧
  ∀ (pl:Nat) (ns:List Int),Form ((pl:Int) + 1) ns→∃ l,NUMB[pl + 1]?=some l∧ns.length=l.length∧ns.length≤100∧∀ w,Gd w→Ok w∧∃ rs,l.map (rngOf w)=rs.map some ∧
    ((inR ns rs).all id=false→Vbcnam.inWorld w (cOf ((pl:Int) + 1) ns)=(w,[-1])) ∧
    ((inR ns rs).all id=true→∃ f fd j pre,as[pl]?=some f∧j≤kk∧FnOk P w₀ K mg base CX0 j f fd ["world","numbers"] (spC t pre)∧PySem.W.keepIn K (.ref f)=true∧Binds K fd ["world","numbers"] []∧pre w ns (Vbcnam.inWorld w (cOf ((pl:Int) + 1) ns)))
theorem ok_answer {Gd:VW→Prop} (T:Txt K mg t) (C:CallsOk P w₀ K mg base t (8 - 1) Gd) (F:Fun K "answer" "answer" s_answer f fd) (F_begin:Known P w₀ K mg base "begin" 5 ["line","numbers"] (spBegin t))
    (F_are_in_range:Known P w₀ K mg base "are_in_range" 2 ["world","place","numbers"] (spRange t)) :
    FnOk P w₀ K mg base CX0 8 f fd ["line","place","numbers"] (spAnswer t Gd):=by
  refine F.ok sc_answer (fun vs H Q E h=>?_) (fun cdv A outer s H vs Q E hr h=>?_)
  · obtain ⟨_,_,_,_,_,_,_,_,rfl,_⟩:=h; rfl
  · obtain ⟨A,s,E,ln,dl,nm,pl,ns,rfl,⟨Eln,S⟩,G,hnm,fm,q⟩:=h
    have nd:=sc_answer.nd
    obtain ⟨aC,as,m_CALLS,sC,hC⟩:=C
    refine ⟨_,(pss_cons (ps_if (pt_cmpR op_eq (pv 1) (pe_gi T.i_BEGIN) (nomark _)) (pss_one (ps_ret (pe_f F_begin (hr.mono (by decide)) (pa_cons (pv 0) (pa_cons (pv 2) pa_nil))))) pss_nil) (pss_cons (ps_if (pt_cmpR op_isN (pe_fl (K:=K) (pv 0)) pe_non (nomark _)) (pss_one (ps_ret (pe_lst (pa_cons (pe_gi T.i_NO_WORLD) pa_nil)))) pss_nil) (pss_cons (ps_if (pt_not (pt_val (pe_f F_are_in_range (hr.mono (by decide)) (pa_cons (pe_fl (K:=K) (pv 0)) (pa_cons (pv 1) (pa_cons (pv 2) pa_nil)))))) (pss_one (ps_ret (pe_lst (pa_cons (pe_gi T.i_OUT_OF_RANGE) pa_nil)))) pss_nil) (pss_one (ps_ret (pe_cx (P:=P) (w:=w₀) (K:=K) (mg:=mg) (base:=base) (k:=7) (hr.mono (by decide)) (pe_ix (ix_tupK (K:=K)) (pe_gr m_CALLS) (pv 1) (fun _ _=>rfl)) (pa_cons (pe_fl (K:=K) (pv 0)) (pa_cons (pv 2) pa_nil)))))))),?_⟩
    have nml:nm≠ln:=ne_of_none hnm Eln
    have hnm1:∀ {o:HO},upd E ln o nm=some (.lst (intV ns)):=fun {o}=>by rw [upd_ne nml]; exact hnm
    refine ⟨_,rfl,rfl,_,rfl,?_⟩
    by_cases hp:pl=0
    · subst hp
      refine ite2 (fun _=>?_) (fun h=>absurd (decide_eq_true rfl) h)
      cases fm with
      | begin n c p l hl=>exact ⟨_,rfl,_,rfl,A,s,E,ln,dl,nm,n,c,p,l,rfl,⟨Eln,S⟩,hnm,hl,q⟩
    · refine ite2 (fun h=>absurd (V.int.inj (of_decide_eq_true h)) hp) (fun _=>?_)
      rw [show cOf pl ns=VbcnamNeutral.callOf (pl::ns) from rfl,step_world fm hp s] at q
      obtain ⟨k,rfl⟩:∃ k:Nat,pl=(k:Int) + 1:=⟨(pl - 1).toNat,by have:=form_pos fm; omega⟩
      have fin:∀ {A:Rl→Addr} {s:Option VW} {H:Hp} {a:Addr} {o:HO} {v:V},upd E ln (lnO t dl v) a=none→Sta t A H s (upd (upd E ln (lnO t dl v)) a o)→v=lnV A s→E a=none∧a≠ln∧StaL t A H s ln dl (upd E a o):=fun {A s H a o v} e1 S2 ev=>by
        have al:a≠ln:=fun z=>by rw [z,upd_same] at e1; cases e1
        rw [upd_ne al] at e1
        rw [upd_comm (Ne.symm al)] at S2
        subst ev
        exact ⟨e1,al,by rw [upd_ne (Ne.symm al)]; exact Eln,S2⟩
      cases s with
      | none =>
        refine ⟨_,rfl,r_line_world T (S.sub upd_same) ⟨rfl,_,rfl,?_⟩⟩
        refine ite2 (fun _=>?_) (fun h=>absurd rfl h)
        refine ⟨(by show 1≤sizeLine; decide),fun a ha=>?_⟩
        obtain ⟨e1,S2⟩:=S.ans (o:=.lst (intV [-9])) ha
        obtain ⟨f1,f2,f3⟩:=fin e1 S2 rfl
        exact q A _ a f1 f2 f3
      | some w =>
        refine ⟨_,rfl,r_line_world T (S.sub upd_same) ⟨rfl,_,rfl,?_⟩⟩
        refine ite2 (fun h=>nomatch of_decide_eq_true h) (fun _=>?_)
        obtain ⟨l,hl,hlen,h100,hw⟩:=hC k ns fm
        obtain ⟨O,rs,hrs,hF,hT⟩:=hw w (G w rfl)
        refine ⟨_,rfl,r_line_world T (S.sub upd_same) ⟨_,rfl,_,rfl,A,w,upd E ln (lnO t dl (lnV A (some w))),k + 1,nm,ns,l,rs,rfl,S,hnm1,hl,hrs,hlen,h100,fun H1 R1=>⟨_,rfl,?_⟩⟩⟩
        cases hi:(inR ns rs).all id with
        | false =>
          refine ite2 (fun _=>?_) (fun h=>absurd rfl h)
          refine ⟨(by show 1≤sizeLine; decide),fun a ha=>?_⟩
          have ew:=hF hi
          obtain ⟨e1,R2⟩:=R1.ans (o:=.lst (intV [-1])) ha
          obtain ⟨f1,f2,f3⟩:=fin (s:=some w) e1 R2 rfl
          refine q A _ a f1 f2 ?_
          show StaL t A _ (some (Vbcnam.inWorld w (cOf ((k:Int) + 1) ns)).1) ln dl (upd E a (.lst (intV (Vbcnam.inWorld w (cOf ((k:Int) + 1) ns)).2)))
          rw [ew]
          exact f3
        | true =>
          refine ite2 (fun h=>absurd h (by decide)) (fun _=>?_)
          obtain ⟨g,gd,j,pre,ha,hj,FG,kp,bd,hpre⟩:=hT hi
          refine ⟨_,rfl,aC,_,_,.ref g,rfl,rfl,sC _,?_,g,gd,j,_,_,rfl,hj,FG,kp,bd,?_⟩
          · show atI (V.non::refs as) (((k + 1:Nat):Int))=some (V.ref g)
            exact atI_nat (by unfold refs; rw [List.getElem?_cons_succ,List.getElem?_map,ha]; rfl)
          · refine ⟨_,rfl,r_line_world T (Rep.sub R1 upd_same) ⟨_,rfl,A,w,_,nm,ns,_,rfl,R1,O,hnm1,hpre,fun H2 a e1 R2=>?_⟩⟩
            obtain ⟨f1,f2,f3⟩:=fin (s:=some _) e1 R2 rfl
            exact q A _ a f1 f2 f3
end
def flat1 (r:Int × List Int):List Int:=r.1::(r.2.length:Int)::(r.2 ++ [0])
def flat (rows:List (Int × List Int)):List Int:=rows.flatMap flat1
def run:Option VW→List (Int × List Int)→Option VW
  | s,[]=>s
  | s,r::rs=>run (Vbcnam.step s (cOf r.1 r.2)).1 rs
def outs:Option VW→List (Int × List Int)→List (List Int)
  | _,[]=>[]
  | s,r::rs=>(Vbcnam.step s (cOf r.1 r.2)).2::outs (Vbcnam.step s (cOf r.1 r.2)).1 rs
theorem run_app:∀ (a b:List (Int × List Int)) (s:Option VW),run s (a ++ b)=run (run s a) b
  | [],_,_=>rfl
  | _::a,b,_=>run_app a b _
theorem outs_app:∀ (a b:List (Int × List Int)) (s:Option VW),outs s (a ++ b)=outs s a ++ outs (run s a) b
  | [],_,_=>rfl
  | _::a,b,_=>congrArg (List.cons _) (outs_app a b _)
theorem told_app (a b:List (List Int)):PyFlat.told (a ++ b)=PyFlat.told a ++ PyFlat.told b:=List.flatMap_append
theorem flat_app (a b:List (Int × List Int)):flat (a ++ b)=flat a ++ flat b:=List.flatMap_append
theorem flat1_len (r:Int × List Int):(flat1 r).length=3 + r.2.length:=by
  unfold flat1
  rw [List.length_cons,List.length_cons,List.length_append]
  show r.2.length + 1 + 1 + 1=_
  omega
theorem intV_app (a b:List Int):intV (a ++ b)=intV a ++ intV b:=List.map_append
theorem intV_len (a:List Int):(intV a).length=a.length:=List.length_map ..
theorem intV_at {l:List Int} {j:Nat} {n:Int} (h:l[j]?=some n):atI (intV l) (j:Int)=some (.int n):=atI_nat (by unfold intV; rw [List.getElem?_map,h]; rfl)
theorem flat_at (d:List (Int × List Int)) (r:Int × List Int) (e:List (Int × List Int)):(flat (d ++ r::e))[(flat d).length]?=some r.1∧(flat (d ++ r::e))[(flat d).length + 1]?=some (r.2.length:Int) ∧
    ((flat (d ++ r::e)).drop ((flat d).length + 2)).take r.2.length=r.2:=by
  have h:flat (d ++ r::e)=flat d ++ (r.1::(r.2.length:Int)::(r.2 ++ ([0] ++ flat e))):=by
    rw [flat_app]
    show flat d ++ (flat1 r ++ flat e)=_
    unfold flat1
    simp
  rw [h]
  refine ⟨?_,?_,?_⟩
  · rw [List.getElem?_append_right (Nat.le_refl _),Nat.sub_self]; rfl
  · rw [List.getElem?_append_right (Nat.le_add_right _ _),Nat.add_sub_cancel_left]; rfl
  · rw [List.drop_append,Nat.add_sub_cancel_left,List.drop_eq_nil_of_le (Nat.le_add_right _ _),List.nil_append]
    show (r.2 ++ ([0] ++ flat e)).take r.2.length=r.2
    exact List.take_left
theorem cut_mid (l:List Int) (i k:Nat) (h:i + k≤l.length):cutV (intV l) (some (i:Int)) (some ((i:Int) + (k:Int)))=intV ((l.drop i).take k):=by
  unfold cutV
  rw [intV_len,show (i:Int) + (k:Int)=((i + k:Nat):Int) from by omega,HT.sIx_nat,HT.sIx_nat,Nat.min_eq_left h,Nat.min_eq_left (by omega),Nat.add_sub_cancel_left]
  unfold intV
  rw [List.map_take,List.map_drop]
section
variable {P:Program} {w₀:PySem.World} {K:PySem.W.Frag} {mg:Str→Option Value} {base:Heap} {t:Cas} {f:Addr} {fd:FuncData}
def spMain (K:PySem.W.Frag) (t:Cas):Sp:=fun vs H Q _=>∃ (a:Addr) (E:Hp) (rows:List (Int × List Int)),vs=[.ref a]∧Frm t H E∧(∀ H':Hp,(∀ b o,E b=some o→H' b=some o)→SqL K H' a (intV (flat rows)))∧(∀ r ∈ rows,Form r.1 r.2)∧rows.length≤400∧(flat rows).length≤16000 ∧
  ∀ (H':Hp) p,H' p=some (.lst (intV (PyFlat.told (outs none rows))))→Q (.ref p) H'
theorem ok_answers {Gd:VW→Prop} (G0:∀ (s:Option VW) (pl:Int) (ns:List Int),Form pl ns→(∀ w,s=some w→Gd w)→(∀ w,(Vbcnam.step s (cOf pl ns)).1=some w→Gd w)∧(Vbcnam.step s (cOf pl ns)).2.length≤200)
    (T:Txt K mg t) (F:Fun K "answers" "answers" s_answers f fd) (F_answer:Known P w₀ K mg base "answer" 8 ["line","place","numbers"] (spAnswer t Gd)) (M_Line:KnownC P w₀ K mg base "Line" t.CL 1 ["self"] (sp_Line t)) :
    FnOk P w₀ K mg base CX0 9 f fd ["calls"] (spMain K t):=by
  refine F.ok sc_answers (fun vs H Q E h=>?_) (fun cdv A outer s H vs Q E hr h=>?_)
  · obtain ⟨_,_,_,rfl,_⟩:=h; rfl
  · obtain ⟨a,E,rows,rfl,FR,hS,hF,h400,h16,q⟩:=h
    have nd:=sc_answers.nd
    refine ⟨_,(pss_cons (ps_set (i:=1) nd rfl (Or.inl rfl) (pe_mk0 M_Line (hr.mono (by decide)))) (pss_cons (ps_set (i:=2) nd rfl (Or.inl rfl) (pe_lst pa_nil)) (pss_cons (ps_set (i:=3) nd rfl (Or.inl rfl) pe_int) (pss_cons (ps_while PassesOwn.never (pt_cmpR op_lt (pv 3) (pe_callB (call_lenK (K:=K)) (by rfl) T.b_len PySem.boot_len (pa_cons (pv 0) pa_nil)) (nomark _)) (pss_cons (ps_set (i:=4) nd rfl (Or.inl rfl) (pe_ix (ix_listK (K:=K)) (pv 0) (pe_op op_add (pv 3) pe_int) (fun _ _=>rfl))) (pss_cons (ps_set (i:=5) nd rfl (Or.inl rfl) (pe_f F_answer (hr.mono (by decide)) (pa_cons (pv 1) (pa_cons (pe_ix (ix_listK (K:=K)) (pv 0) (pv 3) (fun _ _=>rfl)) (pa_cons (pe_slice (sl_listK (K:=K)) (pv 0) (po_some (pe_op op_add (pv 3) pe_int)) (po_some (pe_op op_add (pe_op op_add (pv 3) pe_int) (pv 4)))) pa_nil))))) (pss_cons (ps_expr (pe_bm PySem.F.plainAttrs_list PySem.F.slot_list_append PySem.F.type_list_append mt_append (pv 2) (pa_cons (pe_callB (call_lenK (K:=K)) (by rfl) T.b_len PySem.boot_len (pa_cons (pv 5) pa_nil)) pa_nil))) (pss_cons (ps_expr (pe_bm PySem.F.plainAttrs_list PySem.F.slot_list_extend PySem.F.type_list_extend mt_extend (pv 2) (pa_cons (pv 5) pa_nil))) (pss_one (ps_aug (i:=3) nd rfl (Or.inl rfl) (pe_op op_add pe_int (pv 4)) ip_add))))))) (pss_one (ps_ret (pv 2))))))),?_⟩
    refine fun ln dl hln hdl hne=>⟨ln,dl,_,rfl,rfl,rfl,?_⟩
    have F1:=FR.ext (o:=.own ln) hdl
    have F1':=F1.less (E':=E) fun b o e=>by rw [upd_ne (ne_of_none e (FR.none_of hdl))]; exact e
    have hln1:upd H dl (.own ln) ln=none:=by rw [upd_ne (Ne.symm hne)]; exact hln
    have F2:=F1'.ext (o:=lnO t dl .non) hln1
    have Eln:E ln=none:=FR.none_of hln
    refine ⟨(by show 0≤sizeLine; decide),fun b hb=>?_⟩
    obtain ⟨Eb0,S3⟩:=Sta.ans (s:=none) (A:=fun _=>ln) (o:=.lst (intV (PyFlat.told (outs none [])))) F2 hb
    have bl:b≠ln:=fun z=>by rw [z,upd_same] at Eb0; cases Eb0
    rw [upd_ne bl] at Eb0
    rw [upd_comm (H:=E) (Ne.symm bl)] at S3
    have sqA:∀ {A:Rl→Addr} {s:Option VW} {H:Hp} {E':Hp},Sta t A H s E'→(∀ c o,E c=some o→E' c=some o)→SqL K H a (intV (flat rows)):=fun S h=>hS _ fun c o e=>S.sub (h c o e)
    have up1:∀ {o:HO} {c:Addr} {u:HO},E c=some u→upd E b o c=some u:=fun e=>by rw [upd_ne (ne_of_none e Eb0)]; exact e
    have up2:∀ {o o':HO} {c:Addr} {u:HO},E c=some u→upd (upd E b o) ln o' c=some u:=fun e=>by rw [upd_ne (ne_of_none e Eln)]; exact up1 e
    refine ⟨fun m σ H=>∃ (dn td:List (Int × List Int)) (A:Rl→Addr) (x y:Option V),rows=dn ++ td∧m=td.length∧σ=[some (.ref a),some (.ref ln),some (.ref b),some (.int (flat dn).length),x,y]∧(∀ w,run none dn=some w→Gd w) ∧
      (PyFlat.told (outs none dn)).length≤dn.length * 201∧StaL t A H (run none dn) ln dl (upd E b (.lst (intV (PyFlat.told (outs none dn))))),⟨rows.length,[],rows,(fun _=>ln),none,none,rfl,rfl,rfl,(fun w e=>nomatch e),Nat.le_refl _,by rw [upd_ne (Ne.symm bl)]; exact Eln,S3⟩,?_⟩
    rintro m σ H ⟨dn,td,A,x,y,er,rfl,rfl,hG,hlen,hL,S⟩
    refine ⟨_,rfl,_,rfl,a,_,rfl,.inl (sqA S fun c o e=>up2 e),_,_,rfl,rfl,_,rfl,?_⟩
    rw [intV_len]
    cases td with
    | nil =>
      rw [List.append_nil] at er
      subst er
      refine ite2 (fun h=>absurd (of_decide_eq_true h) (by omega)) (fun _=>?_)
      exact ⟨_,rfl,q H b (S.sub (by rw [upd_ne bl,upd_same]))⟩
    | cons r td =>
      obtain ⟨a1,a2,a3⟩:=flat_at dn r td
      rw [← er] at a1 a2 a3
      have hlt:(flat dn).length + 3 + r.2.length≤(flat rows).length:=by
        rw [er,flat_app,List.length_append]
        show _≤_ + (flat1 r ++ flat td).length
        rw [List.length_append,flat1_len]
        omega
      refine ite2 (fun _=>?_) (fun h=>absurd (decide_eq_true (by omega)) h)
      refine ⟨fun σ' H'=>∃ (dn td':List (Int × List Int)) (A:Rl→Addr) (x y:Option V),rows=dn ++ td'∧td.length=td'.length∧σ'=[some (.ref a),some (.ref ln),some (.ref b),some (.int (flat dn).length),x,y]∧(∀ w,run none dn=some w→Gd w) ∧
        (PyFlat.told (outs none dn)).length≤dn.length * 201∧StaL t A H' (run none dn) ln dl (upd E b (.lst (intV (PyFlat.told (outs none dn))))),fun σ' H' h=>⟨td.length,Nat.lt_succ_self _,h⟩,?_⟩
      refine ⟨_,rfl,_,rfl,_,_,rfl,rfl,a,_,_,.int r.2.length,rfl,rfl,sqA S fun c o e=>up2 e,intV_at (j:=(flat dn).length + 1) a2,?_⟩
      refine ⟨_,rfl,_,rfl,_,rfl,a,_,_,.int r.1,rfl,rfl,sqA S fun c o e=>up2 e,intV_at a1,?_⟩
      have e3:cutV (intV (flat rows)) (some (((flat dn).length:Int) + 2)) (some (((flat dn).length:Int) + 2 + (r.2.length:Int)))=intV r.2:=by
        have:=cut_mid (flat rows) ((flat dn).length + 2) r.2.length (by omega)
        rw [a3] at this
        exact this
      refine ⟨_,rfl,_,rfl,_,_,rfl,rfl,_,rfl,_,rfl,_,_,rfl,rfl,_,rfl,_,_,rfl,rfl,_,rfl,a,_,rfl,sqA S fun c o e=>up2 e,fun nm hnm=>?_⟩
      rw [e3]
      have hr0:Form r.1 r.2:=hF r (by rw [er]; simp)
      obtain ⟨g1,g2⟩:=G0 _ _ _ hr0 hG
      obtain ⟨e1,S1⟩:=S.ans (o:=.lst (intV r.2)) hnm
      have nl:nm≠ln:=fun z=>by rw [z,upd_same] at e1; cases e1
      rw [upd_comm (Ne.symm nl)] at S1
      rw [upd_ne nl] at e1
      have nb:nm≠b:=fun z=>by rw [z,upd_same] at e1; cases e1
      refine ⟨A,run none dn,_,ln,dl,nm,r.1,r.2,rfl,⟨by rw [upd_ne (Ne.symm nl)]; exact hL,S1⟩,hG,upd_same,hr0,fun A' H2 a' ea al ⟨f1,S2⟩=>?_⟩
      have an:a'≠nm:=fun z=>by rw [z,upd_same] at ea; cases ea
      rw [upd_ne an] at ea
      have ab:a'≠b:=fun z=>by rw [z,upd_same] at ea; cases ea
      rw [upd_ne ab] at ea
      let ans:=(Vbcnam.step (run none dn) (cOf r.1 r.2)).2
      let fr:Hp:=upd (upd (upd (upd E b (.lst (intV (PyFlat.told (outs none dn))))) nm (.lst (intV r.2))) a' (.lst (intV ans))) ln (lnO t dl (lnV A' (Vbcnam.step (run none dn) (cOf r.1 r.2)).1))
      have ha':fr a'=some (.lst (intV ans)):=by show upd _ _ _ a'=_; rw [upd_ne al,upd_same]
      have hb':fr b=some (.lst (intV (PyFlat.told (outs none dn)))):=by show upd _ _ _ b=_; rw [upd_ne bl,upd_ne (Ne.symm ab),upd_ne (Ne.symm nb),upd_same]
      refine ⟨_,rfl,.inl ⟨rfl,_,SqL.of (S2.sub hb')⟩,_,rfl,a',_,rfl,.inl (SqL.of (S2.sub ha')),b,_,_,rfl,rfl,S2.sub hb',?_,?_⟩
      · rw [intV_len]
        have:dn.length≤400:=by rw [er,List.length_append] at h400; omega
        exact Nat.lt_of_le_of_lt (Nat.le_trans hlen (Nat.mul_le_mul_right 201 this)) (by decide)
      · have S3:=S2.extw (o:=.lst (intV (PyFlat.told (outs none dn)) ++ [V.int ans.length])) hb' trivial
        rw [intV_len]
        have hb3:upd fr b (.lst (intV (PyFlat.told (outs none dn)) ++ [V.int ans.length])) b=some (.lst (intV (PyFlat.told (outs none dn)) ++ [V.int ans.length])):=upd_same
        have ha3:upd fr b (.lst (intV (PyFlat.told (outs none dn)) ++ [V.int ans.length])) a'=some (.lst (intV ans)):=by rw [upd_ne ab]; exact ha'
        have tl:PyFlat.told (outs none (dn ++ [r]))=PyFlat.told (outs none dn) ++ ((ans.length:Int)::ans):=by
          rw [outs_app,told_app]
          show _ ++ PyFlat.told [ans]=_
          unfold PyFlat.told
          simp
        have dl400:dn.length≤400:=by rw [er,List.length_append] at h400; omega
        refine ⟨_,rfl,.inl ⟨rfl,_,SqL.of (S3.sub hb3)⟩,_,rfl,b,a',_,_,rfl,rfl,S3.sub hb3,S3.sub ha3,?_,?_⟩
        · rw [List.length_append,intV_len,intV_len]
          have:(PyFlat.told (outs none dn)).length≤400 * 201:=Nat.le_trans hlen (Nat.mul_le_mul_right 201 dl400)
          show _ + 1 + ans.length≤sizeLine
          have h3:ans.length≤200:=g2
          have h4:(100000:Nat)≤sizeLine:=by decide
          omega
        · have S4:=S3.extw (o:=.lst ((intV (PyFlat.told (outs none dn)) ++ [V.int ans.length]) ++ intV ans)) hb3 trivial
          refine ⟨_,rfl,_,rfl,_,_,rfl,rfl,_,_,rfl,rfl,dn ++ [r],td,A',some (.int r.2.length),some (.ref a'),by rw [er,List.append_assoc]; rfl,rfl,?_,?_,?_,by rw [upd_ne (Ne.symm bl)]; exact Eln,?_⟩
          · have:((flat dn).length:Int) + (3 + (r.2.length:Int))=((flat (dn ++ [r])).length:Nat):=by
              rw [flat_app,List.length_append]
              show _=((_ + (flat1 r ++ []).length:Nat):Int)
              rw [List.append_nil,flat1_len]
              omega
            rw [← this]
            rfl
          · rw [run_app]
            exact g1
          · rw [tl,List.length_append,List.length_append]
            show _ + (ans.length + 1)≤(dn.length + 1) * 201
            have h3:ans.length≤200:=g2
            omega
          · rw [run_app,tl,intV_app]
            refine S4.less fun c o e=>?_
            rw [upd_upd]
            show upd fr b _ c=some o
            by_cases cl:c=ln
            · subst cl
              rw [upd_same] at e
              rw [upd_ne (Ne.symm bl)]
              show upd _ c _ c=some o
              rw [upd_same]
              exact e
            · rw [upd_ne cl] at e
              by_cases cb:c=b
              · subst cb
                rw [upd_same] at e ⊢
                rw [List.append_assoc]
                exact e
              · rw [upd_ne cb] at e ⊢
                show upd _ ln _ c=some o
                have ca:c≠a':=ne_of_none e ea
                have cn:c≠nm:=by
                  rw [upd_ne nb] at e1
                  exact ne_of_none e e1
                rw [upd_ne cl,upd_ne ca,upd_ne cn,upd_ne cb]
                exact e
end
theorem shp_0 {b:List Int} {l:List (List Int)}:∀ {ns:List Int},VbcnamNeutral.asked1 ((0::ns)::b::l)=false
  | []=>rfl
  | [_]=>rfl
  | [_,_]=>rfl
  | _::_::_::_=>rfl
theorem shp_1 {b:List Int} {l:List (List Int)}:∀ {ns:List Int},VbcnamNeutral.asked1 ((1::ns)::b::l)=false
  | []=>rfl
  | [_]=>rfl
  | [_,_]=>rfl
  | _::_::_::_=>rfl
theorem shp_2 {b:List Int} {l:List (List Int)}:∀ {ns:List Int},VbcnamNeutral.asked1 ((2::ns)::b::l)=false
  | []=>rfl
  | [_]=>rfl
  | _::_::_=>rfl
theorem shp_3 {b:List Int} {l:List (List Int)}:∀ {ns:List Int},VbcnamNeutral.asked1 ((3::ns)::b::l)=false
  | []=>rfl
  | [_]=>rfl
  | [_,_]=>rfl
  | [_,_,_]=>rfl
  | [_,_,_,_]=>rfl
  | _::_::_::_::_::_=>rfl
theorem shp_4 {b:List Int} {l:List (List Int)}:∀ {ns:List Int},VbcnamNeutral.asked1 ((4::ns)::b::l)=false
  | []=>rfl
  | [_]=>rfl
  | [_,_]=>rfl
  | _::_::_::_=>rfl
theorem shp_5 {b:List Int} {l:List (List Int)}:∀ {ns:List Int},VbcnamNeutral.asked1 ((5::ns)::b::l)=false
  | []=>rfl
  | [_]=>rfl
  | _::_::_=>rfl
theorem shp_6 {b:List Int} {l:List (List Int)}:∀ {ns:List Int},VbcnamNeutral.asked1 ((6::ns)::b::l)=false
  | []=>rfl
  | _::_=>rfl
theorem shp_7 {b:List Int} {l:List (List Int)}:∀ {ns:List Int},VbcnamNeutral.asked1 ((7::ns)::b::l)=false
  | []=>rfl
  | [_]=>rfl
  | [_,_]=>rfl
  | _::_::_::_=>rfl
theorem shp_8 {b:List Int} {l:List (List Int)}:∀ {ns:List Int},VbcnamNeutral.asked1 ((8::ns)::b::l)=false
  | []=>rfl
  | [_]=>rfl
  | [_,_]=>rfl
  | _::_::_::_=>rfl
theorem shp_9 {b:List Int} {l:List (List Int)}:∀ {ns:List Int},VbcnamNeutral.asked1 ((9::ns)::b::l)=false
  | []=>rfl
  | [_]=>rfl
  | _::_::_=>rfl
theorem shp_10 {b:List Int} {l:List (List Int)}:∀ {ns:List Int},VbcnamNeutral.asked1 ((10::ns)::b::l)=false
  | []=>rfl
  | [_]=>rfl
  | _::_::_=>rfl
theorem shp_11 {b:List Int} {l:List (List Int)}:∀ {ns:List Int},VbcnamNeutral.asked1 ((11::ns)::b::l)=false
  | []=>rfl
  | [_]=>rfl
  | _::_::_=>rfl
theorem shp_12 {b:List Int} {l:List (List Int)}:∀ {ns:List Int},VbcnamNeutral.asked1 ((12::ns)::b::l)=false
  | []=>rfl
  | [_]=>rfl
  | _::_::_=>rfl
theorem shp_13 {b:List Int} {l:List (List Int)}:∀ {ns:List Int},VbcnamNeutral.asked1 ((13::ns)::b::l)=false
  | []=>rfl
  | [_]=>rfl
  | _::_::_=>rfl
theorem shp_14 {b:List Int} {l:List (List Int)}:∀ {ns:List Int},VbcnamNeutral.asked1 ((14::ns)::b::l)=false
  | []=>rfl
  | [_]=>rfl
  | _::_::_=>rfl
theorem shp_15 {b:List Int} {l:List (List Int)}:∀ {ns:List Int},VbcnamNeutral.asked1 ((15::ns)::b::l)=false
  | []=>rfl
  | _::_=>rfl
theorem shp_16 {b:List Int} {l:List (List Int)}:∀ {ns:List Int},VbcnamNeutral.asked1 ((16::ns)::b::l)=false
  | []=>rfl
  | [_]=>rfl
  | _::_::_=>rfl
theorem shp_17 {b:List Int} {l:List (List Int)}:∀ {ns:List Int},VbcnamNeutral.asked1 ((17::ns)::b::l)=false
  | []=>rfl
  | [_]=>rfl
  | _::_::_=>rfl
theorem shp_18 {b:List Int} {l:List (List Int)}:∀ {ns:List Int},VbcnamNeutral.asked1 ((18::ns)::b::l)=false
  | []=>rfl
  | [_]=>rfl
  | _::_::_=>rfl
theorem shp_19 {b:List Int} {l:List (List Int)}:∀ {ns:List Int},VbcnamNeutral.asked1 ((19::ns)::b::l)=false
  | []=>rfl
  | _::_=>rfl
theorem shp_20 {b:List Int} {l:List (List Int)}:∀ {ns:List Int},VbcnamNeutral.asked1 ((20::ns)::b::l)=false
  | []=>rfl
  | _::_=>rfl
theorem shp_21 {b:List Int} {l:List (List Int)}:∀ {ns:List Int},VbcnamNeutral.asked1 ((21::ns)::b::l)=false
  | []=>rfl
  | [_]=>rfl
  | _::_::_=>rfl
theorem shp_22 {b:List Int} {l:List (List Int)}:∀ {ns:List Int},VbcnamNeutral.asked1 ((22::ns)::b::l)=false
  | []=>rfl
  | _::_=>rfl
theorem shape_of:∀ {c:List (List Int)},VbcnamNeutral.asked1 c=true→∃ p ns,c=[p::ns]
  | [],h=>no_form h rfl
  | []::_,h=>no_form h rfl
  | [_::_],_=>⟨_,_,rfl⟩
  | (p::ns)::_::_,h=>by
    rcases p with n | n
    rcases n with _ | n
    · exact no_form h shp_0
    rcases n with _ | n
    · exact no_form h shp_1
    rcases n with _ | n
    · exact no_form h shp_2
    rcases n with _ | n
    · exact no_form h shp_3
    rcases n with _ | n
    · exact no_form h shp_4
    rcases n with _ | n
    · exact no_form h shp_5
    rcases n with _ | n
    · exact no_form h shp_6
    rcases n with _ | n
    · exact no_form h shp_7
    rcases n with _ | n
    · exact no_form h shp_8
    rcases n with _ | n
    · exact no_form h shp_9
    rcases n with _ | n
    · exact no_form h shp_10
    rcases n with _ | n
    · exact no_form h shp_11
    rcases n with _ | n
    · exact no_form h shp_12
    rcases n with _ | n
    · exact no_form h shp_13
    rcases n with _ | n
    · exact no_form h shp_14
    rcases n with _ | n
    · exact no_form h shp_15
    rcases n with _ | n
    · exact no_form h shp_16
    rcases n with _ | n
    · exact no_form h shp_17
    rcases n with _ | n
    · exact no_form h shp_18
    rcases n with _ | n
    · exact no_form h shp_19
    rcases n with _ | n
    · exact no_form h shp_20
    rcases n with _ | n
    · exact no_form h shp_21
    rcases n with _ | n
    · exact no_form h shp_22
    · exact no_form h rfl
    · exact no_form h rfl
def rowOf (c:List (List Int)):Int × List Int:=((c.headD []).headD 0,(c.headD []).tail)
theorem rows_put:∀ (cs:List (List (List Int))),(∀ c ∈ cs,VbcnamNeutral.asked1 c=true)→PyWide.put cs=flat (cs.map rowOf)
  | [],_=>rfl
  | c::cs,h=>by
    obtain ⟨p,ns,rfl⟩:=shape_of (h c List.mem_cons_self)
    show PyWide.put1 [p::ns] ++ PyWide.put cs=flat1 (p,ns) ++ flat (cs.map rowOf)
    rw [rows_put cs fun d hd=>h d (List.mem_cons_of_mem _ hd)]
    rfl
theorem rows_play:∀ (cs:List (List (List Int))) (s:Option VW),(∀ c ∈ cs,VbcnamNeutral.asked1 c=true)→PyFlat.played VbcnamNeutral.step s cs=outs s (cs.map rowOf)
  | [],_,_=>rfl
  | c::cs,s,h=>by
    obtain ⟨p,ns,rfl⟩:=shape_of (h c List.mem_cons_self)
    show (Vbcnam.step s (VbcnamNeutral.callOf (p::ns))).2::PyFlat.played VbcnamNeutral.step (Vbcnam.step s (VbcnamNeutral.callOf (p::ns))).1 cs=(Vbcnam.step s (VbcnamNeutral.callOf (p::ns))).2::outs (Vbcnam.step s (VbcnamNeutral.callOf (p::ns))).1 (cs.map rowOf)
    rw [rows_play cs _ fun d hd=>h d (List.mem_cons_of_mem _ hd)]
theorem asked_rows {l:List Int} (h:PyVbcnam.answers_asked l=true):∃ rows,l=flat rows∧(∀ r ∈ rows,Form r.1 r.2)∧rows.length≤400∧PyVbcnam.answers l=PyFlat.told (outs none rows):=by
  unfold PyVbcnam.answers_asked at h
  unfold PyVbcnam.answers
  cases hc:PyVbcnam.calls l with
  | none=>rw [hc] at h; exact Bool.noConfusion (show false=true from h)
  | some cs =>
    rw [hc] at h
    obtain ⟨h1,h2⟩:=Bool.and_eq_true_iff.mp h
    obtain ⟨h3,h4⟩:=Bool.and_eq_true_iff.mp h1
    have ha:∀ c ∈ cs,VbcnamNeutral.asked1 c=true:=fun c hc=>List.all_eq_true.mp (Bool.and_eq_true_iff.mp h4).1 c hc
    obtain ⟨e1,e2⟩:=PyWide.put_calls _ _ _ hc
    refine ⟨cs.map rowOf,e1.trans (rows_put cs ha),fun r hr=>?_,?_,?_⟩
    · obtain ⟨c,hc,rfl⟩:=List.mem_map.mp hr
      obtain ⟨p,ns,rfl⟩:=shape_of (ha c hc)
      exact form_of (ha _ hc)
    · rw [List.length_map]
      exact of_decide_eq_true h3
    · show PyFlat.told (PyFlat.played VbcnamNeutral.step VbcnamNeutral.start cs)=_
      rw [rows_play cs _ ha]
      rfl
def adr (K:PySem.W.Frag) (x:Str):Addr:=match PySem.W.nsIn K mainGlobals x with
  | some (some (.ref a))=>a
  | _=>0
def casOf (K:PySem.W.Frag) (T:Addr):Cas:=⟨adr K "World",adr K "Supply",adr K "Port",adr K "Device",adr K "Line",T,match PySem.W.tabIn K "order_of_ports" with | some (c,_)=>c | none=>0⟩
theorem frm0 {K:PySem.W.Frag} {T:Addr} {H:Hp} (hN:H T=none):Frm (casOf K T) (tabH T H) H where
  fr:=fun b o e=>by show upd H T _ b=_; rw [upd_ne (ne_of_none e hN)]; exact e
  tab:=⟨#[],by show upd H T _ T=_; rw [upd_same],by first | trivial | exact True.intro | decide | (unfold TriplesOk; trivial),.inl rfl⟩
  et:=hN
theorem S_main {K:PySem.W.Frag} {T:Addr} {H:Hp} {xs:List V} {l:List Int} (hN:H T=none) (hlen:l.length≤16000) (hask:PyVbcnam.answers_asked l=true) (hx:DwAll K H xs [.list (l.map PySem.W.WData.int)]) :
    spMain K (casOf K T) xs (tabH T H) (fun v H'=>Dw K H' v (.list ((PyVbcnam.answers l).map PySem.W.WData.int))) fun _ _ _=>False:=by
  cases hx with
  | cons h1 h2 =>
    cases h2
    cases h1 with
    | lst hs ha =>
      have e:=L2.ints_dw l _ ha
      subst e
      obtain ⟨rows,e1,e2,e3,e4⟩:=asked_rows hask
      refine ⟨_,H,rows,rfl,frm0 hN,fun H' hH=>?_,e2,e3,by rw [← e1]; exact hlen,fun H' p hp=>.lst (L2.SqL.of hp) ?_⟩
      · rw [← e1]
        rcases hs with hs | hs
        · rcases hs with hs | ⟨o,hs⟩
          · exact .inl (.inl (hH _ _ hs))
          · exact .inl (.inr ⟨o,hH _ _ hs⟩)
        · exact .inr hs
      · rw [e4]
        exact L2.dw_ints _
theorem good0 {n c:Nat} {b:Bool} {l:List Nat} (hn:n≤48) (hc:c≤10000) (hl:l.length≤4):Good (world0 n c b l) where
  ns:=by show (l.map _).length≤4; rw [List.length_map]; exact hl
  np:=by show (List.replicate n _).length≤48; rw [List.length_replicate]; exact hn
  po:=fun i _=>by
    rw [pAt0]
    exact ⟨fun y e=>(nomatch e),fun e=>(nomatch e),fun e=>(nomatch e),Nat.zero_le _⟩
  bag:=Nat.zero_le _
  cap:=hc
  msg:=fun m hm=>nomatch hm
theorem isPort_lt {w:VW} {p:Int} (h:Vbcnam.isPort w p=true):p.toNat < w.ports.length∧p=(p.toNat:Int):=by
  unfold Vbcnam.isPort Vbcnam.within at h
  simp only [Bool.and_eq_true,decide_eq_true_eq] at h
  omega
theorem tf {b:Bool} (h:¬ b=false):b=true:=by cases b with | true=>rfl | false=>exact absurd rfl h
theorem nums_len (l:List Nat):(Vbcnam.nums l).length=l.length:=List.length_map ..
theorem powers_len (w:VW):(Vbcnam.powers w).length=5:=rfl
theorem good_in {w:VW} {pl:Int} {ns:List Int} (F:Form pl ns) (G:Good w) (hp:pl≠0):Good (Vbcnam.inWorld w (cOf pl ns)).1∧(Vbcnam.inWorld w (cOf pl ns)).2.length≤200:=by
  have one:∀ n:Int,([n]:List Int).length≤200:=fun _=>by show 1≤200; decide
  have five:∀ v:VW,(Vbcnam.powers v).length≤200:=fun v=>by rw [powers_len]; decide
  cases F with
  | begin=>exact absurd rfl hp
  | supply i x =>
    show Good (if _ then _ else _:VW × List Int).1∧(if _ then _ else _:VW × List Int).2.length≤200
    split
    · exact ⟨G,one _⟩
    · show Good (if _ then _ else _:VW × List Int).1∧(if _ then _ else _:VW × List Int).2.length≤200
      split
      · exact ⟨G,one _⟩
      · exact ⟨(G.sup (by rw [List.length_set]; exact G.ns)).safe,five _⟩
  | spare x =>
    show Good (if _ then _ else _:VW × List Int).1∧(if _ then _ else _:VW × List Int).2.length≤200
    split
    · exact ⟨G,one _⟩
    · exact ⟨⟨G.ns,G.np,G.po,G.bag,G.cap,fun m hm=>by have z:=G.msg m hm; cases m <;> exact z⟩,five _⟩
  | port p e r m =>
    show Good (if _ then _ else _:VW × List Int).1∧(if _ then _ else _:VW × List Int).2.length≤200
    split
    · exact ⟨G,one _⟩
    · rename_i h
      obtain ⟨hl,_⟩:=isPort_lt (Bool.and_eq_true_iff.mp (tf h)).1
      refine ⟨?_,one _⟩
      have P:=G.po _ hl
      have P2:PGood { pAt w p.toNat with enabled:=e == 1,rank:=r.toNat,most:=m.toNat }:=P.like rfl rfl rfl rfl rfl
      show Good (Vbcnam.setPort w p.toNat (if e=0 then _ else _))
      split
      · exact G.set hl P2.cut ⟨Nat.le_refl _,fun z=>nomatch z⟩
      · exact G.set hl P2 (step_like rfl rfl rfl)
  | plug p c =>
    show Good (if _ then _ else _:VW × List Int).1∧(if _ then _ else _:VW × List Int).2.length≤200
    split
    · exact ⟨G,one _⟩
    · rename_i h
      obtain ⟨h1,h2⟩:=Bool.and_eq_true_iff.mp (tf h)
      obtain ⟨hl,_⟩:=isPort_lt h1
      have hc:1≤c.toNat∧c.toNat≤4:=by
        unfold Vbcnam.within at h2
        simp only [Bool.and_eq_true,decide_eq_true_eq] at h2
        omega
      split
      · exact ⟨G,one _⟩
      · rename_i hd
        refine ⟨G.set hl ?_ (step_like rfl rfl rfl),one _⟩
        have P:=G.po _ hl
        have hn:∀ d,(pAt w p.toNat).device≠some d:=fun d e=>hd (by show (pAt w p.toNat).device.isSome=true; rw [e]; rfl)
        exact { cls:=fun y e=>by have e:=Option.some.inj e; subst e; exact hc,ses:=fun ho=>absurd (P.ses ho).choose_spec.1 (hn _),last:=P.last,gl:=P.gl }
  | unplug p =>
    show Good (if _ then _ else _:VW × List Int).1∧(if _ then _ else _:VW × List Int).2.length≤200
    split
    · exact ⟨G,one _⟩
    · rename_i h
      obtain ⟨hl,_⟩:=isPort_lt (tf h)
      split
      · exact ⟨G,one _⟩
      · refine ⟨G.set hl ?_ ⟨Nat.le_refl _,fun z=>nomatch z⟩,one _⟩
        exact ⟨fun y e=>(nomatch e),fun e=>(nomatch e),fun e=>(nomatch e),Nat.zero_le _⟩
  | settle=>exact ⟨G.settle,five _⟩
  | wish p m =>
    show Good (if _ then _ else _:VW × List Int).1∧(if _ then _ else _:VW × List Int).2.length≤200
    split
    · exact ⟨G,one _⟩
    · rename_i h
      obtain ⟨hl,_⟩:=isPort_lt (Bool.and_eq_true_iff.mp (tf h)).1
      show Good (match (pAt w p.toNat).device with | none=>_ | some d=>_:VW × List Int).1∧(match (pAt w p.toNat).device with | none=>_ | some d=>_:VW × List Int).2.length≤200
      cases hd:(pAt w p.toNat).device with
      | none=>exact ⟨G,one _⟩
      | some d =>
        show Good (if _ then _ else _:VW × List Int).1∧(if _ then _ else _:VW × List Int).2.length≤200
        split
        · exact ⟨G,one _⟩
        · split
          · exact ⟨G,one _⟩
          · refine ⟨?_,by show 2≤200; decide⟩
            have G2:=G.set hl (x:={ pAt w p.toNat with device:=some { d with asked:=d.asked + 1 } }) ((G.po _ hl).dev hd rfl rfl) (step_like rfl rfl rfl)
            exact G2.put (by show p.toNat < (Vbcnam.setPort w _ _).ports.length; rw [len_set]; exact hl)
  | draw p m =>
    show Good (if _ then _ else _:VW × List Int).1∧(if _ then _ else _:VW × List Int).2.length≤200
    split
    · exact ⟨G,one _⟩
    · rename_i h
      obtain ⟨hl,_⟩:=isPort_lt (Bool.and_eq_true_iff.mp (tf h)).1
      show Good (match (pAt w p.toNat).device with | none=>_ | some d=>_:VW × List Int).1∧(match (pAt w p.toNat).device with | none=>_ | some d=>_:VW × List Int).2.length≤200
      cases hd:(pAt w p.toNat).device with
      | none=>exact ⟨G,one _⟩
      | some d =>
        show Good (if _ then _ else _:VW × List Int).1∧(if _ then _ else _:VW × List Int).2.length≤200
        split
        · exact ⟨G,one _⟩
        · exact ⟨G.set hl ((G.po _ hl).dev hd rfl rfl) (step_like rfl rfl rfl),by show 2≤200; decide⟩
  | fault p =>
    show Good (if _ then _ else _:VW × List Int).1∧(if _ then _ else _:VW × List Int).2.length≤200
    split
    · exact ⟨G,one _⟩
    · rename_i h
      obtain ⟨hl,_⟩:=isPort_lt (tf h)
      show Good (if _ then _ else _:VW × List Int).1∧(if _ then _ else _:VW × List Int).2.length≤200
      split
      · exact ⟨G,one _⟩
      · split
        · exact ⟨G,one _⟩
        · exact ⟨G.set hl ((G.po _ hl).cut.like rfl rfl rfl rfl rfl) ⟨Nat.le_refl _,fun z=>nomatch z⟩,one _⟩
  | clear p =>
    show Good (if _ then _ else _:VW × List Int).1∧(if _ then _ else _:VW × List Int).2.length≤200
    split
    · exact ⟨G,one _⟩
    · rename_i h
      obtain ⟨hl,_⟩:=isPort_lt (tf h)
      split
      · exact ⟨G,one _⟩
      · exact ⟨G.set hl ((G.po _ hl).like rfl rfl rfl rfl rfl) (step_like rfl rfl rfl),one _⟩
  | again p =>
    show Good (if _ then _ else _:VW × List Int).1∧(if _ then _ else _:VW × List Int).2.length≤200
    split
    · exact ⟨G,one _⟩
    · rename_i h
      obtain ⟨hl,_⟩:=isPort_lt (tf h)
      show Good (if _ then _ else _:VW × List Int).1∧(if _ then _ else _:VW × List Int).2.length≤200
      split
      · exact ⟨G,one _⟩
      · split
        · exact ⟨G,one _⟩
        · exact ⟨G.put ⟨hl,Nat.le_refl _,fun _ _=>Nat.le_refl _⟩,one _⟩
  | deliver k =>
    show Good (if _ then _ else _:VW × List Int).1∧(if _ then _ else _:VW × List Int).2.length≤200
    split
    · exact ⟨G,one _⟩
    · exact ⟨G.delivered _,by show 2≤200; decide⟩
  | lose k =>
    show Good (if _ then _ else _:VW × List Int).1∧(if _ then _ else _:VW × List Int).2.length≤200
    split
    · exact ⟨G,one _⟩
    · exact ⟨G.erase _,one _⟩
  | double k =>
    show Good (if _ then _ else _:VW × List Int).1∧(if _ then _ else _:VW × List Int).2.length≤200
    split
    · exact ⟨G,one _⟩
    · split
      · exact ⟨G,one _⟩
      · rename_i hf
        refine ⟨G.bagOf ?_ fun m hm=>?_,one _⟩
        · rw [List.length_append]
          have hf:¬ w.cap≤w.bag.length:=fun z=>hf (decide_eq_true z)
          cases w.bag[k.toNat]? with
          | none=>show _ + 0≤_; omega
          | some m=>show _ + 1≤_; omega
        · rcases List.mem_append.mp hm with h | h
          · exact h
          · cases e:w.bag[k.toNat]? with
            | none=>rw [e] at h; exact absurd h (by simp)
            | some m' =>
              rw [e] at h
              have h:m=m':=by simpa using h
              rw [h]
              exact List.mem_of_getElem? e
  | calm=>exact ⟨G.calmed _,by show 2≤200; decide⟩
  | tick t =>
    show Good (if _ then _ else _:VW × List Int).1∧(if _ then _ else _:VW × List Int).2.length≤200
    split
    · exact ⟨G,one _⟩
    · split
      · exact ⟨G,one _⟩
      · exact ⟨G.tick,by show 2≤200; decide⟩
  | look p =>
    show Good (if _ then _ else _:VW × List Int).1∧(if _ then _ else _:VW × List Int).2.length≤200
    split
    · exact ⟨G,one _⟩
    · rename_i h
      obtain ⟨hl,_⟩:=isPort_lt (tf h)
      refine ⟨G,?_⟩
      show (_ ++ Vbcnam.nums (_ ++ (pAt w p.toNat).grants.flatMap fun g=>[g.number,g.watts])).length≤200
      rw [List.length_append,nums_len,List.length_append]
      have e:((pAt w p.toNat).grants.flatMap fun g=>[g.number,g.watts]).length=2 * (pAt w p.toNat).grants.length:=by
        induction (pAt w p.toNat).grants with
        | nil=>rfl
        | cons g l ih=>rw [List.flatMap_cons,List.length_append,ih]; show 2 + 2 * l.length=2 * (l.length + 1); omega
      have:=(G.po _ hl).gl
      rw [e]
      show 6 + (7 + _)≤200
      omega
  | device p =>
    show Good (if _ then _ else _:VW × List Int).1∧(if _ then _ else _:VW × List Int).2.length≤200
    split
    · exact ⟨G,one _⟩
    · show Good (match (pAt w p.toNat).device with | none=>_ | some d=>_:VW × List Int).1∧(match (pAt w p.toNat).device with | none=>_ | some d=>_:VW × List Int).2.length≤200
      cases (pAt w p.toNat).device with
      | none=>exact ⟨G,one _⟩
      | some d=>exact ⟨G,by show 7≤200; decide⟩
  | power=>exact ⟨G,five _⟩
  | plan =>
    refine ⟨G,?_⟩
    show (_::_::Vbcnam.nums ((Vbcnam.plan w).flatMap fun x=>[x.1,x.2])).length≤200
    rw [List.length_cons,List.length_cons,nums_len]
    have e:((Vbcnam.plan w).flatMap fun x=>[x.1,x.2]).length=2 * (Vbcnam.plan w).length:=by
      induction Vbcnam.plan w with
      | nil=>rfl
      | cons g l ih=>rw [List.flatMap_cons,List.length_append,ih]; show 2 + 2 * l.length=2 * (l.length + 1); omega
    have h1:=(plan_mem (w:=w)).2
    have h2:=G.np
    rw [e]
    omega
  | peek k =>
    show Good (if _ then _ else _:VW × List Int).1∧(if _ then _ else _:VW × List Int).2.length≤200
    split
    · exact ⟨G,one _⟩
    · refine ⟨G,?_⟩
      show (_::((w.bag[k.toNat]?).map Vbcnam.shown).getD []).length≤200
      cases w.bag[k.toNat]? with
      | none=>show 1≤200; decide
      | some m=>cases m <;> (first | (show 6≤200; decide) | (show 5≤200; decide))
  | state=>exact ⟨G,by show 5≤200; decide⟩
theorem G0 (s:Option VW) (pl:Int) (ns:List Int) (F:Form pl ns) (h:∀ w,s=some w→Good w):(∀ w,(Vbcnam.step s (cOf pl ns)).1=some w→Good w)∧(Vbcnam.step s (cOf pl ns)).2.length≤200:=by
  by_cases hp:pl=0
  · subst hp
    cases F with
    | begin n c p l hl =>
      show (∀ w,(Vbcnam.step s (.begin n c p l)).1=some w→Good w)∧(Vbcnam.step s (.begin n c p l)).2.length≤200
      rw [step_begin]
      split
      · exact ⟨h,by show 1≤200; decide⟩
      · rename_i hb
        have hb:=tf hb
        obtain ⟨_,h48,_,_,_,h4⟩:=canB_nat hb
        have hc:c.toNat≤10000:=by
          unfold canB Vbcnam.within at hb
          simp only [Bool.and_eq_true,decide_eq_true_eq] at hb
          omega
        refine ⟨fun w e=>?_,by show 1≤200; decide⟩
        have e:=Option.some.inj e
        subst e
        exact good0 h48 hc (by rw [List.length_map]; exact h4)
  · rw [show cOf pl ns=VbcnamNeutral.callOf (pl::ns) from rfl,step_world F hp s]
    cases s with
    | none=>exact ⟨fun w e=>(nomatch e),by show 1≤200; decide⟩
    | some w =>
      obtain ⟨a,b⟩:=good_in F (h w rfl) hp
      refine ⟨fun v e=>?_,b⟩
      have e:=Option.some.inj e
      subst e
      exact a
theorem within_bit {x:Int} (h:Vbcnam.within x 0 1=true):x=bt (x == 1):=by
  unfold Vbcnam.within at h
  simp only [Bool.and_eq_true,decide_eq_true_eq] at h
  have:x=0∨x=1:=by omega
  rcases this with rfl | rfl <;> rfl
theorem within_nat {x lo hi:Int} (h:Vbcnam.within x lo hi=true) (h0:0≤lo):x=(x.toNat:Int)∧lo≤x∧x≤hi:=by
  unfold Vbcnam.within at h
  simp only [Bool.and_eq_true,decide_eq_true_eq] at h
  omega
theorem in1 {a:Int} {r:Int × Int}:(inR [a] [r]).all id=Vbcnam.within a r.1 r.2:=by
  show (Vbcnam.within a r.1 r.2 && true)=_
  rw [Bool.and_true]
theorem in2 {a b:Int} {r s:Int × Int}:(inR [a,b] [r,s]).all id=(Vbcnam.within a r.1 r.2 && Vbcnam.within b s.1 s.2):=by
  show (Vbcnam.within a r.1 r.2 && (Vbcnam.within b s.1 s.2 && true))=_
  rw [Bool.and_true]
theorem in4 {a b c d:Int} {r s u v:Int × Int}:(inR [a,b,c,d] [r,s,u,v]).all id=(Vbcnam.within a r.1 r.2 && (Vbcnam.within b s.1 s.2 && (Vbcnam.within c u.1 u.2 && Vbcnam.within d v.1 v.2))):=by
  show (Vbcnam.within a r.1 r.2 && (Vbcnam.within b s.1 s.2 && (Vbcnam.within c u.1 u.2 && (Vbcnam.within d v.1 v.2 && true))))=_
  rw [Bool.and_true]
abbrev rP (w:VW):Int × Int:=(0,(w.ports.length:Int) - 1)
abbrev rS (w:VW):Int × Int:=(0,(w.supplies.length:Int) - 1)
section
variable {w:VW} {i x p e r m c:Int}
theorem port_of (h:Vbcnam.within p 0 ((w.ports.length:Int) - 1)=true):p=(p.toNat:Int)∧p.toNat < w.ports.length:=by
  have:=within_nat h (Int.le_refl _)
  omega
theorem rel_supply:((inR [i,x] [rS w,(0,1)]).all id=false→Vbcnam.inWorld w (.supply i x)=(w,[-1]))∧((inR [i,x] [rS w,(0,1)]).all id=true →
    ∃ (j:Nat) (b:Bool),[i,x]=[(j:Int),bt b]∧j < w.supplies.length∧Vbcnam.inWorld w (.supply i x)=if (sAt w j).on=b then (w,[-2]) else (Vbcnam.safe (setS w j b),Vbcnam.powers (Vbcnam.safe (setS w j b)))):=by
  rw [in2]
  refine ⟨fun h=>if_pos h,fun h=>?_⟩
  obtain ⟨h1,h2⟩:=Bool.and_eq_true_iff.mp h
  have a1:=within_nat h1 (Int.le_refl _)
  refine ⟨i.toNat,x == 1,by rw [← within_bit h2,← a1.1],by have:=a1.2.2; have:i≤(w.supplies.length:Int) - 1:=this; omega,?_⟩
  exact if_neg (by rw [show (Vbcnam.within i 0 ((w.supplies.length:Int) - 1) && Vbcnam.within x 0 1)=true from h]; decide)
theorem rel_spare:((inR [x] [(0,1)]).all id=false→Vbcnam.inWorld w (.spare x)=(w,[-1]))∧((inR [x] [(0,1)]).all id=true→∃ b:Bool,[x]=[bt b]∧Vbcnam.inWorld w (.spare x)=({ w with spare:=b },Vbcnam.powers { w with spare:=b })):=by
  rw [in1]
  refine ⟨fun h=>if_pos h,fun h=>⟨x == 1,by rw [← within_bit h],if_neg (by rw [show Vbcnam.within x 0 1=true from h]; decide)⟩⟩
theorem rel_port:((inR [p,e,r,m] [rP w,(0,1),(0,3),(0,100000)]).all id=false→Vbcnam.inWorld w (.port p e r m)=(w,[-1]))∧((inR [p,e,r,m] [rP w,(0,1),(0,3),(0,100000)]).all id=true →
    ∃ (j rk mo:Nat) (b:Bool),[p,e,r,m]=[(j:Int),bt b,(rk:Int),(mo:Int)]∧j < w.ports.length ∧
      Vbcnam.inWorld w (.port p e r m)=(setP w j (if b=false then Vbcnam.cut { pAt w j with enabled:=b,rank:=rk,most:=mo } else { pAt w j with enabled:=b,rank:=rk,most:=mo }),[0])):=by
  rw [in4]
  refine ⟨fun h=>if_pos h,fun h=>?_⟩
  obtain ⟨h1,h2⟩:=Bool.and_eq_true_iff.mp h
  obtain ⟨h2,h3⟩:=Bool.and_eq_true_iff.mp h2
  obtain ⟨h3,h4⟩:=Bool.and_eq_true_iff.mp h3
  obtain ⟨a1,a2⟩:=port_of h1
  have b1:=within_bit h2
  refine ⟨p.toNat,r.toNat,m.toNat,e == 1,by rw [← b1,← a1,← (within_nat h3 (by decide)).1,← (within_nat h4 (by decide)).1],a2,?_⟩
  have z:Vbcnam.inWorld w (.port p e r m)=(Vbcnam.setPort w p.toNat (if e=0 then Vbcnam.cut { pAt w p.toNat with enabled:=e == 1,rank:=r.toNat,most:=m.toNat } else { pAt w p.toNat with enabled:=e == 1,rank:=r.toNat,most:=m.toNat }),[0]):=if_neg (by rw [show (Vbcnam.isPort w p && (Vbcnam.within e 0 1 && (Vbcnam.within r 0 3 && Vbcnam.within m 0 100000)))=true from h]; decide)
  rw [z]
  have:(e=0)↔((e == 1)=false):=by
    have:e=0∨e=1:=by have:=within_nat h2 (Int.le_refl _); have h:e≤1:=this.2.2; have h':0≤e:=this.2.1; omega
    rcases this with rfl | rfl <;> decide
  by_cases he:e=0
  · rw [if_pos he,if_pos (this.mp he)]
  · rw [if_neg he,if_neg (fun q=>he (this.mpr q))]
theorem rel_plug:((inR [p,c] [rP w,(1,4)]).all id=false→Vbcnam.inWorld w (.plug p c)=(w,[-1]))∧((inR [p,c] [rP w,(1,4)]).all id=true →
    ∃ i c':Nat,[p,c]=[(i:Int),(c':Int)]∧i < w.ports.length∧Vbcnam.inWorld w (.plug p c)=if (pAt w i).device.isSome=true then (w,[-2]) else (setP w i { pAt w i with device:=some { cls:=c' } },[0])):=by
  rw [in2]
  refine ⟨fun h=>if_pos h,fun h=>?_⟩
  obtain ⟨h1,h2⟩:=Bool.and_eq_true_iff.mp h
  obtain ⟨a1,a2⟩:=port_of h1
  exact ⟨p.toNat,c.toNat,by rw [← a1,← (within_nat h2 (by decide)).1],a2,if_neg (by rw [show (Vbcnam.isPort w p && Vbcnam.within c 1 4)=true from h]; decide)⟩
theorem rel_unplug:((inR [p] [rP w]).all id=false→Vbcnam.inWorld w (.unplug p)=(w,[-1]))∧((inR [p] [rP w]).all id=true →
    ∃ i:Nat,[p]=[(i:Int)]∧i < w.ports.length∧Vbcnam.inWorld w (.unplug p)=if (pAt w i).device=none then (w,[-2]) else (setP w i { Vbcnam.cut (pAt w i) with device:=none },[0])):=by
  rw [in1]
  refine ⟨fun h=>if_pos h,fun h=>?_⟩
  obtain ⟨a1,a2⟩:=port_of h
  exact ⟨p.toNat,by rw [← a1],a2,if_neg (by rw [show Vbcnam.isPort w p=true from h]; decide)⟩
theorem rel_clear:((inR [p] [rP w]).all id=false→Vbcnam.inWorld w (.clear p)=(w,[-1]))∧((inR [p] [rP w]).all id=true →
    ∃ i:Nat,[p]=[(i:Int)]∧i < w.ports.length∧Vbcnam.inWorld w (.clear p)=if (pAt w i).faulty=false then (w,[-2]) else (setP w i { pAt w i with faulty:=false },[0])):=by
  rw [in1]
  refine ⟨fun h=>if_pos h,fun h=>?_⟩
  obtain ⟨a1,a2⟩:=port_of h
  exact ⟨p.toNat,by rw [← a1],a2,if_neg (by rw [show Vbcnam.isPort w p=true from h]; decide)⟩
theorem rel_again:((inR [p] [rP w]).all id=false→Vbcnam.inWorld w (.again p)=(w,[-1]))∧((inR [p] [rP w]).all id=true →
    ∃ i:Nat,[p]=[(i:Int)]∧i < w.ports.length∧Vbcnam.inWorld w (.again p)=if (pAt w i).on=false then (w,[-3]) else if Vbcnam.full w=true then (w,[-4]) else (Vbcnam.put w (Vbcnam.tellsGrant i (pAt w i)),[0])):=by
  rw [in1]
  refine ⟨fun h=>if_pos h,fun h=>?_⟩
  obtain ⟨a1,a2⟩:=port_of h
  exact ⟨p.toNat,by rw [← a1],a2,if_neg (by rw [show Vbcnam.isPort w p=true from h]; decide)⟩
theorem rel_fault:((inR [p] [rP w]).all id=false→Vbcnam.inWorld w (.fault p)=(w,[-1]))∧((inR [p] [rP w]).all id=true →
    ∃ i:Nat,[p]=[(i:Int)]∧i < w.ports.length∧Vbcnam.inWorld w (.fault p)=if refuse (pAt w i) < 0 then (w,[refuse (pAt w i)]) else (setP w i { Vbcnam.cut (pAt w i) with faulty:=true },[0])):=by
  rw [in1]
  refine ⟨fun h=>if_pos h,fun h=>?_⟩
  obtain ⟨a1,a2⟩:=port_of h
  refine ⟨p.toNat,by rw [← a1],a2,?_⟩
  have z:Vbcnam.inWorld w (.fault p)=if (pAt w p.toNat).device=none then (w,[-2]) else if (pAt w p.toNat).on=false then (w,[-3]) else (setP w p.toNat { Vbcnam.cut (pAt w p.toNat) with faulty:=true },[0]):=if_neg (by rw [show Vbcnam.isPort w p=true from h]; decide)
  rw [z]
  rcases refuse_cases (pAt w p.toNat) with ⟨d,q⟩ | ⟨y,d,o,q⟩ | ⟨y,d,o,q⟩
  · rw [q,if_pos d]; rfl
  · rw [q,if_neg (by rw [d]; simp),if_pos o]; rfl
  · rw [q,if_neg (by rw [d]; simp),if_neg (by rw [o]; decide)]; rfl
theorem rel_draw:((inR [p,m] [rP w,(0,100000)]).all id=false→Vbcnam.inWorld w (.draw p m)=(w,[-1]))∧((inR [p,m] [rP w,(0,100000)]).all id=true →
    ∃ i m':Nat,[p,m]=[(i:Int),(m':Int)]∧i < w.ports.length∧Vbcnam.inWorld w (.draw p m)=if refuse (pAt w i) < 0 then (w,[refuse (pAt w i)]) else
      (setP w i { pAt w i with device:=some { dOf (pAt w i) with draws:=min m' (dOf (pAt w i)).limit } },[0,((min m' (dOf (pAt w i)).limit:Nat):Int)])):=by
  rw [in2]
  refine ⟨fun h=>if_pos h,fun h=>?_⟩
  obtain ⟨h1,h2⟩:=Bool.and_eq_true_iff.mp h
  obtain ⟨a1,a2⟩:=port_of h1
  refine ⟨p.toNat,m.toNat,by rw [← a1,← (within_nat h2 (by decide)).1],a2,?_⟩
  have z:Vbcnam.inWorld w (.draw p m)=match (pAt w p.toNat).device with
      | none=>(w,[-2])
      | some d=>if (pAt w p.toNat).on=false then (w,[-3]) else (Vbcnam.setPort w p.toNat { pAt w p.toNat with device:=some { d with draws:=min m.toNat d.limit } },0::Vbcnam.nums [min m.toNat d.limit]):=if_neg (by rw [show (Vbcnam.isPort w p && Vbcnam.within m 0 100000)=true from h]; decide)
  rw [z]
  rcases refuse_cases (pAt w p.toNat) with ⟨d,q⟩ | ⟨y,d,o,q⟩ | ⟨y,d,o,q⟩
  · rw [q,d]; rfl
  · rw [q,d]
    show (if _ then _ else _)=_
    rw [if_pos o]; rfl
  · rw [q,d]
    show (if _ then _ else _)=_
    rw [if_neg (by rw [o]; decide)]
    unfold dOf
    rw [d]
    rfl
theorem rel_wish:((inR [p,m] [rP w,(0,100000)]).all id=false→Vbcnam.inWorld w (.wish p m)=(w,[-1]))∧((inR [p,m] [rP w,(0,100000)]).all id=true →
    ∃ i m':Nat,[p,m]=[(i:Int),(m':Int)]∧i < w.ports.length∧Vbcnam.inWorld w (.wish p m)=if refuse (pAt w i) < 0 then (w,[refuse (pAt w i)]) else if Vbcnam.full w=true then (w,[-4]) else
        (Vbcnam.put (setP w i { pAt w i with device:=some { dOf (pAt w i) with asked:=(dOf (pAt w i)).asked + 1 } }) (.wish i (dOf (pAt w i)).session ((dOf (pAt w i)).asked + 1) m'),[0,((dOf (pAt w i)).asked:Int) + 1])):=by
  rw [in2]
  refine ⟨fun h=>if_pos h,fun h=>?_⟩
  obtain ⟨h1,h2⟩:=Bool.and_eq_true_iff.mp h
  obtain ⟨a1,a2⟩:=port_of h1
  refine ⟨p.toNat,m.toNat,by rw [← a1,← (within_nat h2 (by decide)).1],a2,?_⟩
  have z:Vbcnam.inWorld w (.wish p m)=match (pAt w p.toNat).device with
      | none=>(w,[-2])
      | some d=>if (pAt w p.toNat).on=false then (w,[-3]) else if Vbcnam.full w=true then (w,[-4]) else (Vbcnam.put (Vbcnam.setPort w p.toNat { pAt w p.toNat with device:=some { d with asked:=d.asked + 1 } }) (.wish p.toNat d.session (d.asked + 1) m.toNat),[0,(d.asked:Int) + 1]):=if_neg (by rw [show (Vbcnam.isPort w p && Vbcnam.within m 0 100000)=true from h]; decide)
  rw [z]
  rcases refuse_cases (pAt w p.toNat) with ⟨d,q⟩ | ⟨y,d,o,q⟩ | ⟨y,d,o,q⟩
  · rw [q,d]; rfl
  · rw [q,d]
    show (if _ then _ else _)=_
    rw [if_pos o]; rfl
  · rw [q,d]
    show (if _ then _ else _)=_
    rw [if_neg (by rw [o]; decide)]
    unfold dOf
    rw [d]
    rfl
end
abbrev rM (w:VW):Int × Int:=(0,(w.bag.length:Int) - 1)
section
variable {w:VW} {k p n:Int}
theorem place_of (h:Vbcnam.within k 0 ((w.bag.length:Int) - 1)=true):k=(k.toNat:Int)∧k.toNat < w.bag.length:=by
  have:=within_nat h (Int.le_refl _)
  omega
theorem rel_deliver (G:Good w):((inR [k] [rM w]).all id=false→Vbcnam.inWorld w (.deliver k)=(w,[-1]))∧((inR [k] [rM w]).all id=true →
    ∃ j:Nat,[k]=[(j:Int)]∧Good w∧j < w.bag.length∧Vbcnam.inWorld w (.deliver k)=(Vbcnam.delivered w j,[0,((Vbcnam.delivered w j).bag.length:Int)])):=by
  rw [in1]
  refine ⟨fun h=>if_pos h,fun h=>?_⟩
  obtain ⟨a1,a2⟩:=place_of h
  exact ⟨k.toNat,by rw [← a1],G,a2,if_neg (by rw [show Vbcnam.isPlace w k=true from h]; decide)⟩
theorem rel_lose:((inR [k] [rM w]).all id=false→Vbcnam.inWorld w (.lose k)=(w,[-1]))∧((inR [k] [rM w]).all id=true →
    ∃ j:Nat,[k]=[(j:Int)]∧j < w.bag.length∧Vbcnam.inWorld w (.lose k)=({ w with bag:=w.bag.eraseIdx j },[0])):=by
  rw [in1]
  refine ⟨fun h=>if_pos h,fun h=>?_⟩
  obtain ⟨a1,a2⟩:=place_of h
  exact ⟨k.toNat,by rw [← a1],a2,if_neg (by rw [show Vbcnam.isPlace w k=true from h]; decide)⟩
theorem rel_double:((inR [k] [rM w]).all id=false→Vbcnam.inWorld w (.double k)=(w,[-1]))∧((inR [k] [rM w]).all id=true →
    ∃ j:Nat,[k]=[(j:Int)]∧j < w.bag.length∧Vbcnam.inWorld w (.double k)=if Vbcnam.full w=true then (w,[-4]) else ({ w with bag:=w.bag ++ (w.bag[j]?).toList },[0])):=by
  rw [in1]
  refine ⟨fun h=>if_pos h,fun h=>?_⟩
  obtain ⟨a1,a2⟩:=place_of h
  exact ⟨k.toNat,by rw [← a1],a2,if_neg (by rw [show Vbcnam.isPlace w k=true from h]; decide)⟩
theorem rel_peek:((inR [k] [rM w]).all id=false→Vbcnam.inWorld w (.peek k)=(w,[-1]))∧((inR [k] [rM w]).all id=true →
    ∃ j:Nat,[k]=[(j:Int)]∧j < w.bag.length∧Vbcnam.inWorld w (.peek k)=(w,0::((w.bag[j]?).map Vbcnam.shown).getD [])):=by
  rw [in1]
  refine ⟨fun h=>if_pos h,fun h=>?_⟩
  obtain ⟨a1,a2⟩:=place_of h
  exact ⟨k.toNat,by rw [← a1],a2,if_neg (by rw [show Vbcnam.isPlace w k=true from h]; decide)⟩
theorem rel_tick:((inR [n] [(0,1000000)]).all id=false→Vbcnam.inWorld w (.tick n)=(w,[-1]))∧((inR [n] [(0,1000000)]).all id=true →
    ∃ j:Nat,[n]=[(j:Int)]∧j≤1000000∧Vbcnam.inWorld w (.tick n)=if Vbcnam.TIMES < w.now + j then (w,[-2]) else ({ w with now:=w.now + j,could:=w.could + Vbcnam.can w * j,ports:=w.ports.map (tickP j) },[0,((w.now + j:Nat):Int)])):=by
  rw [in1]
  refine ⟨fun h=>if_pos h,fun h=>?_⟩
  obtain ⟨a1,a2,a3⟩:=within_nat h (Int.le_refl _)
  have a3:n≤1000000:=a3
  exact ⟨n.toNat,by rw [← a1],by omega,if_neg (by rw [show Vbcnam.within n 0 1000000=true from h]; decide)⟩
theorem rel_look:((inR [p] [rP w]).all id=false→Vbcnam.inWorld w (.look p)=(w,[-1]))∧((inR [p] [rP w]).all id=true →
    ∃ i:Nat,[p]=[(i:Int)]∧i < w.ports.length∧Vbcnam.inWorld w (.look p)=(w,0::porL (pAt w i) (graL (pAt w i).grants))):=by
  rw [in1]
  refine ⟨fun h=>if_pos h,fun h=>?_⟩
  obtain ⟨a1,a2⟩:=port_of h
  exact ⟨p.toNat,by rw [← a1],a2,if_neg (by rw [show Vbcnam.isPort w p=true from h]; decide)⟩
theorem rel_device:((inR [p] [rP w]).all id=false→Vbcnam.inWorld w (.device p)=(w,[-1]))∧((inR [p] [rP w]).all id=true →
    ∃ i:Nat,[p]=[(i:Int)]∧i < w.ports.length∧Vbcnam.inWorld w (.device p)=match (pAt w i).device with | none=>(w,[-2]) | some y=>(w,0::devL y)):=by
  rw [in1]
  refine ⟨fun h=>if_pos h,fun h=>?_⟩
  obtain ⟨a1,a2⟩:=port_of h
  refine ⟨p.toNat,by rw [← a1],a2,?_⟩
  have z:Vbcnam.inWorld w (.device p)=match (pAt w p.toNat).device with
      | none=>(w,[-2])
      | some d=>(w,0::Vbcnam.nums [d.cls,d.session,d.number,d.limit,d.draws,d.asked]):=if_neg (by rw [show Vbcnam.isPort w p=true from h]; decide)
  rw [z]
  cases (pAt w p.toNat).device <;> rfl
end
def DefIn (K:PySem.W.Frag) (x q:Str) (st:Stmt):Prop:=∃ (f:Addr) (oc:Value) (od:Option Addr) (kV dc pm:Value) (an:Option Addr) (cd ct:Value) (sl:Array (Option Value)),PySem.W.nsIn K mainGlobals x=some (some (.ref f)) ∧
  K.lookup f=some ⟨oc,od,.func (PySem.W.fnOf x q (defArgs st) (defBody st) (defScope st) .none kV dc pm an cd ct),sl⟩∧PySem.W.codeIn K cd q=true∧PySem.W.keepIn K (.ref f)=true
def ClsIn (K:PySem.W.Frag) (x q:Str) (C:Addr) (st:Stmt):Prop:=PySem.W.nsIn K mainGlobals x=some (some (.ref C))∧Cls K C∧∃ (f:Addr) (oc:Value) (od:Option Addr) (kV dc pm:Value) (an:Option Addr) (cd ct:Value) (sl:Array (Option Value)),Mk K C f ∧
  K.lookup f=some ⟨oc,od,.func (PySem.W.fnOf "__init__" q (defArgs st) (defBody st) (defScope st) .none kV dc pm an cd ct),sl⟩∧PySem.W.codeIn K cd q=true∧PySem.W.keepIn K (.ref f)=true
theorem def_mk {K:PySem.W.Frag} {x q:Str} {st:Stmt} {f:Addr} {oc:Value} {od:Option Addr} {kV dc pm:Value} {an:Option Addr} {cd ct:Value} {sl:Array (Option Value)} (a:PySem.W.nsIn K mainGlobals x=some (some (.ref f)))
    (l:K.lookup f=some ⟨oc,od,.func (PySem.W.fnOf x q (defArgs st) (defBody st) (defScope st) .none kV dc pm an cd ct),sl⟩) (c:PySem.W.codeIn K cd q=true) (k:PySem.W.keepIn K (.ref f)=true):DefIn K x q st:=⟨f,oc,od,kV,dc,pm,an,cd,ct,sl,a,l,c,k⟩
theorem cls_mk {K:PySem.W.Frag} {x q:Str} {C:Addr} {st:Stmt} {f:Addr} {oc:Value} {od:Option Addr} {kV dc pm:Value} {an:Option Addr} {cd ct:Value} {sl:Array (Option Value)} (n:PySem.W.nsIn K mainGlobals x=some (some (.ref C))) (cl:Cls K C) (m:Mk K C f)
    (l:K.lookup f=some ⟨oc,od,.func (PySem.W.fnOf "__init__" q (defArgs st) (defBody st) (defScope st) .none kV dc pm an cd ct),sl⟩) (c:PySem.W.codeIn K cd q=true) (k:PySem.W.keepIn K (.ref f)=true):ClsIn K x q C st:=⟨n,cl,f,oc,od,kV,dc,pm,an,cd,ct,sl,m,l,c,k⟩
theorem int_mk {K:PySem.W.Frag} {x:Str} {v:Int} {t:Tok} (e:PySem.W.nsIn K mainGlobals x=some (some (.int v t))):∃ t,PySem.W.nsIn K mainGlobals x=some (some (.int v t)):=⟨t,e⟩
section
variable {P:Program} {w:PySem.World} {K:PySem.W.Frag} {mg:Str→Option Value} {base h:Heap} {k:Nat} {ps:List Str} {sp:Sp} {x q:Str} {st:Stmt} {C:Addr}
theorem DefIn.known (d:DefIn K x q st) (X:K.In h) (G:h.Ns mainGlobals mg) (ok:∀ f fd,Fun K x q st f fd→FnOk P w K mg base CX0 k f fd ps sp)
    (hb:∀ (kV doc pm:Value) (an:Option Addr) (cdv ct:Value) (us:List Value),us.length=ps.length→bindArgs (PySem.W.fnOf x q (defArgs st) (defBody st) (defScope st) .none kV doc pm an cdv ct) ⟨us,[]⟩=pure (ps.zip us)):Known P w K mg base x k ps sp:=by
  obtain ⟨f,oc,od,kV,dc,pm,an,cd,ct,sl,a,l,c,kp⟩:=d
  have F:=fun_mk (st:=st) l c kp
  exact ⟨f,_,ok f _ F,PySem.W.mg_of X G a,kp,F.binds hb⟩
theorem ClsIn.known {C:Addr} (d:ClsIn K x q C st) (X:K.In h) (G:h.Ns mainGlobals mg) (ok:∀ f fd,Fun K "__init__" q st f fd→FnOk P w K mg base CX0 k f fd ps sp)
    (hb:∀ (kV doc pm:Value) (an:Option Addr) (cdv ct:Value) (us:List Value),us.length=ps.length→bindArgs (PySem.W.fnOf "__init__" q (defArgs st) (defBody st) (defScope st) .none kV doc pm an cdv ct) ⟨us,[]⟩=pure (ps.zip us)):KnownC P w K mg base x C k ps sp:=by
  obtain ⟨a,_,f,oc,od,kV,dc,pm,an,cd,ct,sl,M,l,c,kp⟩:=d
  have F:=fun_mk (st:=st) l c kp
  exact ⟨f,_,ok f _ F,PySem.W.mg_of X G a,M,F.binds hb⟩
end
theorem abs_rel {u:Value} {x:V} (h:absV u=some x):RelV x u:=by
  cases u <;> first | (cases h; first | rfl | exact ⟨_,rfl⟩) | exact absurd h (by simp [absV])
def absVs:List Value→Option (List V)
  | []=>some []
  | u::us=>match absV u,absVs us with
    | some x,some xs=>some (x::xs)
    | _,_=>none
theorem absVs_vals:∀ {us:List Value} {xs:List V},absVs us=some xs→Vals xs us
  | [],xs,h=>by cases h; exact .nil
  | u::us,xs,h=>by
    unfold absVs at h
    cases e1:absV u with
    | none=>rw [e1] at h; cases h
    | some x =>
      cases e2:absVs us with
      | none=>rw [e1,e2] at h; cases h
      | some ys=>rw [e1,e2] at h; cases h; exact .cons (abs_rel e1) (absVs_vals e2)
def tupIn (K:PySem.W.Frag) (a:Addr):Option (List V):=match K.lookup a with
  | some o=>match o.cls,o.data with
    | .type "tuple",.seq its _=>if its.size≤1000 then absVs its.toList else none
    | _,_=>none
  | none=>none
theorem tup_sq {K:PySem.W.Frag} {a:Addr} {xs:List V} (h:tupIn K a=some xs) (H:Hp):SqT K H a xs:=by
  unfold tupIn at h
  cases e:K.lookup a with
  | none=>rw [e] at h; cases h
  | some o =>
    rw [e] at h
    dsimp only at h
    split at h
    · rename_i its n h1 h2
      split at h
      · rename_i hz
        exact .inr ⟨o,its,n,e,h1,h2,Nat.le_trans hz (by decide),absVs_vals h⟩
      · cases h
    · cases h
theorem map_mk {P:Program} {w:PySem.World} {K:PySem.W.Frag} {a:Addr} {ep:Nat} (l:List (Str × Tok × Addr)) (h:K.lookup a=some ⟨.type "dict",none,.dict (l.map fun x=>(⟨PyData.keyHash w.params x.1,.str x.1 x.2.1,.ref x.2.2⟩:DictEntry)).toArray ep,#[]⟩) (hn:(l.map fun x=>x.1).Nodup) :
    KMap P w K a (l.map fun x=>((Sum.inr x.1:Key),Value.ref x.2.2)):=by
  refine ⟨_,h,_,ep,⟨rfl,rfl,rfl⟩,rfl,?_,?_,?_⟩
  · intro e he
    have he:e ∈ (l.map fun x=>(⟨PyData.keyHash w.params x.1,.str x.1 x.2.1,.ref x.2.2⟩:DictEntry)):=by simpa using he
    obtain ⟨x,_,rfl⟩:=List.mem_map.mp he
    exact ⟨.inr x.1,keyIs_str x.1 x.2.1,rfl⟩
  · show Pairs _ (l.map _) _
    clear h hn
    induction l with
    | nil=>exact .nil
    | cons x l ih=>exact .cons (keyIs_str x.1 x.2.1) rfl ih
  · rw [List.map_map]
    show (l.map fun x=>(Sum.inr x.1:Key)).Nodup
    rw [show (fun x:Str × Tok × Addr=>(Sum.inr x.1:Key))=Sum.inr ∘ (fun x=>x.1) from rfl,← List.map_map]
    exact List.pairwise_map.mpr (List.Pairwise.imp (fun h e=>h (Sum.inr.inj e)) hn)
def dictL (K:PySem.W.Frag) (a:Addr):List (Str × Tok × Addr):=match K.lookup a with
  | some o=>match o.data with
    | .dict es _=>es.toList.filterMap fun e=>match e.key,e.val with
      | .str x t,.ref b=>some (x,t,b)
      | _,_=>none
    | _=>[]
  | none=>[]
def dictN (K:PySem.W.Frag) (a:Addr):Nat:=match K.lookup a with
  | some o=>match o.data with
    | .dict _ n=>n
    | _=>0
  | none=>0
def okR (K:PySem.W.Frag):List (Str × Int × Int)→List (Str × Tok × Addr)→Bool
  | [],[]=>true
  | (x,lo,hi)::R,(y,_,a)::l=>decide (x=y) && (decide (tupIn K a=some [.int lo,.int hi]) && okR K R l)
  | _,_=>false
theorem okR_at {K:PySem.W.Frag}:∀ {R:List (Str × Int × Int)} {l:List (Str × Tok × Addr)},okR K R l=true→∀ x lo hi,R.lookup x=some (lo,hi)→∃ b,valueAt (l.map fun x=>((Sum.inr x.1:Key),Value.ref x.2.2)) (.inr x)=some (.ref b)∧∀ H:Hp,SqT K H b [.int lo,.int hi]
  | [],[],_,x,lo,hi,h=>nomatch h
  | (y,l0,h0)::R,(z,t,a)::l,ok,x,lo,hi,h=>by
    obtain ⟨h1,h2⟩:=Bool.and_eq_true_iff.mp ok
    obtain ⟨h2,h3⟩:=Bool.and_eq_true_iff.mp h2
    have e1:=of_decide_eq_true h1
    have e2:=of_decide_eq_true h2
    subst e1
    by_cases hx:x=y
    · subst hx
      rw [List.lookup_cons_self] at h
      obtain ⟨rfl,rfl⟩:=Prod.mk.inj (Option.some.inj h)
      refine ⟨a,?_,tup_sq e2⟩
      show (List.find? _ ((Sum.inr x,Value.ref a)::_)).map _=_
      rw [List.find?_cons,show decide ((Sum.inr x:Key)=Sum.inr x)=true from decide_eq_true rfl]
      rfl
    · rw [List.lookup_cons,show (x == y)=false from beq_eq_false_iff_ne.mpr hx] at h
      obtain ⟨b,e,s⟩:=okR_at h3 x lo hi h
      refine ⟨b,?_,s⟩
      show (List.find? _ ((Sum.inr y,Value.ref a)::_)).map _=_
      rw [List.find?_cons,show decide ((Sum.inr y:Key)=Sum.inr x)=false from decide_eq_false (fun q=>hx (Sum.inr.inj q).symm)]
      exact e
  | [],_::_,ok,_,_,_,_=>nomatch ok
  | _::_,[],ok,_,_,_,_=>nomatch ok
def tupRefs (K:PySem.W.Frag) (a:Addr):List Addr:=match tupIn K a with
  | some xs=>xs.filterMap fun x=>match x with
    | .ref b=>some b
    | _=>none
  | none=>[]
def okN (K:PySem.W.Frag):List (List Str)→List Addr→Bool
  | [],[]=>true
  | l::N,a::as=>decide (tupIn K a=some (l.map V.str)) && okN K N as
  | _,_=>false
theorem okN_at {K:PySem.W.Frag}:∀ {N:List (List Str)} {as:List Addr},okN K N as=true→∀ (i:Nat) (l:List Str),N[i]?=some l→∃ b,as[i]?=some b∧∀ H:Hp,SqT K H b (l.map V.str)
  | [],[],_,i,l,h=>by simp at h
  | l0::N,a::as,ok,i,l,h=>by
    obtain ⟨h1,h2⟩:=Bool.and_eq_true_iff.mp ok
    cases i with
    | zero =>
      have e:l0=l:=by simpa using h
      subst e
      exact ⟨a,rfl,tup_sq (of_decide_eq_true h1)⟩
    | succ i=>exact okN_at (N:=N) (as:=as) h2 i l (by simpa using h)
  | [],_::_,ok,_,_,_=>nomatch ok
  | _::_,[],ok,_,_,_=>nomatch ok
section
variable {P:Program} {w:PySem.World} {K:PySem.W.Frag} {mg:Str→Option Value} {base h:Heap}
theorem adr_of {x:Str} {a:Addr} (e:PySem.W.nsIn K mainGlobals x=some (some (.ref a))):adr K x=a:=by
  unfold adr
  rw [e]
theorem txtD_mk (X:K.In h) (G:h.Ns mainGlobals mg) {a b:Addr} (ea:PySem.W.nsIn K mainGlobals "RANGES" = some (some (.ref a))) (eb:PySem.W.nsIn K mainGlobals "NUMBERS" = some (some (.ref b)))
    (la:K.lookup a=some ⟨.type "dict",none,.dict ((dictL K a).map fun x=>(⟨PyData.keyHash w.params x.1,.str x.1 x.2.1,.ref x.2.2⟩:DictEntry)).toArray (dictN K a),#[]⟩) (nd:decide ((dictL K a).map fun x=>x.1).Nodup=true) (oa:okR K RNG (dictL K a)=true)
    (tb:tupIn K b=some (refs (tupRefs K b))) (ob:okN K NUMB (tupRefs K b)=true):TxtD P w K mg where
  rng:=⟨a,_,PySem.W.mg_of X G ea,map_mk _ la (of_decide_eq_true nd),okR_at oa⟩
  num:=⟨b,tupRefs K b,PySem.W.mg_of X G eb,tup_sq tb,okN_at ob⟩
theorem DefIn.call {k:Nat} {ps:List Str} {sp:Sp} {x q:Str} {st:Stmt} (d:DefIn K x q st) (ok:∀ f fd,Fun K x q st f fd→FnOk P w K mg base CX0 k f fd ps sp)
    (hb:∀ (kV doc pm:Value) (an:Option Addr) (cdv ct:Value) (us:List Value),us.length=ps.length→bindArgs (PySem.W.fnOf x q (defArgs st) (defBody st) (defScope st) .none kV doc pm an cdv ct) ⟨us,[]⟩=pure (ps.zip us)) :
    ∃ fd,FnOk P w K mg base CX0 k (adr K x) fd ps sp∧PySem.W.keepIn K (.ref (adr K x))=true∧Binds K fd ps []:=by
  obtain ⟨f,oc,od,kV,dc,pm,an,cd,ct,sl,a,l,c,kp⟩:=d
  have F:=fun_mk (st:=st) l c kp
  rw [adr_of a]
  exact ⟨_,ok f _ F,kp,F.binds hb⟩
end
open PySem.W (Codec)
theorem S_case (K:PySem.W.Frag) (T:Addr) (H:Hp) (xs:List V) (a:Codec.denoteAll PySem.Challenge.rw_wirepower_s01_answers.args) (hO:OnlyF H) (hN:H T=none) (hwi:Codec.withinAll PySem.Challenge.rw_wirepower_s01_answers.args a=true)
    (hask:Codec.app PySem.Challenge.rw_wirepower_s01_answers.args PySem.Challenge.rw_wirepower_s01_answers.asked a=true) (hx:DwAll K H xs (Codec.encAll PySem.Challenge.rw_wirepower_s01_answers.args a)) :
    spMain K (casOf K T) xs (tabH T H) (fun v H'=>Dw K H' v (PySem.Challenge.rw_wirepower_s01_answers.ret.enc (Codec.app PySem.Challenge.rw_wirepower_s01_answers.args PySem.Challenge.rw_wirepower_s01_answers.f a))) fun _ _ _=>False:=by
  change Codec.denoteAll [.list 0 16000 (.int (-1000000000000000000) 1000000000000000000)] at a
  obtain ⟨l,u⟩:=a
  have h1:(Codec.inList 0 16000 (Codec.inInt (-1000000000000000000) 1000000000000000000) l && true)=true:=hwi
  have h2:=(Bool.and_eq_true_iff.mp (Bool.and_eq_true_iff.mp h1).1).1
  have h3:l.length≤16000:=by
    have h2:Codec.inNat 0 16000 l.length=true:=h2
    unfold Codec.inNat at h2
    have:=Bool.and_eq_true_iff.mp h2
    exact of_decide_eq_true this.2
  exact S_main (l:=l) hN h3 hask hx
def CALLN:List Str:=["answer_supply","answer_spare","answer_port","answer_plug","answer_unplug","answer_settle","answer_wish","answer_draw","answer_fault","answer_clear","answer_again","answer_deliver","answer_lose","answer_double","answer_calm","answer_tick","answer_look","answer_device","answer_power","answer_plan","answer_peek","answer_state"]
def CallDef (P:Program) (w:PySem.World) (K:PySem.W.Frag) (mg:Str→Option Value) (base:Heap) (t:Cas) (kk:Nat) (x:Str) (pre:VW→List Int→VW × List Int→Prop):Prop:=∃ j fd,j≤kk∧FnOk P w K mg base CX0 j (adr K x) fd ["world","numbers"] (spC t pre)∧PySem.W.keepIn K (.ref (adr K x))=true∧Binds K fd ["world","numbers"] []
def pre_answer_supply:VW→List Int→VW × List Int→Prop:=fun w ns r=>∃ (i:Nat) (b:Bool),ns=[(i:Int),bt b]∧i < w.supplies.length∧r=if (sAt w i).on=b then (w,[-2]) else (Vbcnam.safe (setS w i b),Vbcnam.powers (Vbcnam.safe (setS w i b)))
def pre_answer_spare:VW→List Int→VW × List Int→Prop:=fun w ns r=>∃ b:Bool,ns=[bt b]∧r=({ w with spare:=b },Vbcnam.powers { w with spare:=b })
def pre_answer_port:VW→List Int→VW × List Int→Prop:=fun w ns r=>∃ (i rk mo:Nat) (b:Bool),ns=[(i:Int),bt b,(rk:Int),(mo:Int)]∧i < w.ports.length ∧
      r=(setP w i (if b=false then Vbcnam.cut { pAt w i with enabled:=b,rank:=rk,most:=mo } else { pAt w i with enabled:=b,rank:=rk,most:=mo }),[0])
def pre_answer_plug:VW→List Int→VW × List Int→Prop:=fun w ns r=>∃ i c:Nat,ns=[(i:Int),(c:Int)]∧i < w.ports.length∧r=if (pAt w i).device.isSome=true then (w,[-2]) else (setP w i { pAt w i with device:=some { cls:=c } },[0])
def pre_answer_unplug:VW→List Int→VW × List Int→Prop:=fun w ns r=>∃ i:Nat,ns=[(i:Int)]∧i < w.ports.length∧r=if (pAt w i).device=none then (w,[-2]) else (setP w i { Vbcnam.cut (pAt w i) with device:=none },[0])
def pre_answer_settle:VW→List Int→VW × List Int→Prop:=fun w ns r=>r=(Vbcnam.settle w,Vbcnam.powers (Vbcnam.settle w))
def pre_answer_wish:VW→List Int→VW × List Int→Prop:=fun w ns r=>∃ i m:Nat,ns=[(i:Int),(m:Int)]∧i < w.ports.length ∧
      r=if refuse (pAt w i) < 0 then (w,[refuse (pAt w i)]) else if Vbcnam.full w=true then (w,[-4]) else
        (Vbcnam.put (setP w i { pAt w i with device:=some { dOf (pAt w i) with asked:=(dOf (pAt w i)).asked + 1 } }) (.wish i (dOf (pAt w i)).session ((dOf (pAt w i)).asked + 1) m),[0,((dOf (pAt w i)).asked:Int) + 1])
def pre_answer_draw:VW→List Int→VW × List Int→Prop:=fun w ns r=>∃ i m:Nat,ns=[(i:Int),(m:Int)]∧i < w.ports.length ∧
      r=if refuse (pAt w i) < 0 then (w,[refuse (pAt w i)]) else (setP w i { pAt w i with device:=some { dOf (pAt w i) with draws:=min m (dOf (pAt w i)).limit } },[0,((min m (dOf (pAt w i)).limit:Nat):Int)])
def pre_answer_fault:VW→List Int→VW × List Int→Prop:=fun w ns r=>∃ i:Nat,ns=[(i:Int)]∧i < w.ports.length∧r=if refuse (pAt w i) < 0 then (w,[refuse (pAt w i)]) else (setP w i { Vbcnam.cut (pAt w i) with faulty:=true },[0])
def pre_answer_clear:VW→List Int→VW × List Int→Prop:=fun w ns r=>∃ i:Nat,ns=[(i:Int)]∧i < w.ports.length∧r=if (pAt w i).faulty=false then (w,[-2]) else (setP w i { pAt w i with faulty:=false },[0])
def pre_answer_again:VW→List Int→VW × List Int→Prop:=fun w ns r=>∃ i:Nat,ns=[(i:Int)]∧i < w.ports.length ∧
      r=if (pAt w i).on=false then (w,[-3]) else if Vbcnam.full w=true then (w,[-4]) else (Vbcnam.put w (Vbcnam.tellsGrant i (pAt w i)),[0])
def pre_answer_deliver:VW→List Int→VW × List Int→Prop:=fun w ns r=>∃ k:Nat,ns=[(k:Int)]∧Good w∧k < w.bag.length∧r=(Vbcnam.delivered w k,[0,((Vbcnam.delivered w k).bag.length:Int)])
def pre_answer_lose:VW→List Int→VW × List Int→Prop:=fun w ns r=>∃ k:Nat,ns=[(k:Int)]∧k < w.bag.length∧r=({ w with bag:=w.bag.eraseIdx k },[0])
def pre_answer_double:VW→List Int→VW × List Int→Prop:=fun w ns r=>∃ k:Nat,ns=[(k:Int)]∧k < w.bag.length∧r=if Vbcnam.full w=true then (w,[-4]) else ({ w with bag:=w.bag ++ (w.bag[k]?).toList },[0])
def pre_answer_calm:VW→List Int→VW × List Int→Prop:=fun w ns r=>Good w∧r=((Vbcnam.calmed (2 * w.bag.length) w).1,[0,((Vbcnam.calmed (2 * w.bag.length) w).2:Int)])
def pre_answer_tick:VW→List Int→VW × List Int→Prop:=fun w ns r=>∃ n:Nat,ns=[(n:Int)]∧n≤1000000 ∧
      r=if Vbcnam.TIMES < w.now + n then (w,[-2]) else ({ w with now:=w.now + n,could:=w.could + Vbcnam.can w * n,ports:=w.ports.map (tickP n) },[0,((w.now + n:Nat):Int)])
def pre_answer_look:VW→List Int→VW × List Int→Prop:=fun w ns r=>∃ i:Nat,ns=[(i:Int)]∧i < w.ports.length∧r=(w,0::porL (pAt w i) (graL (pAt w i).grants))
def pre_answer_device:VW→List Int→VW × List Int→Prop:=fun w ns r=>∃ i:Nat,ns=[(i:Int)]∧i < w.ports.length∧r=match (pAt w i).device with | none=>(w,[-2]) | some y=>(w,0::devL y)
def pre_answer_power:VW→List Int→VW × List Int→Prop:=fun w ns r=>r=(w,Vbcnam.powers w)
def pre_answer_plan:VW→List Int→VW × List Int→Prop:=fun w ns r=>r=(w,0::plaL w)
def pre_answer_peek:VW→List Int→VW × List Int→Prop:=fun w ns r=>∃ k:Nat,ns=[(k:Int)]∧k < w.bag.length∧r=(w,0::((w.bag[k]?).map Vbcnam.shown).getD [])
def pre_answer_state:VW→List Int→VW × List Int→Prop:=fun w ns r=>r=(w,0::staL w)
section
variable {P:Program} {w:PySem.World} {K:PySem.W.Frag} {mg:Str→Option Value} {base h:Heap} {t:Cas}
theorem calls_ok {kk:Nat} {aC:Addr} (mC:mg "CALLS" = some (.ref aC)) (sC:∀ H:Hp,SqT K H aC (.non::refs (CALLN.map (adr K))))
    (c_answer_supply:CallDef P w K mg base t kk "answer_supply" pre_answer_supply)
    (c_answer_spare:CallDef P w K mg base t kk "answer_spare" pre_answer_spare)
    (c_answer_port:CallDef P w K mg base t kk "answer_port" pre_answer_port)
    (c_answer_plug:CallDef P w K mg base t kk "answer_plug" pre_answer_plug)
    (c_answer_unplug:CallDef P w K mg base t kk "answer_unplug" pre_answer_unplug)
    (c_answer_settle:CallDef P w K mg base t kk "answer_settle" pre_answer_settle)
    (c_answer_wish:CallDef P w K mg base t kk "answer_wish" pre_answer_wish)
    (c_answer_draw:CallDef P w K mg base t kk "answer_draw" pre_answer_draw)
    (c_answer_fault:CallDef P w K mg base t kk "answer_fault" pre_answer_fault)
    (c_answer_clear:CallDef P w K mg base t kk "answer_clear" pre_answer_clear)
    (c_answer_again:CallDef P w K mg base t kk "answer_again" pre_answer_again)
    (c_answer_deliver:CallDef P w K mg base t kk "answer_deliver" pre_answer_deliver)
    (c_answer_lose:CallDef P w K mg base t kk "answer_lose" pre_answer_lose)
    (c_answer_double:CallDef P w K mg base t kk "answer_double" pre_answer_double)
    (c_answer_calm:CallDef P w K mg base t kk "answer_calm" pre_answer_calm)
    (c_answer_tick:CallDef P w K mg base t kk "answer_tick" pre_answer_tick)
    (c_answer_look:CallDef P w K mg base t kk "answer_look" pre_answer_look)
    (c_answer_device:CallDef P w K mg base t kk "answer_device" pre_answer_device)
    (c_answer_power:CallDef P w K mg base t kk "answer_power" pre_answer_power)
    (c_answer_plan:CallDef P w K mg base t kk "answer_plan" pre_answer_plan)
    (c_answer_peek:CallDef P w K mg base t kk "answer_peek" pre_answer_peek)
    (c_answer_state:CallDef P w K mg base t kk "answer_state" pre_answer_state)
   :CallsOk P w K mg base t kk Good:=by
  refine ⟨aC,CALLN.map (adr K),mC,sC,fun pl ns F=>?_⟩
  generalize e:(pl:Int) + 1=q at F
  cases F with
  | begin=>omega
  | supply i x =>
    obtain rfl:pl=0:=by omega
    refine ⟨["supply","bit"],rfl,rfl,by show 2≤100; decide,fun w G=>⟨G.ok,[rS w,(0,1)],by kernel_rfl,(rel_supply).1,fun h=>?_⟩⟩
    obtain ⟨j,fd,hj,F,kp,bd⟩:=c_answer_supply
    exact ⟨_,fd,j,_,rfl,hj,F,kp,bd,(rel_supply).2 h⟩
  | spare x =>
    obtain rfl:pl=1:=by omega
    refine ⟨["bit"],rfl,rfl,by show 1≤100; decide,fun w G=>⟨G.ok,[(0,1)],by kernel_rfl,(rel_spare).1,fun h=>?_⟩⟩
    obtain ⟨j,fd,hj,F,kp,bd⟩:=c_answer_spare
    exact ⟨_,fd,j,_,rfl,hj,F,kp,bd,(rel_spare).2 h⟩
  | port p e r m =>
    obtain rfl:pl=2:=by omega
    refine ⟨["port","bit","rank","amount"],rfl,rfl,by show 4≤100; decide,fun w G=>⟨G.ok,[rP w,(0,1),(0,3),(0,100000)],by kernel_rfl,(rel_port).1,fun h=>?_⟩⟩
    obtain ⟨j,fd,hj,F,kp,bd⟩:=c_answer_port
    exact ⟨_,fd,j,_,rfl,hj,F,kp,bd,(rel_port).2 h⟩
  | plug p c =>
    obtain rfl:pl=3:=by omega
    refine ⟨["port","class"],rfl,rfl,by show 2≤100; decide,fun w G=>⟨G.ok,[rP w,(1,4)],by kernel_rfl,(rel_plug).1,fun h=>?_⟩⟩
    obtain ⟨j,fd,hj,F,kp,bd⟩:=c_answer_plug
    exact ⟨_,fd,j,_,rfl,hj,F,kp,bd,(rel_plug).2 h⟩
  | unplug p =>
    obtain rfl:pl=4:=by omega
    refine ⟨["port"],rfl,rfl,by show 1≤100; decide,fun w G=>⟨G.ok,[rP w],by kernel_rfl,(rel_unplug).1,fun h=>?_⟩⟩
    obtain ⟨j,fd,hj,F,kp,bd⟩:=c_answer_unplug
    exact ⟨_,fd,j,_,rfl,hj,F,kp,bd,(rel_unplug).2 h⟩
  | settle =>
    obtain rfl:pl=5:=by omega
    refine ⟨[],rfl,rfl,by show 0≤100; decide,fun w G=>⟨G.ok,[],by kernel_rfl,(fun h=>nomatch h),fun h=>?_⟩⟩
    obtain ⟨j,fd,hj,F,kp,bd⟩:=c_answer_settle
    exact ⟨_,fd,j,_,rfl,hj,F,kp,bd,rfl⟩
  | wish p m =>
    obtain rfl:pl=6:=by omega
    refine ⟨["port","amount"],rfl,rfl,by show 2≤100; decide,fun w G=>⟨G.ok,[rP w,(0,100000)],by kernel_rfl,(rel_wish).1,fun h=>?_⟩⟩
    obtain ⟨j,fd,hj,F,kp,bd⟩:=c_answer_wish
    exact ⟨_,fd,j,_,rfl,hj,F,kp,bd,(rel_wish).2 h⟩
  | draw p m =>
    obtain rfl:pl=7:=by omega
    refine ⟨["port","amount"],rfl,rfl,by show 2≤100; decide,fun w G=>⟨G.ok,[rP w,(0,100000)],by kernel_rfl,(rel_draw).1,fun h=>?_⟩⟩
    obtain ⟨j,fd,hj,F,kp,bd⟩:=c_answer_draw
    exact ⟨_,fd,j,_,rfl,hj,F,kp,bd,(rel_draw).2 h⟩
  | fault p =>
    obtain rfl:pl=8:=by omega
    refine ⟨["port"],rfl,rfl,by show 1≤100; decide,fun w G=>⟨G.ok,[rP w],by kernel_rfl,(rel_fault).1,fun h=>?_⟩⟩
    obtain ⟨j,fd,hj,F,kp,bd⟩:=c_answer_fault
    exact ⟨_,fd,j,_,rfl,hj,F,kp,bd,(rel_fault).2 h⟩
  | clear p =>
    obtain rfl:pl=9:=by omega
    refine ⟨["port"],rfl,rfl,by show 1≤100; decide,fun w G=>⟨G.ok,[rP w],by kernel_rfl,(rel_clear).1,fun h=>?_⟩⟩
    obtain ⟨j,fd,hj,F,kp,bd⟩:=c_answer_clear
    exact ⟨_,fd,j,_,rfl,hj,F,kp,bd,(rel_clear).2 h⟩
  | again p =>
    obtain rfl:pl=10:=by omega
    refine ⟨["port"],rfl,rfl,by show 1≤100; decide,fun w G=>⟨G.ok,[rP w],by kernel_rfl,(rel_again).1,fun h=>?_⟩⟩
    obtain ⟨j,fd,hj,F,kp,bd⟩:=c_answer_again
    exact ⟨_,fd,j,_,rfl,hj,F,kp,bd,(rel_again).2 h⟩
  | deliver k =>
    obtain rfl:pl=11:=by omega
    refine ⟨["message"],rfl,rfl,by show 1≤100; decide,fun w G=>⟨G.ok,[rM w],by kernel_rfl,(rel_deliver G).1,fun h=>?_⟩⟩
    obtain ⟨j,fd,hj,F,kp,bd⟩:=c_answer_deliver
    exact ⟨_,fd,j,_,rfl,hj,F,kp,bd,(rel_deliver G).2 h⟩
  | lose k =>
    obtain rfl:pl=12:=by omega
    refine ⟨["message"],rfl,rfl,by show 1≤100; decide,fun w G=>⟨G.ok,[rM w],by kernel_rfl,(rel_lose).1,fun h=>?_⟩⟩
    obtain ⟨j,fd,hj,F,kp,bd⟩:=c_answer_lose
    exact ⟨_,fd,j,_,rfl,hj,F,kp,bd,(rel_lose).2 h⟩
  | double k =>
    obtain rfl:pl=13:=by omega
    refine ⟨["message"],rfl,rfl,by show 1≤100; decide,fun w G=>⟨G.ok,[rM w],by kernel_rfl,(rel_double).1,fun h=>?_⟩⟩
    obtain ⟨j,fd,hj,F,kp,bd⟩:=c_answer_double
    exact ⟨_,fd,j,_,rfl,hj,F,kp,bd,(rel_double).2 h⟩
  | calm =>
    obtain rfl:pl=14:=by omega
    refine ⟨[],rfl,rfl,by show 0≤100; decide,fun w G=>⟨G.ok,[],by kernel_rfl,(fun h=>nomatch h),fun h=>?_⟩⟩
    obtain ⟨j,fd,hj,F,kp,bd⟩:=c_answer_calm
    exact ⟨_,fd,j,_,rfl,hj,F,kp,bd,⟨G,rfl⟩⟩
  | tick t =>
    obtain rfl:pl=15:=by omega
    refine ⟨["time"],rfl,rfl,by show 1≤100; decide,fun w G=>⟨G.ok,[(0,1000000)],by kernel_rfl,(rel_tick).1,fun h=>?_⟩⟩
    obtain ⟨j,fd,hj,F,kp,bd⟩:=c_answer_tick
    exact ⟨_,fd,j,_,rfl,hj,F,kp,bd,(rel_tick).2 h⟩
  | look p =>
    obtain rfl:pl=16:=by omega
    refine ⟨["port"],rfl,rfl,by show 1≤100; decide,fun w G=>⟨G.ok,[rP w],by kernel_rfl,(rel_look).1,fun h=>?_⟩⟩
    obtain ⟨j,fd,hj,F,kp,bd⟩:=c_answer_look
    exact ⟨_,fd,j,_,rfl,hj,F,kp,bd,(rel_look).2 h⟩
  | device p =>
    obtain rfl:pl=17:=by omega
    refine ⟨["port"],rfl,rfl,by show 1≤100; decide,fun w G=>⟨G.ok,[rP w],by kernel_rfl,(rel_device).1,fun h=>?_⟩⟩
    obtain ⟨j,fd,hj,F,kp,bd⟩:=c_answer_device
    exact ⟨_,fd,j,_,rfl,hj,F,kp,bd,(rel_device).2 h⟩
  | power =>
    obtain rfl:pl=18:=by omega
    refine ⟨[],rfl,rfl,by show 0≤100; decide,fun w G=>⟨G.ok,[],by kernel_rfl,(fun h=>nomatch h),fun h=>?_⟩⟩
    obtain ⟨j,fd,hj,F,kp,bd⟩:=c_answer_power
    exact ⟨_,fd,j,_,rfl,hj,F,kp,bd,rfl⟩
  | plan =>
    obtain rfl:pl=19:=by omega
    refine ⟨[],rfl,rfl,by show 0≤100; decide,fun w G=>⟨G.ok,[],by kernel_rfl,(fun h=>nomatch h),fun h=>?_⟩⟩
    obtain ⟨j,fd,hj,F,kp,bd⟩:=c_answer_plan
    exact ⟨_,fd,j,_,rfl,hj,F,kp,bd,rfl⟩
  | peek k =>
    obtain rfl:pl=20:=by omega
    refine ⟨["message"],rfl,rfl,by show 1≤100; decide,fun w G=>⟨G.ok,[rM w],by kernel_rfl,(rel_peek).1,fun h=>?_⟩⟩
    obtain ⟨j,fd,hj,F,kp,bd⟩:=c_answer_peek
    exact ⟨_,fd,j,_,rfl,hj,F,kp,bd,(rel_peek).2 h⟩
  | state =>
    obtain rfl:pl=21:=by omega
    refine ⟨[],rfl,rfl,by show 0≤100; decide,fun w G=>⟨G.ok,[],by kernel_rfl,(fun h=>nomatch h),fun h=>?_⟩⟩
    obtain ⟨j,fd,hj,F,kp,bd⟩:=c_answer_state
    exact ⟨_,fd,j,_,rfl,hj,F,kp,bd,rfl⟩
def HANDN:List Str:=["handle_grant","handle_taken","handle_wish"]
theorem all_mk {fa c T:Addr} (X:K.In h) (G:h.Ns mainGlobals mg) (hfa:mg "answers" = some (.ref fa)) (hT:PySem.W.tabIn K "order_of_ports" = some (c,T)) {aC aH aB aR aN C_World C_Supply C_Port C_Device C_Line:Addr}
    (eC:PySem.W.nsIn K mainGlobals "CALLS" = some (some (.ref aC))) (tC:tupIn K aC=some (.non::refs (CALLN.map (adr K))))
    (eH:PySem.W.nsIn K mainGlobals "HANDLERS" = some (some (.ref aH))) (tH:tupIn K aH=some (refs (HANDN.map (adr K))))
    (eB:PySem.W.nsIn K mainGlobals "BASES" = some (some (.ref aB))) (tB:tupIn K aB=some [.int 0,.int 4000,.int 7000,.int 15400,.int 30000])
    (eR:PySem.W.nsIn K mainGlobals "RANGES" = some (some (.ref aR))) (lR:K.lookup aR=some ⟨.type "dict",none,.dict ((dictL K aR).map fun x=>(⟨PyData.keyHash w.params x.1,.str x.1 x.2.1,.ref x.2.2⟩:DictEntry)).toArray (dictN K aR),#[]⟩)
    (nR:decide ((dictL K aR).map fun x=>x.1).Nodup=true) (oR:okR K RNG (dictL K aR)=true)
    (eN:PySem.W.nsIn K mainGlobals "NUMBERS" = some (some (.ref aN))) (tN:tupIn K aN=some (refs (tupRefs K aN))) (oN:okN K NUMB (tupRefs K aN)=true)
    (b_len:PySem.W.nsIn K mainGlobals "len" = some none)
    (b_max:PySem.W.nsIn K mainGlobals "max" = some none)
    (b_min:PySem.W.nsIn K mainGlobals "min" = some none)
    (b_sum:PySem.W.nsIn K mainGlobals "sum" = some none)
    (b_all:PySem.W.nsIn K mainGlobals "all" = some none)
    (b_sorted:PySem.W.nsIn K mainGlobals "sorted" = some none)
    (b_reversed:PySem.W.nsIn K mainGlobals "reversed" = some none)
    (b_zip:PySem.W.nsIn K mainGlobals "zip" = some none)
    (b_range:PySem.W.nsIn K mainGlobals "range" = some none)
    (b_list:PySem.W.nsIn K mainGlobals "list" = some none)
    (i_FIRST_MOST:∃ t,PySem.W.nsIn K mainGlobals "FIRST_MOST" = some (some (.int (30000) t)))
    (i_MOST_GRANTS:∃ t,PySem.W.nsIn K mainGlobals "MOST_GRANTS" = some (some (.int (8) t)))
    (i_GRANT_MESSAGE:∃ t,PySem.W.nsIn K mainGlobals "GRANT_MESSAGE" = some (some (.int (0) t)))
    (i_TAKEN_MESSAGE:∃ t,PySem.W.nsIn K mainGlobals "TAKEN_MESSAGE" = some (some (.int (1) t)))
    (i_WISH_MESSAGE:∃ t,PySem.W.nsIn K mainGlobals "WISH_MESSAGE" = some (some (.int (2) t)))
    (i_OUT_OF_RANGE:∃ t,PySem.W.nsIn K mainGlobals "OUT_OF_RANGE" = some (some (.int (-1) t)))
    (i_WRONG_STATE:∃ t,PySem.W.nsIn K mainGlobals "WRONG_STATE" = some (some (.int (-2) t)))
    (i_PORT_OFF:∃ t,PySem.W.nsIn K mainGlobals "PORT_OFF" = some (some (.int (-3) t)))
    (i_BAG_FULL:∃ t,PySem.W.nsIn K mainGlobals "BAG_FULL" = some (some (.int (-4) t)))
    (i_NO_WORLD:∃ t,PySem.W.nsIn K mainGlobals "NO_WORLD" = some (some (.int (-9) t)))
    (i_BEGIN:∃ t,PySem.W.nsIn K mainGlobals "BEGIN" = some (some (.int (0) t)))
    (i_LAST_MOMENT:∃ t,PySem.W.nsIn K mainGlobals "LAST_MOMENT" = some (some (.int (100000000) t)))
    (d_base_of:DefIn K "base_of" "base_of" s_base_of)
    (d_amounts_on:DefIn K "amounts_on" "amounts_on" s_amounts_on)
    (d_can_give:DefIn K "can_give" "can_give" s_can_give)
    (d_may_give:DefIn K "may_give" "may_give" s_may_give)
    (d_reserved_at:DefIn K "reserved_at" "reserved_at" s_reserved_at)
    (d_all_reserved:DefIn K "all_reserved" "all_reserved" s_all_reserved)
    (d_drawn_at:DefIn K "drawn_at" "drawn_at" s_drawn_at)
    (d_all_drawn:DefIn K "all_drawn" "all_drawn" s_all_drawn)
    (d_latest_amount:DefIn K "latest_amount" "latest_amount" s_latest_amount)
    (d_bag_is_full:DefIn K "bag_is_full" "bag_is_full" s_bag_is_full)
    (d_is_fit:DefIn K "is_fit" "is_fit" s_is_fit)
    (d_surplus_wished:DefIn K "surplus_wished" "surplus_wished" s_surplus_wished)
    (d_order_of_ports:DefIn K "order_of_ports" "order_of_ports" s_order_of_ports)
    (d_restart_device:DefIn K "restart_device" "restart_device" s_restart_device)
    (d_cut:DefIn K "cut" "cut" s_cut)
    (d_light:DefIn K "light" "light" s_light)
    (d_put:DefIn K "put" "put" s_put)
    (d_tell:DefIn K "tell" "tell" s_tell)
    (d_ask:DefIn K "ask" "ask" s_ask)
    (d_give:DefIn K "give" "give" s_give)
    (d_make_plan:DefIn K "make_plan" "make_plan" s_make_plan)
    (d_lower_port:DefIn K "lower_port" "lower_port" s_lower_port)
    (d_has_room_to_light:DefIn K "has_room_to_light" "has_room_to_light" s_has_room_to_light)
    (d_has_room_for:DefIn K "has_room_for" "has_room_for" s_has_room_for)
    (d_raise_port:DefIn K "raise_port" "raise_port" s_raise_port)
    (d_settle_ports:DefIn K "settle_ports" "settle_ports" s_settle_ports)
    (d_power_view:DefIn K "power_view" "power_view" s_power_view)
    (d_cut_what_is_too_much:DefIn K "cut_what_is_too_much" "cut_what_is_too_much" s_cut_what_is_too_much)
    (d_answer_spare:DefIn K "answer_spare" "answer_spare" s_answer_spare)
    (d_answer_port:DefIn K "answer_port" "answer_port" s_answer_port)
    (d_answer_settle:DefIn K "answer_settle" "answer_settle" s_answer_settle)
    (d_answer_clear:DefIn K "answer_clear" "answer_clear" s_answer_clear)
    (d_answer_again:DefIn K "answer_again" "answer_again" s_answer_again)
    (d_refusal_of_unlit:DefIn K "refusal_of_unlit" "refusal_of_unlit" s_refusal_of_unlit)
    (d_answer_fault:DefIn K "answer_fault" "answer_fault" s_answer_fault)
    (d_answer_draw:DefIn K "answer_draw" "answer_draw" s_answer_draw)
    (d_answer_wish:DefIn K "answer_wish" "answer_wish" s_answer_wish)
    (d_answer_supply:DefIn K "answer_supply" "answer_supply" s_answer_supply)
    (d_answer_unplug:DefIn K "answer_unplug" "answer_unplug" s_answer_unplug)
    (d_answer_plug:DefIn K "answer_plug" "answer_plug" s_answer_plug)
    (d_is_within:DefIn K "is_within" "is_within" s_is_within)
    (d_ends_of:DefIn K "ends_of" "ends_of" s_ends_of)
    (d_are_in_range:DefIn K "are_in_range" "are_in_range" s_are_in_range)
    (d_can_begin:DefIn K "can_begin" "can_begin" s_can_begin)
    (d_begin:DefIn K "begin" "begin" s_begin)
    (d_is_for_device:DefIn K "is_for_device" "is_for_device" s_is_for_device)
    (d_is_for_port:DefIn K "is_for_port" "is_for_port" s_is_for_port)
    (d_handle_wish:DefIn K "handle_wish" "handle_wish" s_handle_wish)
    (d_handle_grant:DefIn K "handle_grant" "handle_grant" s_handle_grant)
    (d_handle_taken:DefIn K "handle_taken" "handle_taken" s_handle_taken)
    (d_deliver:DefIn K "deliver" "deliver" s_deliver)
    (d_deliver_all:DefIn K "deliver_all" "deliver_all" s_deliver_all)
    (d_all_energy:DefIn K "all_energy" "all_energy" s_all_energy)
    (d_state_view:DefIn K "state_view" "state_view" s_state_view)
    (d_device_view:DefIn K "device_view" "device_view" s_device_view)
    (d_port_view:DefIn K "port_view" "port_view" s_port_view)
    (d_plan_view:DefIn K "plan_view" "plan_view" s_plan_view)
    (d_answer_deliver:DefIn K "answer_deliver" "answer_deliver" s_answer_deliver)
    (d_answer_lose:DefIn K "answer_lose" "answer_lose" s_answer_lose)
    (d_answer_double:DefIn K "answer_double" "answer_double" s_answer_double)
    (d_answer_calm:DefIn K "answer_calm" "answer_calm" s_answer_calm)
    (d_answer_tick:DefIn K "answer_tick" "answer_tick" s_answer_tick)
    (d_answer_look:DefIn K "answer_look" "answer_look" s_answer_look)
    (d_answer_device:DefIn K "answer_device" "answer_device" s_answer_device)
    (d_answer_power:DefIn K "answer_power" "answer_power" s_answer_power)
    (d_answer_plan:DefIn K "answer_plan" "answer_plan" s_answer_plan)
    (d_answer_state:DefIn K "answer_state" "answer_state" s_answer_state)
    (d_answer_peek:DefIn K "answer_peek" "answer_peek" s_answer_peek)
    (d_answer:DefIn K "answer" "answer" s_answer)
    (d_answers:DefIn K "answers" "answers" s_answers)
    (d_World:ClsIn K "World" "World.__init__" C_World s_World__init__) (n_World:noAttrs K C_World worldN=true)
    (d_Supply:ClsIn K "Supply" "Supply.__init__" C_Supply s_Supply__init__) (n_Supply:noAttrs K C_Supply supN=true)
    (d_Port:ClsIn K "Port" "Port.__init__" C_Port s_Port__init__) (n_Port:noAttrs K C_Port portN=true)
    (d_Device:ClsIn K "Device" "Device.__init__" C_Device s_Device__init__) (n_Device:noAttrs K C_Device devN=true)
    (d_Line:ClsIn K "Line" "Line.__init__" C_Line s_Line__init__) (n_Line:noAttrs K C_Line lineN=true)
   :∃ fd:FuncData,(∀ (s:Shared) (us:List Value),us.length=(["calls"]:List Str).length→BindsTo s fd ⟨us,[]⟩ ((["calls"]:List Str).zip us)) ∧
      ∀ base:Heap,K.In base→base.Ns mainGlobals mg→PySem.W.CodeHd base c T→L2.BMain base mg→FnOk P w K mg base CX0 9 fa fd ["calls"] (spMain K (casOf K T)):=by
  have aW:=adr_of d_World.1
  subst aW
  have aS:=adr_of d_Supply.1
  subst aS
  have aP:=adr_of d_Port.1
  subst aP
  have aD:=adr_of d_Device.1
  subst aD
  have aL:=adr_of d_Line.1
  subst aL
  obtain ⟨f0,oc0,od0,kV0,dc0,pm0,an0,cd0,ct0,sl0,a0,l0,c0,k0⟩:=d_answers
  have e:=hfa.symm.trans (PySem.W.mg_of X G a0)
  cases e
  have F0:=fun_mk (st:=s_answers) l0 c0 k0
  refine ⟨PySem.W.fnOf "answers" "answers" (defArgs s_answers) (defBody s_answers) (defScope s_answers) .none kV0 dc0 pm0 an0 cd0 ct0,fun s us hu=>match us,hu with | [_],_=>.of_eq rfl,fun base KB GB hC hB=>?_⟩
  have ec:(casOf K T).c=c:=by
    show (match PySem.W.tabIn K "order_of_ports" with | some (c,_)=>c | none=>0)=c
    rw [hT]
  have TD:TxtD P w K mg:=txtD_mk X G eR eN lR nR oR tN oN
  have TX:Txt K mg (casOf K T):={ cl_world:=d_World.2.1,na_world:=n_World,mg_World:=PySem.W.mg_of X G d_World.1,cl_sup:=d_Supply.2.1,na_sup:=n_Supply,mg_Supply:=PySem.W.mg_of X G d_Supply.1,cl_port:=d_Port.2.1,na_port:=n_Port,mg_Port:=PySem.W.mg_of X G d_Port.1,cl_dev:=d_Device.2.1,na_dev:=n_Device,mg_Device:=PySem.W.mg_of X G d_Device.1,cl_line:=d_Line.2.1,na_line:=n_Line,mg_Line:=PySem.W.mg_of X G d_Line.1,b_len:=PySem.W.mg_none_of X G b_len,b_max:=PySem.W.mg_none_of X G b_max,b_min:=PySem.W.mg_none_of X G b_min,b_sum:=PySem.W.mg_none_of X G b_sum,b_all:=PySem.W.mg_none_of X G b_all,b_sorted:=PySem.W.mg_none_of X G b_sorted,b_reversed:=PySem.W.mg_none_of X G b_reversed,b_zip:=PySem.W.mg_none_of X G b_zip,b_range:=PySem.W.mg_none_of X G b_range,b_list:=PySem.W.mg_none_of X G b_list,i_FIRST_MOST:=i_FIRST_MOST.imp fun t e=>PySem.W.mg_of X G e,i_MOST_GRANTS:=i_MOST_GRANTS.imp fun t e=>PySem.W.mg_of X G e,i_GRANT_MESSAGE:=i_GRANT_MESSAGE.imp fun t e=>PySem.W.mg_of X G e,i_TAKEN_MESSAGE:=i_TAKEN_MESSAGE.imp fun t e=>PySem.W.mg_of X G e,i_WISH_MESSAGE:=i_WISH_MESSAGE.imp fun t e=>PySem.W.mg_of X G e,i_OUT_OF_RANGE:=i_OUT_OF_RANGE.imp fun t e=>PySem.W.mg_of X G e,i_WRONG_STATE:=i_WRONG_STATE.imp fun t e=>PySem.W.mg_of X G e,i_PORT_OFF:=i_PORT_OFF.imp fun t e=>PySem.W.mg_of X G e,i_BAG_FULL:=i_BAG_FULL.imp fun t e=>PySem.W.mg_of X G e,i_NO_WORLD:=i_NO_WORLD.imp fun t e=>PySem.W.mg_of X G e,i_BEGIN:=i_BEGIN.imp fun t e=>PySem.W.mg_of X G e,i_LAST_MOMENT:=i_LAST_MOMENT.imp fun t e=>PySem.W.mg_of X G e,bases:=⟨aB,PySem.W.mg_of X G eB,tup_sq tB⟩ }
  have F_order_of_ports:Known P w K mg base "order_of_ports" 4 ["world"] (sp_order (casOf K T)):=by
    obtain ⟨f,oc,od,kV,dc,pm,an,cd,ct,sl,a,l,cc,kp⟩:=d_order_of_ports
    have F:=fun_mk (st:=s_order_of_ports) l cc kp
    exact ⟨f,_,ok_order_of_ports TX F (by rw [ec]; exact tabIn_code hT a l) (by rw [ec]; exact hC) hB,PySem.W.mg_of X G a,kp,F.binds fun _ _ _ _ _ _ us hl=>match us,hl with | [_],_=>rfl⟩
  have F_base_of:=d_base_of.known (P:=P) (w:=w) (base:=base) X G (fun f fd F=>ok_base_of TX F) (fun _ _ _ _ _ _ us hl=>match us,hl with | [_],_=>rfl)
  have F_amounts_on:=d_amounts_on.known (P:=P) (w:=w) (base:=base) X G (fun f fd F=>ok_amounts_on TX F) (fun _ _ _ _ _ _ us hl=>match us,hl with | [_],_=>rfl)
  have F_reserved_at:=d_reserved_at.known (P:=P) (w:=w) (base:=base) X G (fun f fd F=>ok_reserved_at TX F) (fun _ _ _ _ _ _ us hl=>match us,hl with | [_],_=>rfl)
  have F_drawn_at:=d_drawn_at.known (P:=P) (w:=w) (base:=base) X G (fun f fd F=>ok_drawn_at TX F) (fun _ _ _ _ _ _ us hl=>match us,hl with | [_],_=>rfl)
  have F_latest_amount:=d_latest_amount.known (P:=P) (w:=w) (base:=base) X G (fun f fd F=>ok_latest_amount TX F) (fun _ _ _ _ _ _ us hl=>match us,hl with | [_],_=>rfl)
  have F_bag_is_full:=d_bag_is_full.known (P:=P) (w:=w) (base:=base) X G (fun f fd F=>ok_bag_is_full TX F) (fun _ _ _ _ _ _ us hl=>match us,hl with | [_],_=>rfl)
  have F_is_fit:=d_is_fit.known (P:=P) (w:=w) (base:=base) X G (fun f fd F=>ok_is_fit TX F) (fun _ _ _ _ _ _ us hl=>match us,hl with | [_],_=>rfl)
  have F_restart_device:=d_restart_device.known (P:=P) (w:=w) (base:=base) X G (fun f fd F=>ok_restart_device TX F) (fun _ _ _ _ _ _ us hl=>match us,hl with | [_,_,_],_=>rfl)
  have F_refusal_of_unlit:=d_refusal_of_unlit.known (P:=P) (w:=w) (base:=base) X G (fun f fd F=>ok_refusal_of_unlit TX F) (fun _ _ _ _ _ _ us hl=>match us,hl with | [_],_=>rfl)
  have M_Device:=d_Device.known (P:=P) (w:=w) (base:=base) X G (fun f fd F=>ok_Device__init__ TX F) (fun _ _ _ _ _ _ us hl=>match us,hl with | [_,_],_=>rfl)
  have M_Supply:=d_Supply.known (P:=P) (w:=w) (base:=base) X G (fun f fd F=>ok_Supply__init__ TX F) (fun _ _ _ _ _ _ us hl=>match us,hl with | [_,_],_=>rfl)
  have M_Line:=d_Line.known (P:=P) (w:=w) (base:=base) X G (fun f fd F=>ok_Line__init__ TX F) (fun _ _ _ _ _ _ us hl=>match us,hl with | [_],_=>rfl)
  have M_Port:=d_Port.known (P:=P) (w:=w) (base:=base) X G (fun f fd F=>ok_Port__init__ TX F) (fun _ _ _ _ _ _ us hl=>match us,hl with | [_,_],_=>rfl)
  have F_is_within:=d_is_within.known (P:=P) (w:=w) (base:=base) X G (fun f fd F=>ok_is_within TX F) (fun _ _ _ _ _ _ us hl=>match us,hl with | [_,_],_=>rfl)
  have F_ends_of:=d_ends_of.known (P:=P) (w:=w) (base:=base) X G (fun f fd F=>ok_ends_of TX TD F) (fun _ _ _ _ _ _ us hl=>match us,hl with | [_,_],_=>rfl)
  have F_is_for_device:=d_is_for_device.known (P:=P) (w:=w) (base:=base) X G (fun f fd F=>ok_is_for_device TX F) (fun _ _ _ _ _ _ us hl=>match us,hl with | [_,_],_=>rfl)
  have F_is_for_port:=d_is_for_port.known (P:=P) (w:=w) (base:=base) X G (fun f fd F=>ok_is_for_port TX F) (fun _ _ _ _ _ _ us hl=>match us,hl with | [_,_],_=>rfl)
  have F_all_energy:=d_all_energy.known (P:=P) (w:=w) (base:=base) X G (fun f fd F=>ok_all_energy TX F) (fun _ _ _ _ _ _ us hl=>match us,hl with | [_],_=>rfl)
  have F_device_view:=d_device_view.known (P:=P) (w:=w) (base:=base) X G (fun f fd F=>ok_device_view TX F) (fun _ _ _ _ _ _ us hl=>match us,hl with | [_],_=>rfl)
  have c_answer_clear:CallDef P w K mg base (casOf K T) 7 "answer_clear" pre_answer_clear:=by
    obtain ⟨fd,a,b,c⟩:=d_answer_clear.call (P:=P) (w:=w) (mg:=mg) (base:=base) (fun f fd F=>ok_answer_clear TX F) (fun _ _ _ _ _ _ us hl=>match us,hl with | [_,_],_=>rfl)
    exact ⟨_,fd,by decide,a,b,c⟩
  have c_answer_lose:CallDef P w K mg base (casOf K T) 7 "answer_lose" pre_answer_lose:=by
    obtain ⟨fd,a,b,c⟩:=d_answer_lose.call (P:=P) (w:=w) (mg:=mg) (base:=base) (fun f fd F=>ok_answer_lose TX F) (fun _ _ _ _ _ _ us hl=>match us,hl with | [_,_],_=>rfl)
    exact ⟨_,fd,by decide,a,b,c⟩
  have c_answer_peek:CallDef P w K mg base (casOf K T) 7 "answer_peek" pre_answer_peek:=by
    obtain ⟨fd,a,b,c⟩:=d_answer_peek.call (P:=P) (w:=w) (mg:=mg) (base:=base) (fun f fd F=>ok_answer_peek TX F) (fun _ _ _ _ _ _ us hl=>match us,hl with | [_,_],_=>rfl)
    exact ⟨_,fd,by decide,a,b,c⟩
  have F_can_give:=d_can_give.known (P:=P) (w:=w) (base:=base) X G (fun f fd F=>ok_can_give TX F F_amounts_on) (fun _ _ _ _ _ _ us hl=>match us,hl with | [_],_=>rfl)
  have F_all_reserved:=d_all_reserved.known (P:=P) (w:=w) (base:=base) X G (fun f fd F=>ok_all_reserved TX F F_reserved_at) (fun _ _ _ _ _ _ us hl=>match us,hl with | [_],_=>rfl)
  have F_all_drawn:=d_all_drawn.known (P:=P) (w:=w) (base:=base) X G (fun f fd F=>ok_all_drawn TX F F_drawn_at) (fun _ _ _ _ _ _ us hl=>match us,hl with | [_],_=>rfl)
  have F_surplus_wished:=d_surplus_wished.known (P:=P) (w:=w) (base:=base) X G (fun f fd F=>ok_surplus_wished TX F F_base_of) (fun _ _ _ _ _ _ us hl=>match us,hl with | [_],_=>rfl)
  have F_cut:=d_cut.known (P:=P) (w:=w) (base:=base) X G (fun f fd F=>ok_cut TX F F_restart_device) (fun _ _ _ _ _ _ us hl=>match us,hl with | [_],_=>rfl)
  have F_light:=d_light.known (P:=P) (w:=w) (base:=base) X G (fun f fd F=>ok_light TX F F_restart_device F_base_of) (fun _ _ _ _ _ _ us hl=>match us,hl with | [_],_=>rfl)
  have F_put:=d_put.known (P:=P) (w:=w) (base:=base) X G (fun f fd F=>ok_put TX F F_bag_is_full) (fun _ _ _ _ _ _ us hl=>match us,hl with | [_,_],_=>rfl)
  have M_World:=d_World.known (P:=P) (w:=w) (base:=base) X G (fun f fd F=>ok_World__init__ TX F M_Supply M_Port) (fun _ _ _ _ _ _ us hl=>match us,hl with | [_,_,_,_,_],_=>rfl)
  have F_are_in_range:=d_are_in_range.known (P:=P) (w:=w) (base:=base) X G (fun f fd F=>ok_are_in_range TX TD F F_is_within F_ends_of) (fun _ _ _ _ _ _ us hl=>match us,hl with | [_,_,_],_=>rfl)
  have F_can_begin:=d_can_begin.known (P:=P) (w:=w) (base:=base) X G (fun f fd F=>ok_can_begin TX TD F F_is_within) (fun _ _ _ _ _ _ us hl=>match us,hl with | [_],_=>rfl)
  have F_state_view:=d_state_view.known (P:=P) (w:=w) (base:=base) X G (fun f fd F=>ok_state_view TX F F_all_energy) (fun _ _ _ _ _ _ us hl=>match us,hl with | [_],_=>rfl)
  have F_port_view:=d_port_view.known (P:=P) (w:=w) (base:=base) X G (fun f fd F=>ok_port_view TX F F_reserved_at) (fun _ _ _ _ _ _ us hl=>match us,hl with | [_],_=>rfl)
  have c_answer_plug:CallDef P w K mg base (casOf K T) 7 "answer_plug" pre_answer_plug:=by
    obtain ⟨fd,a,b,c⟩:=d_answer_plug.call (P:=P) (w:=w) (mg:=mg) (base:=base) (fun f fd F=>ok_answer_plug TX F M_Device) (fun _ _ _ _ _ _ us hl=>match us,hl with | [_,_],_=>rfl)
    exact ⟨_,fd,by decide,a,b,c⟩
  have c_answer_draw:CallDef P w K mg base (casOf K T) 7 "answer_draw" pre_answer_draw:=by
    obtain ⟨fd,a,b,c⟩:=d_answer_draw.call (P:=P) (w:=w) (mg:=mg) (base:=base) (fun f fd F=>ok_answer_draw TX F F_refusal_of_unlit) (fun _ _ _ _ _ _ us hl=>match us,hl with | [_,_],_=>rfl)
    exact ⟨_,fd,by decide,a,b,c⟩
  have c_answer_device:CallDef P w K mg base (casOf K T) 7 "answer_device" pre_answer_device:=by
    obtain ⟨fd,a,b,c⟩:=d_answer_device.call (P:=P) (w:=w) (mg:=mg) (base:=base) (fun f fd F=>ok_answer_device TX F F_device_view) (fun _ _ _ _ _ _ us hl=>match us,hl with | [_,_],_=>rfl)
    exact ⟨_,fd,by decide,a,b,c⟩
  have F_may_give:=d_may_give.known (P:=P) (w:=w) (base:=base) X G (fun f fd F=>ok_may_give TX F F_amounts_on F_can_give) (fun _ _ _ _ _ _ us hl=>match us,hl with | [_],_=>rfl)
  have F_tell:=d_tell.known (P:=P) (w:=w) (base:=base) X G (fun f fd F=>ok_tell TX F F_put F_latest_amount) (fun _ _ _ _ _ _ us hl=>match us,hl with | [_,_],_=>rfl)
  have F_ask:=d_ask.known (P:=P) (w:=w) (base:=base) X G (fun f fd F=>ok_ask TX F F_put) (fun _ _ _ _ _ _ us hl=>match us,hl with | [_,_,_],_=>rfl)
  have F_cut_what_is_too_much:=d_cut_what_is_too_much.known (P:=P) (w:=w) (base:=base) X G (fun f fd F=>ok_cut_what_is_too_much TX F F_order_of_ports F_all_reserved F_can_give F_cut) (fun _ _ _ _ _ _ us hl=>match us,hl with | [_],_=>rfl)
  have F_begin:=d_begin.known (P:=P) (w:=w) (base:=base) X G (fun f fd F=>ok_begin TX F F_can_begin M_World) (fun _ _ _ _ _ _ us hl=>match us,hl with | [_,_],_=>rfl)
  have c_answer_port:CallDef P w K mg base (casOf K T) 7 "answer_port" pre_answer_port:=by
    obtain ⟨fd,a,b,c⟩:=d_answer_port.call (P:=P) (w:=w) (mg:=mg) (base:=base) (fun f fd F=>ok_answer_port TX F F_cut) (fun _ _ _ _ _ _ us hl=>match us,hl with | [_,_],_=>rfl)
    exact ⟨_,fd,by decide,a,b,c⟩
  have c_answer_unplug:CallDef P w K mg base (casOf K T) 7 "answer_unplug" pre_answer_unplug:=by
    obtain ⟨fd,a,b,c⟩:=d_answer_unplug.call (P:=P) (w:=w) (mg:=mg) (base:=base) (fun f fd F=>ok_answer_unplug TX F F_cut) (fun _ _ _ _ _ _ us hl=>match us,hl with | [_,_],_=>rfl)
    exact ⟨_,fd,by decide,a,b,c⟩
  have c_answer_fault:CallDef P w K mg base (casOf K T) 7 "answer_fault" pre_answer_fault:=by
    obtain ⟨fd,a,b,c⟩:=d_answer_fault.call (P:=P) (w:=w) (mg:=mg) (base:=base) (fun f fd F=>ok_answer_fault TX F F_refusal_of_unlit F_cut) (fun _ _ _ _ _ _ us hl=>match us,hl with | [_,_],_=>rfl)
    exact ⟨_,fd,by decide,a,b,c⟩
  have c_answer_double:CallDef P w K mg base (casOf K T) 7 "answer_double" pre_answer_double:=by
    obtain ⟨fd,a,b,c⟩:=d_answer_double.call (P:=P) (w:=w) (mg:=mg) (base:=base) (fun f fd F=>ok_answer_double TX F F_bag_is_full F_put) (fun _ _ _ _ _ _ us hl=>match us,hl with | [_,_],_=>rfl)
    exact ⟨_,fd,by decide,a,b,c⟩
  have c_answer_tick:CallDef P w K mg base (casOf K T) 7 "answer_tick" pre_answer_tick:=by
    obtain ⟨fd,a,b,c⟩:=d_answer_tick.call (P:=P) (w:=w) (mg:=mg) (base:=base) (fun f fd F=>ok_answer_tick TX F F_can_give F_drawn_at) (fun _ _ _ _ _ _ us hl=>match us,hl with | [_,_],_=>rfl)
    exact ⟨_,fd,by decide,a,b,c⟩
  have c_answer_look:CallDef P w K mg base (casOf K T) 7 "answer_look" pre_answer_look:=by
    obtain ⟨fd,a,b,c⟩:=d_answer_look.call (P:=P) (w:=w) (mg:=mg) (base:=base) (fun f fd F=>ok_answer_look TX F F_port_view) (fun _ _ _ _ _ _ us hl=>match us,hl with | [_,_],_=>rfl)
    exact ⟨_,fd,by decide,a,b,c⟩
  have c_answer_state:CallDef P w K mg base (casOf K T) 7 "answer_state" pre_answer_state:=by
    obtain ⟨fd,a,b,c⟩:=d_answer_state.call (P:=P) (w:=w) (mg:=mg) (base:=base) (fun f fd F=>ok_answer_state TX F F_state_view) (fun _ _ _ _ _ _ us hl=>match us,hl with | [_,_],_=>rfl)
    exact ⟨_,fd,by decide,a,b,c⟩
  have HD:HandOk P w K mg base (casOf K T) 3:=by
    obtain ⟨fd0,x0,y0,z0⟩:=d_handle_grant.call (P:=P) (w:=w) (mg:=mg) (base:=base) (fun f fd F=>ok_handle_grant TX F F_is_for_device F_put) (fun _ _ _ _ _ _ us hl=>match us,hl with | [_,_],_=>rfl)
    obtain ⟨fd1,x1,y1,z1⟩:=d_handle_taken.call (P:=P) (w:=w) (mg:=mg) (base:=base) (fun f fd F=>ok_handle_taken TX F F_is_for_port) (fun _ _ _ _ _ _ us hl=>match us,hl with | [_,_],_=>rfl)
    obtain ⟨fd2,x2,y2,z2⟩:=d_handle_wish.call (P:=P) (w:=w) (mg:=mg) (base:=base) (fun f fd F=>ok_handle_wish TX F F_is_for_port) (fun _ _ _ _ _ _ us hl=>match us,hl with | [_,_],_=>rfl)
    refine ⟨aH,HANDN.map (adr K),PySem.W.mg_of X G eH,tup_sq tH,fun k hk=>?_⟩
    match k,hk with
    | 0,_=>exact ⟨_,fd0,_,rfl,by decide,x0,y0,z0⟩
    | 1,_=>exact ⟨_,fd1,_,rfl,by decide,x1,y1,z1⟩
    | 2,_=>exact ⟨_,fd2,_,rfl,by decide,x2,y2,z2⟩
  have F_give:=d_give.known (P:=P) (w:=w) (base:=base) X G (fun f fd F=>ok_give TX F F_tell) (fun _ _ _ _ _ _ us hl=>match us,hl with | [_,_,_],_=>rfl)
  have F_make_plan:=d_make_plan.known (P:=P) (w:=w) (base:=base) X G (fun f fd F=>ok_make_plan TX F F_may_give F_order_of_ports F_is_fit F_base_of F_surplus_wished) (fun _ _ _ _ _ _ us hl=>match us,hl with | [_],_=>rfl)
  have F_has_room_to_light:=d_has_room_to_light.known (P:=P) (w:=w) (base:=base) X G (fun f fd F=>ok_has_room_to_light TX F F_all_reserved F_base_of F_may_give) (fun _ _ _ _ _ _ us hl=>match us,hl with | [_,_],_=>rfl)
  have F_has_room_for:=d_has_room_for.known (P:=P) (w:=w) (base:=base) X G (fun f fd F=>ok_has_room_for TX F F_all_reserved F_reserved_at F_may_give) (fun _ _ _ _ _ _ us hl=>match us,hl with | [_,_,_],_=>rfl)
  have F_power_view:=d_power_view.known (P:=P) (w:=w) (base:=base) X G (fun f fd F=>ok_power_view TX F F_can_give F_may_give F_all_reserved F_all_drawn) (fun _ _ _ _ _ _ us hl=>match us,hl with | [_],_=>rfl)
  have F_deliver:=d_deliver.known (P:=P) (w:=w) (base:=base) X G (fun f fd F=>ok_deliver TX HD F) (fun _ _ _ _ _ _ us hl=>match us,hl with | [_,_],_=>rfl)
  have c_answer_wish:CallDef P w K mg base (casOf K T) 7 "answer_wish" pre_answer_wish:=by
    obtain ⟨fd,a,b,c⟩:=d_answer_wish.call (P:=P) (w:=w) (mg:=mg) (base:=base) (fun f fd F=>ok_answer_wish TX F F_refusal_of_unlit F_bag_is_full F_ask) (fun _ _ _ _ _ _ us hl=>match us,hl with | [_,_],_=>rfl)
    exact ⟨_,fd,by decide,a,b,c⟩
  have c_answer_again:CallDef P w K mg base (casOf K T) 7 "answer_again" pre_answer_again:=by
    obtain ⟨fd,a,b,c⟩:=d_answer_again.call (P:=P) (w:=w) (mg:=mg) (base:=base) (fun f fd F=>ok_answer_again TX F F_bag_is_full F_tell) (fun _ _ _ _ _ _ us hl=>match us,hl with | [_,_],_=>rfl)
    exact ⟨_,fd,by decide,a,b,c⟩
  have F_lower_port:=d_lower_port.known (P:=P) (w:=w) (base:=base) X G (fun f fd F=>ok_lower_port TX F F_cut F_latest_amount F_give) (fun _ _ _ _ _ _ us hl=>match us,hl with | [_,_,_],_=>rfl)
  have F_raise_port:=d_raise_port.known (P:=P) (w:=w) (base:=base) X G (fun f fd F=>ok_raise_port TX F F_latest_amount F_has_room_for F_give F_tell) (fun _ _ _ _ _ _ us hl=>match us,hl with | [_,_,_],_=>rfl)
  have F_deliver_all:=d_deliver_all.known (P:=P) (w:=w) (base:=base) X G (fun f fd F=>ok_deliver_all TX F F_deliver) (fun _ _ _ _ _ _ us hl=>match us,hl with | [_],_=>rfl)
  have F_plan_view:=d_plan_view.known (P:=P) (w:=w) (base:=base) X G (fun f fd F=>ok_plan_view TX F F_make_plan) (fun _ _ _ _ _ _ us hl=>match us,hl with | [_],_=>rfl)
  have c_answer_supply:CallDef P w K mg base (casOf K T) 7 "answer_supply" pre_answer_supply:=by
    obtain ⟨fd,a,b,c⟩:=d_answer_supply.call (P:=P) (w:=w) (mg:=mg) (base:=base) (fun f fd F=>ok_answer_supply TX F F_cut_what_is_too_much F_power_view) (fun _ _ _ _ _ _ us hl=>match us,hl with | [_,_],_=>rfl)
    exact ⟨_,fd,by decide,a,b,c⟩
  have c_answer_spare:CallDef P w K mg base (casOf K T) 7 "answer_spare" pre_answer_spare:=by
    obtain ⟨fd,a,b,c⟩:=d_answer_spare.call (P:=P) (w:=w) (mg:=mg) (base:=base) (fun f fd F=>ok_answer_spare TX F F_power_view) (fun _ _ _ _ _ _ us hl=>match us,hl with | [_,_],_=>rfl)
    exact ⟨_,fd,by decide,a,b,c⟩
  have c_answer_deliver:CallDef P w K mg base (casOf K T) 7 "answer_deliver" pre_answer_deliver:=by
    obtain ⟨fd,a,b,c⟩:=d_answer_deliver.call (P:=P) (w:=w) (mg:=mg) (base:=base) (fun f fd F=>ok_answer_deliver TX F F_deliver) (fun _ _ _ _ _ _ us hl=>match us,hl with | [_,_],_=>rfl)
    exact ⟨_,fd,by decide,a,b,c⟩
  have c_answer_power:CallDef P w K mg base (casOf K T) 7 "answer_power" pre_answer_power:=by
    obtain ⟨fd,a,b,c⟩:=d_answer_power.call (P:=P) (w:=w) (mg:=mg) (base:=base) (fun f fd F=>ok_answer_power TX F F_power_view) (fun _ _ _ _ _ _ us hl=>match us,hl with | [_,_],_=>rfl)
    exact ⟨_,fd,by decide,a,b,c⟩
  have F_settle_ports:=d_settle_ports.known (P:=P) (w:=w) (base:=base) X G (fun f fd F=>ok_settle_ports TX F F_make_plan F_order_of_ports F_lower_port F_raise_port F_has_room_to_light F_light) (fun _ _ _ _ _ _ us hl=>match us,hl with | [_],_=>rfl)
  have c_answer_calm:CallDef P w K mg base (casOf K T) 7 "answer_calm" pre_answer_calm:=by
    obtain ⟨fd,a,b,c⟩:=d_answer_calm.call (P:=P) (w:=w) (mg:=mg) (base:=base) (fun f fd F=>ok_answer_calm TX F F_deliver_all) (fun _ _ _ _ _ _ us hl=>match us,hl with | [_,_],_=>rfl)
    exact ⟨_,fd,by decide,a,b,c⟩
  have c_answer_plan:CallDef P w K mg base (casOf K T) 7 "answer_plan" pre_answer_plan:=by
    obtain ⟨fd,a,b,c⟩:=d_answer_plan.call (P:=P) (w:=w) (mg:=mg) (base:=base) (fun f fd F=>ok_answer_plan TX F F_plan_view) (fun _ _ _ _ _ _ us hl=>match us,hl with | [_,_],_=>rfl)
    exact ⟨_,fd,by decide,a,b,c⟩
  have c_answer_settle:CallDef P w K mg base (casOf K T) 7 "answer_settle" pre_answer_settle:=by
    obtain ⟨fd,a,b,c⟩:=d_answer_settle.call (P:=P) (w:=w) (mg:=mg) (base:=base) (fun f fd F=>ok_answer_settle TX F F_settle_ports F_power_view) (fun _ _ _ _ _ _ us hl=>match us,hl with | [_,_],_=>rfl)
    exact ⟨_,fd,by decide,a,b,c⟩
  have C:=calls_ok (kk:=7) (PySem.W.mg_of X G eC) (tup_sq tC) c_answer_supply c_answer_spare c_answer_port c_answer_plug c_answer_unplug c_answer_settle c_answer_wish c_answer_draw c_answer_fault c_answer_clear c_answer_again c_answer_deliver c_answer_lose c_answer_double c_answer_calm c_answer_tick c_answer_look c_answer_device c_answer_power c_answer_plan c_answer_peek c_answer_state
  have F_answer:=d_answer.known (P:=P) (w:=w) (base:=base) X G (fun f fd F=>ok_answer TX C F F_begin F_are_in_range) (fun _ _ _ _ _ _ us hl=>match us,hl with | [_,_,_],_=>rfl)
  exact ok_answers G0 TX F0 F_answer M_Line
end
end WP
theorem PySem.W.Fast.tw17118434585823289941 : True := trivial
theorem PySem.W.Fast.tw5503903975593877569 : True := trivial
theorem PySem.W.Fast.tw4231075892166361768 : True := trivial
theorem PySem.W.Fast.tw11844829169918608294 : True := trivial
theorem PySem.W.Fast.tw14070201447195264856 : True := trivial
theorem PySem.W.Fast.tw9816721005108122304 : True := trivial
theorem PySem.W.Fast.tw17491437863858469451 : True := trivial
theorem PySem.W.Fast.tw6745335182401753082 : True := trivial
theorem PySem.W.Fast.tw8237571778754873366 : True := trivial
theorem PySem.W.Fast.tw6918389498340165389 : True := trivial
theorem PySem.W.Fast.tw10165226045106114903 : True := trivial
theorem PySem.W.Fast.tw14397671078433574293 : True := trivial
theorem PySem.W.Fast.tw1194525399328497371 : True := trivial
theorem PySem.W.Fast.tw686195491692503570 : True := trivial
theorem PySem.W.Fast.tw12145590726586988636 : True := trivial
theorem PySem.W.Fast.tw7740787013807883175 : True := trivial
theorem PySem.W.Fast.tw11256191961552531411 : True := trivial
theorem PySem.W.Fast.tw10611335615359661326 : True := trivial
theorem PySem.W.Fast.tw13920131958691744282 : True := trivial
theorem PySem.W.Fast.tw15300994915945236326 : True := trivial
theorem PySem.W.Fast.tw11000515354825749507 : True := trivial
theorem PySem.W.Fast.tw16262470329091610933 : True := trivial
theorem PySem.W.Fast.tw4842347119203103555 : True := trivial
theorem PySem.W.Fast.tw5439740147664571091 : True := trivial
theorem PySem.W.Fast.tw10303610845794417421 : True := trivial
theorem PySem.W.Fast.tw12074609179322538414 : True := trivial
theorem PySem.W.Fast.tw13635982117150341077 : True := trivial
theorem PySem.W.Fast.tw9999802626214775704 : True := trivial
theorem PySem.W.Fast.tw3563213908062342700 : True := trivial
theorem PySem.W.Fast.tw155544868202460255 : True := trivial
theorem PySem.W.Fast.tw7022751280285175730 : True := trivial
theorem PySem.W.Fast.tw17921472536255068959 : True := trivial
open PySem PySem.W PyProof.Rows
set_option Elab.async false
set_option maxRecDepth 100000
set_option maxHeartbeats 0 in
theorem PySem.Challenge.cw_wirepower_s01_answers_holds : PySem.Challenge.rw_wirepower_s01_answers.Holds := by
  w_on; k_headS; (case hw => exact ⟨[.list [.int 19, .int 0, .int 0]], by decide +kernel, by decide +kernel⟩)
  k_fillS
  refine L2.walk_specT (r := PySem.Challenge.rw_wirepower_s01_answers) (k := 9) (CX := L2.CX0) (ps := ["calls"]) (sp := fun K T => WP.spMain K (WP.casOf K T)) (x := "order_of_ports") (by decide +kernel) rfl rfl ⟨rfl, by decide, by decide⟩ (fun w h Y => PySem.W.kIn_of Y) (by kernel_rfl) (fun w => by kernel_rfl) ?F ?S (fun _ _ _ _ z => z)
  case F =>
    intro w mg fa h Y KX G hmg c T hT
    refine' WP.all_mk KX G hmg hT ?eC ?tC ?eH ?tH ?eB ?tB ?eR ?lR ?nR ?oR ?eN ?tN ?oN ?b_len ?b_max ?b_min ?b_sum ?b_all ?b_sorted ?b_reversed ?b_zip ?b_range ?b_list ?i_FIRST_MOST ?i_MOST_GRANTS ?i_GRANT_MESSAGE ?i_TAKEN_MESSAGE ?i_WISH_MESSAGE ?i_OUT_OF_RANGE ?i_WRONG_STATE ?i_PORT_OFF ?i_BAG_FULL ?i_NO_WORLD ?i_BEGIN ?i_LAST_MOMENT ?d_base_of ?d_amounts_on ?d_can_give ?d_may_give ?d_reserved_at ?d_all_reserved ?d_drawn_at ?d_all_drawn ?d_latest_amount ?d_bag_is_full ?d_is_fit ?d_surplus_wished ?d_order_of_ports ?d_restart_device ?d_cut ?d_light ?d_put ?d_tell ?d_ask ?d_give ?d_make_plan ?d_lower_port ?d_has_room_to_light ?d_has_room_for ?d_raise_port ?d_settle_ports ?d_power_view ?d_cut_what_is_too_much ?d_answer_spare ?d_answer_port ?d_answer_settle ?d_answer_clear ?d_answer_again ?d_refusal_of_unlit ?d_answer_fault ?d_answer_draw ?d_answer_wish ?d_answer_supply ?d_answer_unplug ?d_answer_plug ?d_is_within ?d_ends_of ?d_are_in_range ?d_can_begin ?d_begin ?d_is_for_device ?d_is_for_port ?d_handle_wish ?d_handle_grant ?d_handle_taken ?d_deliver ?d_deliver_all ?d_all_energy ?d_state_view ?d_device_view ?d_port_view ?d_plan_view ?d_answer_deliver ?d_answer_lose ?d_answer_double ?d_answer_calm ?d_answer_tick ?d_answer_look ?d_answer_device ?d_answer_power ?d_answer_plan ?d_answer_state ?d_answer_peek ?d_answer ?d_answers ?d_World ?n_World ?d_Supply ?n_Supply ?d_Port ?n_Port ?d_Device ?n_Device ?d_Line ?n_Line
    case eC => k_is
    case tC => kernel_rfl
    case eH => k_is
    case tH => kernel_rfl
    case eB => k_is
    case tB => kernel_rfl
    case eR => k_is
    case lR => kernel_rfl
    case nR => kernel_rfl
    case oR => kernel_rfl
    case eN => k_is
    case tN => kernel_rfl
    case oN => kernel_rfl
    case b_len => k_is
    case b_max => k_is
    case b_min => k_is
    case b_sum => k_is
    case b_all => k_is
    case b_sorted => k_is
    case b_reversed => k_is
    case b_zip => k_is
    case b_range => k_is
    case b_list => k_is
    case i_FIRST_MOST => refine' WP.int_mk ?e; (case e => k_is)
    case i_MOST_GRANTS => refine' WP.int_mk ?e; (case e => k_is)
    case i_GRANT_MESSAGE => refine' WP.int_mk ?e; (case e => k_is)
    case i_TAKEN_MESSAGE => refine' WP.int_mk ?e; (case e => k_is)
    case i_WISH_MESSAGE => refine' WP.int_mk ?e; (case e => k_is)
    case i_OUT_OF_RANGE => refine' WP.int_mk ?e; (case e => k_is)
    case i_WRONG_STATE => refine' WP.int_mk ?e; (case e => k_is)
    case i_PORT_OFF => refine' WP.int_mk ?e; (case e => k_is)
    case i_BAG_FULL => refine' WP.int_mk ?e; (case e => k_is)
    case i_NO_WORLD => refine' WP.int_mk ?e; (case e => k_is)
    case i_BEGIN => refine' WP.int_mk ?e; (case e => k_is)
    case i_LAST_MOMENT => refine' WP.int_mk ?e; (case e => k_is)
    case d_base_of => refine' WP.def_mk ?a ?l ?c ?k; (case a => k_is); (case l => k_is); (case c => k_is); (case k => k_is)
    case d_amounts_on => refine' WP.def_mk ?a ?l ?c ?k; (case a => k_is); (case l => k_is); (case c => k_is); (case k => k_is)
    case d_can_give => refine' WP.def_mk ?a ?l ?c ?k; (case a => k_is); (case l => k_is); (case c => k_is); (case k => k_is)
    case d_may_give => refine' WP.def_mk ?a ?l ?c ?k; (case a => k_is); (case l => k_is); (case c => k_is); (case k => k_is)
    case d_reserved_at => refine' WP.def_mk ?a ?l ?c ?k; (case a => k_is); (case l => k_is); (case c => k_is); (case k => k_is)
    case d_all_reserved => refine' WP.def_mk ?a ?l ?c ?k; (case a => k_is); (case l => k_is); (case c => k_is); (case k => k_is)
    case d_drawn_at => refine' WP.def_mk ?a ?l ?c ?k; (case a => k_is); (case l => k_is); (case c => k_is); (case k => k_is)
    case d_all_drawn => refine' WP.def_mk ?a ?l ?c ?k; (case a => k_is); (case l => k_is); (case c => k_is); (case k => k_is)
    case d_latest_amount => refine' WP.def_mk ?a ?l ?c ?k; (case a => k_is); (case l => k_is); (case c => k_is); (case k => k_is)
    case d_bag_is_full => refine' WP.def_mk ?a ?l ?c ?k; (case a => k_is); (case l => k_is); (case c => k_is); (case k => k_is)
    case d_is_fit => refine' WP.def_mk ?a ?l ?c ?k; (case a => k_is); (case l => k_is); (case c => k_is); (case k => k_is)
    case d_surplus_wished => refine' WP.def_mk ?a ?l ?c ?k; (case a => k_is); (case l => k_is); (case c => k_is); (case k => k_is)
    case d_order_of_ports => refine' WP.def_mk ?a ?l ?c ?k; (case a => k_is); (case l => k_is); (case c => k_is); (case k => k_is)
    case d_restart_device => refine' WP.def_mk ?a ?l ?c ?k; (case a => k_is); (case l => k_is); (case c => k_is); (case k => k_is)
    case d_cut => refine' WP.def_mk ?a ?l ?c ?k; (case a => k_is); (case l => k_is); (case c => k_is); (case k => k_is)
    case d_light => refine' WP.def_mk ?a ?l ?c ?k; (case a => k_is); (case l => k_is); (case c => k_is); (case k => k_is)
    case d_put => refine' WP.def_mk ?a ?l ?c ?k; (case a => k_is); (case l => k_is); (case c => k_is); (case k => k_is)
    case d_tell => refine' WP.def_mk ?a ?l ?c ?k; (case a => k_is); (case l => k_is); (case c => k_is); (case k => k_is)
    case d_ask => refine' WP.def_mk ?a ?l ?c ?k; (case a => k_is); (case l => k_is); (case c => k_is); (case k => k_is)
    case d_give => refine' WP.def_mk ?a ?l ?c ?k; (case a => k_is); (case l => k_is); (case c => k_is); (case k => k_is)
    case d_make_plan => refine' WP.def_mk ?a ?l ?c ?k; (case a => k_is); (case l => k_is); (case c => k_is); (case k => k_is)
    case d_lower_port => refine' WP.def_mk ?a ?l ?c ?k; (case a => k_is); (case l => k_is); (case c => k_is); (case k => k_is)
    case d_has_room_to_light => refine' WP.def_mk ?a ?l ?c ?k; (case a => k_is); (case l => k_is); (case c => k_is); (case k => k_is)
    case d_has_room_for => refine' WP.def_mk ?a ?l ?c ?k; (case a => k_is); (case l => k_is); (case c => k_is); (case k => k_is)
    case d_raise_port => refine' WP.def_mk ?a ?l ?c ?k; (case a => k_is); (case l => k_is); (case c => k_is); (case k => k_is)
    case d_settle_ports => refine' WP.def_mk ?a ?l ?c ?k; (case a => k_is); (case l => k_is); (case c => k_is); (case k => k_is)
    case d_power_view => refine' WP.def_mk ?a ?l ?c ?k; (case a => k_is); (case l => k_is); (case c => k_is); (case k => k_is)
    case d_cut_what_is_too_much => refine' WP.def_mk ?a ?l ?c ?k; (case a => k_is); (case l => k_is); (case c => k_is); (case k => k_is)
    case d_answer_spare => refine' WP.def_mk ?a ?l ?c ?k; (case a => k_is); (case l => k_is); (case c => k_is); (case k => k_is)
    case d_answer_port => refine' WP.def_mk ?a ?l ?c ?k; (case a => k_is); (case l => k_is); (case c => k_is); (case k => k_is)
    case d_answer_settle => refine' WP.def_mk ?a ?l ?c ?k; (case a => k_is); (case l => k_is); (case c => k_is); (case k => k_is)
    case d_answer_clear => refine' WP.def_mk ?a ?l ?c ?k; (case a => k_is); (case l => k_is); (case c => k_is); (case k => k_is)
    case d_answer_again => refine' WP.def_mk ?a ?l ?c ?k; (case a => k_is); (case l => k_is); (case c => k_is); (case k => k_is)
    case d_refusal_of_unlit => refine' WP.def_mk ?a ?l ?c ?k; (case a => k_is); (case l => k_is); (case c => k_is); (case k => k_is)
    case d_answer_fault => refine' WP.def_mk ?a ?l ?c ?k; (case a => k_is); (case l => k_is); (case c => k_is); (case k => k_is)
    case d_answer_draw => refine' WP.def_mk ?a ?l ?c ?k; (case a => k_is); (case l => k_is); (case c => k_is); (case k => k_is)
    case d_answer_wish => refine' WP.def_mk ?a ?l ?c ?k; (case a => k_is); (case l => k_is); (case c => k_is); (case k => k_is)
    case d_answer_supply => refine' WP.def_mk ?a ?l ?c ?k; (case a => k_is); (case l => k_is); (case c => k_is); (case k => k_is)
    case d_answer_unplug => refine' WP.def_mk ?a ?l ?c ?k; (case a => k_is); (case l => k_is); (case c => k_is); (case k => k_is)
    case d_answer_plug => refine' WP.def_mk ?a ?l ?c ?k; (case a => k_is); (case l => k_is); (case c => k_is); (case k => k_is)
    case d_is_within => refine' WP.def_mk ?a ?l ?c ?k; (case a => k_is); (case l => k_is); (case c => k_is); (case k => k_is)
    case d_ends_of => refine' WP.def_mk ?a ?l ?c ?k; (case a => k_is); (case l => k_is); (case c => k_is); (case k => k_is)
    case d_are_in_range => refine' WP.def_mk ?a ?l ?c ?k; (case a => k_is); (case l => k_is); (case c => k_is); (case k => k_is)
    case d_can_begin => refine' WP.def_mk ?a ?l ?c ?k; (case a => k_is); (case l => k_is); (case c => k_is); (case k => k_is)
    case d_begin => refine' WP.def_mk ?a ?l ?c ?k; (case a => k_is); (case l => k_is); (case c => k_is); (case k => k_is)
    case d_is_for_device => refine' WP.def_mk ?a ?l ?c ?k; (case a => k_is); (case l => k_is); (case c => k_is); (case k => k_is)
    case d_is_for_port => refine' WP.def_mk ?a ?l ?c ?k; (case a => k_is); (case l => k_is); (case c => k_is); (case k => k_is)
    case d_handle_wish => refine' WP.def_mk ?a ?l ?c ?k; (case a => k_is); (case l => k_is); (case c => k_is); (case k => k_is)
    case d_handle_grant => refine' WP.def_mk ?a ?l ?c ?k; (case a => k_is); (case l => k_is); (case c => k_is); (case k => k_is)
    case d_handle_taken => refine' WP.def_mk ?a ?l ?c ?k; (case a => k_is); (case l => k_is); (case c => k_is); (case k => k_is)
    case d_deliver => refine' WP.def_mk ?a ?l ?c ?k; (case a => k_is); (case l => k_is); (case c => k_is); (case k => k_is)
    case d_deliver_all => refine' WP.def_mk ?a ?l ?c ?k; (case a => k_is); (case l => k_is); (case c => k_is); (case k => k_is)
    case d_all_energy => refine' WP.def_mk ?a ?l ?c ?k; (case a => k_is); (case l => k_is); (case c => k_is); (case k => k_is)
    case d_state_view => refine' WP.def_mk ?a ?l ?c ?k; (case a => k_is); (case l => k_is); (case c => k_is); (case k => k_is)
    case d_device_view => refine' WP.def_mk ?a ?l ?c ?k; (case a => k_is); (case l => k_is); (case c => k_is); (case k => k_is)
    case d_port_view => refine' WP.def_mk ?a ?l ?c ?k; (case a => k_is); (case l => k_is); (case c => k_is); (case k => k_is)
    case d_plan_view => refine' WP.def_mk ?a ?l ?c ?k; (case a => k_is); (case l => k_is); (case c => k_is); (case k => k_is)
    case d_answer_deliver => refine' WP.def_mk ?a ?l ?c ?k; (case a => k_is); (case l => k_is); (case c => k_is); (case k => k_is)
    case d_answer_lose => refine' WP.def_mk ?a ?l ?c ?k; (case a => k_is); (case l => k_is); (case c => k_is); (case k => k_is)
    case d_answer_double => refine' WP.def_mk ?a ?l ?c ?k; (case a => k_is); (case l => k_is); (case c => k_is); (case k => k_is)
    case d_answer_calm => refine' WP.def_mk ?a ?l ?c ?k; (case a => k_is); (case l => k_is); (case c => k_is); (case k => k_is)
    case d_answer_tick => refine' WP.def_mk ?a ?l ?c ?k; (case a => k_is); (case l => k_is); (case c => k_is); (case k => k_is)
    case d_answer_look => refine' WP.def_mk ?a ?l ?c ?k; (case a => k_is); (case l => k_is); (case c => k_is); (case k => k_is)
    case d_answer_device => refine' WP.def_mk ?a ?l ?c ?k; (case a => k_is); (case l => k_is); (case c => k_is); (case k => k_is)
    case d_answer_power => refine' WP.def_mk ?a ?l ?c ?k; (case a => k_is); (case l => k_is); (case c => k_is); (case k => k_is)
    case d_answer_plan => refine' WP.def_mk ?a ?l ?c ?k; (case a => k_is); (case l => k_is); (case c => k_is); (case k => k_is)
    case d_answer_state => refine' WP.def_mk ?a ?l ?c ?k; (case a => k_is); (case l => k_is); (case c => k_is); (case k => k_is)
    case d_answer_peek => refine' WP.def_mk ?a ?l ?c ?k; (case a => k_is); (case l => k_is); (case c => k_is); (case k => k_is)
    case d_answer => refine' WP.def_mk ?a ?l ?c ?k; (case a => k_is); (case l => k_is); (case c => k_is); (case k => k_is)
    case d_answers => refine' WP.def_mk ?a ?l ?c ?k; (case a => k_is); (case l => k_is); (case c => k_is); (case k => k_is)
    case d_World => refine' WP.cls_mk ?n ⟨?pg, ?hd, ?po, ?sa⟩ ⟨?mk, ?ini, ?fn, ?kc⟩ ?l ?c ?k; (case n => k_is); (case pg => k_is); (case hd => k_is); (case po => k_is); (case sa => k_is); (case mk => k_is); (case ini => k_is); (case fn => k_is); (case kc => k_is); (case l => k_is); (case c => k_is); (case k => k_is)
    case n_World => kernel_rfl
    case d_Supply => refine' WP.cls_mk ?n ⟨?pg, ?hd, ?po, ?sa⟩ ⟨?mk, ?ini, ?fn, ?kc⟩ ?l ?c ?k; (case n => k_is); (case pg => k_is); (case hd => k_is); (case po => k_is); (case sa => k_is); (case mk => k_is); (case ini => k_is); (case fn => k_is); (case kc => k_is); (case l => k_is); (case c => k_is); (case k => k_is)
    case n_Supply => kernel_rfl
    case d_Port => refine' WP.cls_mk ?n ⟨?pg, ?hd, ?po, ?sa⟩ ⟨?mk, ?ini, ?fn, ?kc⟩ ?l ?c ?k; (case n => k_is); (case pg => k_is); (case hd => k_is); (case po => k_is); (case sa => k_is); (case mk => k_is); (case ini => k_is); (case fn => k_is); (case kc => k_is); (case l => k_is); (case c => k_is); (case k => k_is)
    case n_Port => kernel_rfl
    case d_Device => refine' WP.cls_mk ?n ⟨?pg, ?hd, ?po, ?sa⟩ ⟨?mk, ?ini, ?fn, ?kc⟩ ?l ?c ?k; (case n => k_is); (case pg => k_is); (case hd => k_is); (case po => k_is); (case sa => k_is); (case mk => k_is); (case ini => k_is); (case fn => k_is); (case kc => k_is); (case l => k_is); (case c => k_is); (case k => k_is)
    case n_Device => kernel_rfl
    case d_Line => refine' WP.cls_mk ?n ⟨?pg, ?hd, ?po, ?sa⟩ ⟨?mk, ?ini, ?fn, ?kc⟩ ?l ?c ?k; (case n => k_is); (case pg => k_is); (case hd => k_is); (case po => k_is); (case sa => k_is); (case mk => k_is); (case ini => k_is); (case fn => k_is); (case kc => k_is); (case l => k_is); (case c => k_is); (case k => k_is)
    case n_Line => kernel_rfl
  case S => exact WP.S_case
